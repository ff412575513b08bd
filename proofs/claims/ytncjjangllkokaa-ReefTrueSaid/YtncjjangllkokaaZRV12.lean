import Derived.Test.YtncjjangllkokaaZRV11
set_option linter.all false
open Int renaming tdiv_eq_ediv_of_nonneg->OI,le_refl->OV,tdiv->Od,toNat->Oa
open Nat renaming strongRecOn->Ox,lt_of_lt_of_eq->Oo
open List renaming set->OL,replicate->Oi,range->Oe,length->Oc,length_set->OS,length_replicate->OC,getElem?_map->OA,getD_eq_getElem?_getD->Ol,getElem?_eq_none->Ou,getElem?_eq_getElem->O1
open Array renaming size->OD,extract->Oy
open Inhabited renaming default->NZ
namespace Go.Proofs.Ytncjjangllkokaa
open Go Go.CE Go.RowKit
noncomputable section
set_option maxRecDepth 100000
def Rh(p:Int->Bool)(q:Int->Int)(a b u:Int):Int×Int:=
 if h:0<=a/\a<b then(if p ((a+b).tdiv 2)=true then Rh p q a ((a+b).tdiv 2) (q ((a+b).tdiv 2))else Rh p q ((a+b).tdiv 2+1) b (q ((a+b).tdiv 2)))else(a,u)
termination_by (b-a).toNat
decreasing_by all_goals (have:=OI (a:=a+b) (b:=2) (by omega);omega)
theorem mE{a b:Int}(h0:0<=a)(h1:a<b):a<=(a+b).tdiv 2/\(a+b).tdiv 2<b:=by
 have:=OI (a:=a+b) (b:=2) (by omega);omega
theorem w5{p:Int->Bool}{q:Int->Int}{a b u:Int}(h:a=b):Rh p q a b u=(a,u):=by
 rw[Rh,dif_neg (by omega)]
theorem mA{p:Int->Bool}{q:Int->Int}{a b u:Int}(h0:0<=a)(h1:a<b)(hp:p ((a+b).tdiv 2)=true):Rh p q a b u=Rh p q a ((a+b).tdiv 2) (q ((a+b).tdiv 2)):=by
 rw[Rh,dif_pos ⟨h0,h1⟩,if_pos hp]
theorem rM{p:Int->Bool}{q:Int->Int}{a b u:Int}(h0:0<=a)(h1:a<b)(hp:p ((a+b).tdiv 2)=false):Rh p q a b u=Rh p q ((a+b).tdiv 2+1) b (q ((a+b).tdiv 2)):=by
 rw[Rh,dif_pos ⟨h0,h1⟩,if_neg (by rw[hp];decide)]
theorem qj{p:Int->Bool}{q:Int->Int}:∀(n:Nat) (a b u:Int),(b-a).toNat=n->0<=a->a<=b->(∀r r',a<=r->r<=r'->r'<b->p r=true->p r'=true)->
 a<=(Rh p q a b u).1/\(Rh p q a b u).1<=b/\(∀r,a<=r->r<(Rh p q a b u).1->p r=false)/\(∀r,(Rh p q a b u).1<=r->r<b->p r=true):=by
 intro n;induction n using Ox with
 |_ n ih=>
  intro a b u hn h0 h1 hm;by_cases e:a=b
  ·rw[w5 e];exact⟨OV _,h1,fun r h2 h3=>by omega,fun r h2 h3=>by omega⟩
  ·have hi:=mE h0 (show a<b by omega);cases hp:p ((a+b).tdiv 2)with
   |true=>
    rw[mA h0 (by omega) hp];have:=ih _ (by omega) a ((a+b).tdiv 2) (q ((a+b).tdiv 2)) rfl h0 hi.1 (fun r r' g1 g2 g3=>hm r r' g1 g2 (by omega));refine⟨this.1,by omega,this.2.2.1,fun r h2 h3=> ?_⟩;by_cases e2:r<(a+b).tdiv 2
    ·exact this.2.2.2 r h2 e2
    ·exact hm _ r hi.1 (by omega) h3 hp
   |false=>
    rw[rM h0 (by omega) hp];have:=ih _ (by omega) ((a+b).tdiv 2+1) b (q ((a+b).tdiv 2)) rfl (by omega) (by omega) (fun r r' g1 g2 g3=>hm r r' (by omega) g2 g3);refine⟨by omega,this.2.1,fun r h2 h3=> ?_,this.2.2.2⟩;by_cases e2:(a+b).tdiv 2<r
    ·exact this.2.2.1 r (by omega) h3
    ·cases hr:p r with
     |false=>rfl
     |true=>have:=hm r _ h2 (by omega) hi.2 hr;rw[hp]at this;cases this
theorem Mt{a b:Int}(h0:0<=a)(h1:a<=b):a<=(a+b).tdiv 2/\(a+b).tdiv 2<=b:=by
 have:=OI (a:=a+b) (b:=2) (by omega);omega
def ZZ(Qc n:Int):Int:=n+(n*Qc).tdiv 1000
def nZ(room f g:Int):Int:=if room<=f then 0 else if(f*g).tdiv 1000<room-f then(f*g).tdiv 1000 else room-f
theorem Tx{a r:Int}(ha:0<=a/\a<=1000000000000)(hr:0<=r/\r<=2000):0<=a*r/\a*r<=2000000000000000/\0<=(a*r).tdiv 1000/\(a*r).tdiv 1000<=2000000000000:=by
 have e0:0<=a*r:=Int.mul_nonneg ha.1 hr.1;have e1:a*r<=1000000000000*2000:=Int.mul_le_mul ha.2 hr.2 hr.1 (by omega);have e2:(a*r).tdiv 1000=(a*r) / 1000:=OI e0;omega
def ZQ(Qc n c:Int):Bool:=decide (n<=ZZ Qc c)
def XU(Qc n:Int):Int:=(Rh (ZQ Qc n) (fun _=>0) 0 n 0).1
theorem FH(B:Lo)(r:Qi)(n:Int):let a:=n*r.Qc;let b:=n+Od a 1000;QW (Qu YP (Q9 YP) J0 B 6 1 (Qx YP 60 12 (([.agg (Q5 r).toArray,.int .i64 n]).map (Q8 0 4))) Zf 1
 [(6,WV a),(7,WV (Od a 1000)),(8,WV b)] 0 [] []) []=some (.int .i64 b,
 [wq b=n+Od a 1000,IntKind.wrap .i64 (Od a 1000)=Od a 1000,wq a=n*r.Qc]):=by intro a b;kernel_rfl
set_option maxHeartbeats 4000000 in
theorem Iq(r:Qi)(n:Int)(hm:0<=r.Qc/\r.Qc<=2000)(hn:0<=n/\n<=1000000000000){B:Lo}(hJ:∀w,B.has w->J0 w):EndsT YP B (Qx YP 60 12 (([.agg (Q5 r).toArray,.int .i64 n]).map (Q8 0 4))) (.int .i64 (ZZ r.Qc n)):=by
 have e0:=Tx hn hm;exact(GoE.endsT okF hJ Qg GoE.start (FH B r n)
  ⟨(Xq (by omega) (by omega)),⟨(bg (by omega) (by omega)),⟨(Xq (by omega) (by omega)),trivial⟩⟩⟩).cast (by rfl)
theorem L4(r:Qi)(n:Int)(hm:0<=r.Qc/\r.Qc<=2000)(hn:0<=n/\n<=1000000000000):Q0 YP J0 60 #[.agg (Q5 r).toArray,.int .i64 n] (.int .i64 (ZZ r.Qc n)):=
 Xo (ts:=[.agg (Q5 r).toArray,.int .i64 n]) Zh (c0:=Qx YP 60 12 (([.agg (Q5 r).toArray,.int .i64 n]).map (Q8 0 4))) (by kernel_rfl) (by kernel_rfl) fun B hJ=>Iq r n hm hn hJ
theorem Cx(B:Lo)(x:Qf)  :QW (Qu YP (Q9 YP) J0 B 10 1 (Qx YP 61 10 (([.agg (Qm x).toArray,.bool true]).map (Q8 0 4))) Zf 1
 [] 0 [] []) []=some (.agg #[.int .i64 x.JU,.int .i64 x.JV],
 []):=by kernel_rfl
theorem Cw(B:Lo)(x:Qf)  :QW (Qu YP (Q9 YP) J0 B 11 1 (Qx YP 61 10 (([.agg (Qm x).toArray,.bool false]).map (Q8 0 4))) Zf 1
 [] 0 [] []) []=some (.agg #[.int .i64 x.Pe,.int .i64 x.Pf],
 []):=by kernel_rfl
set_option maxHeartbeats 4000000 in
theorem Fi(x:Qf)(b:Bool)  {B:Lo}(hJ:∀w,B.has w->J0 w):EndsT YP B (Qx YP 61 10 (([.agg (Qm x).toArray,.bool b]).map (Q8 0 4))) (.agg #[.int .i64 (if b then x.JU else x.Pe),.int .i64 (if b then x.JV else x.Pf)]):=by
 cases b with
 |true=>
  exact(GoE.endsT okF hJ Qg GoE.start (Cx B x)
   trivial).cast (by rfl)
 |false=>
  exact(GoE.endsT okF hJ Qg GoE.start (Cw B x)
   trivial).cast (by rfl)
theorem Fj(x:Qf)(b:Bool)  :Q0 YP J0 61 #[.agg (Qm x).toArray,.bool b] (.agg #[.int .i64 (if b then x.JU else x.Pe),.int .i64 (if b then x.JV else x.Pf)]):=
 Xo (ts:=[.agg (Qm x).toArray,.bool b]) Zh (c0:=Qx YP 61 10 (([.agg (Qm x).toArray,.bool b]).map (Q8 0 4))) (by kernel_rfl) (by kernel_rfl) fun B hJ=>Fi x b  hJ
def lp(n a b:Int):Array Value:=#[.int .i64 n,.int .i64 a,.int .i64 b]
theorem yJ(B:Lo)(n a b:Int):QW (Qu YP (Q9 YP) J0 B 6 1 (Qx YP 32 11 (([.int .i64 n,.agg #[.int .i64 a,.int .i64 b]]).map (Q8 0 4))) Zf 1
 [(7,Qk.pure (.bool true) [])] 0 [] []) []=some (.bool true,
 [Q6 []/\Q0 YP J0 55 (lp n a b) (.bool true)]):=by kernel_rfl
theorem yI(B:Lo)(n a b:Int):QW (Qu YP (Q9 YP) J0 B 6 1 (Qx YP 32 11 (([.int .i64 n,.agg #[.int .i64 a,.int .i64 b]]).map (Q8 0 4))) Zf 1
 [(7,Qk.pure (.bool false) [])] 0 [] []) []=some (.bool false,
 [Q6 []/\Q0 YP J0 55 (lp n a b) (.bool false)]):=by kernel_rfl
set_option maxHeartbeats 4000000 in
theorem C6(n a b:Int)  {B:Lo}(hJ:∀w,B.has w->J0 w):EndsT YP B (Qx YP 32 11 (([.int .i64 n,.agg #[.int .i64 a,.int .i64 b]]).map (Q8 0 4))) (.bool (V0 n a b)):=by
 cases q0:V0 n a b with
 |true=>
  exact(GoE.endsT okF hJ Qg GoE.start (yJ B n a b)
   ⟨⟨trivial,(by have t_:=jD (n) (a) (b);rw[q0]at t_;exact t_)⟩,trivial⟩).cast (by rfl)
 |false=>
  exact(GoE.endsT okF hJ Qg GoE.start (yI B n a b)
   ⟨⟨trivial,(by have t_:=jD (n) (a) (b);rw[q0]at t_;exact t_)⟩,trivial⟩).cast (by rfl)
theorem Jh(n a b:Int)  :Q0 YP J0 32 #[.int .i64 n,.agg #[.int .i64 a,.int .i64 b]] (.bool (V0 n a b)):=
 Xo (ts:=[.int .i64 n,.agg #[.int .i64 a,.int .i64 b]]) Zh (c0:=Qx YP 32 11 (([.int .i64 n,.agg #[.int .i64 a,.int .i64 b]]).map (Q8 0 4))) (by kernel_rfl) (by kernel_rfl) fun B hJ=>C6 n a b  hJ
def c7(B:Lo)(r:Qi)(n c:Int):List Prop:=[Q6 []/\Q0 YP J0 60 #[.agg #[QI r.Qb.length (Qh Qm r.Qb),.int .i64 r.Qc,.int .i64 r.Qd],.int .i64 n] (.int .i64 (ZZ r.Qc n)),(!XS c n)=true]++([]:List Prop)
def lq(r:Qi)(n c:Int):QD:=[(4,ZF),(9,Qk.pure (.int .i64 (ZZ r.Qc n)) [])]
theorem yM(B:Lo)(r:Qi)(n c:Int):QW (Qu YP (Q9 YP) J0 B 6 1 (Qx YP 33 17 (([.agg (Q5 r).toArray,.int .i64 n,.int .i64 c]).map (Q8 0 4))) Zf 1
 (lq r n c++[(10,ZF)]) 0 [] []) []=some (.bool true,
 [(!XS (ZZ r.Qc n) c)=true]++c7 B r n c):=by kernel_rfl
theorem yL(B:Lo)(r:Qi)(n c:Int):QW (Qu YP (Q9 YP) J0 B 6 1 (Qx YP 33 17 (([.agg (Q5 r).toArray,.int .i64 n,.int .i64 c]).map (Q8 0 4))) Zf 1
 (lq r n c++[(10,Wm)]) 0 [] []) []=some (.bool false,
 [(!XS (ZZ r.Qc n) c)=false]++c7 B r n c):=by kernel_rfl
theorem yK(B:Lo)(r:Qi)(n c:Int):QW (Qu YP (Q9 YP) J0 B 6 1 (Qx YP 33 17 (([.agg (Q5 r).toArray,.int .i64 n,.int .i64 c]).map (Q8 0 4))) Zf 1
 [(4,Wm)] 0 [] []) []=some (.bool false,
 [(!XS c n)=false]):=by kernel_rfl
set_option maxHeartbeats 4000000 in
theorem C7(r:Qi)(n c:Int)(hm:0<=r.Qc/\r.Qc<=2000)(hn:0<=n/\n<=1000000000000){B:Lo}(hJ:∀w,B.has w->J0 w):EndsT YP B (Qx YP 33 17 (([.agg (Q5 r).toArray,.int .i64 n,.int .i64 c]).map (Q8 0 4))) (.bool (decide (n<=c) && decide (c<=ZZ r.Qc n))):=by
 by_cases q0:(n:Int)<=(c)
 ·have V5:Q6 (c7 B r n c):=by
   exact⟨⟨trivial,L4 (r) (n) (by with_reducible assumption) (by with_reducible assumption)⟩,⟨(WZ q0),trivial⟩⟩
  by_cases q1:(c:Int)<=(ZZ r.Qc n)
  ·exact(GoE.endsT okF hJ Qg GoE.start (yM B r n c)
    ⟨(WZ q1),V5⟩).cast (by(simp[*];done))
  ·exact(GoE.endsT okF hJ Qg GoE.start (yL B r n c)
    ⟨(UX (Int.not_le.1 q1)),V5⟩).cast (by(simp[*];done))
 ·exact(GoE.endsT okF hJ Qg GoE.start (yK B r n c)
   ⟨(UX (Int.not_le.1 q0)),trivial⟩).cast (by(simp[*];done))
theorem qT(r:Qi)(n c:Int)(hm:0<=r.Qc/\r.Qc<=2000)(hn:0<=n/\n<=1000000000000):Q0 YP J0 33 #[.agg (Q5 r).toArray,.int .i64 n,.int .i64 c] (.bool (decide (n<=c) && decide (c<=ZZ r.Qc n))):=
 Xo (ts:=[.agg (Q5 r).toArray,.int .i64 n,.int .i64 c]) Zh (c0:=Qx YP 33 17 (([.agg (Q5 r).toArray,.int .i64 n,.int .i64 c]).map (Q8 0 4))) (by kernel_rfl) (by kernel_rfl) fun B hJ=>C7 r n c hm hn hJ
def Xg(x:Qf):Span:=⟨x.glo,x.ghi⟩
def VI(x:Qf):Span:=⟨x.Pe,x.Pf⟩
def X2(Qc:Int)(x:Qf):Span:=⟨x.count,ZZ Qc x.count⟩
def bN(x_:Qf):Array Value:=#[.int .i64 x_.count,.int .i64 x_.room,.int .i64 x_.glo,.int .i64 x_.ghi,.int .i64 x_.Xs,.int .i64 x_.Zt,.int .i64 x_.Pe,.int .i64 x_.Pf,.int .i64 x_.JU,.int .i64 x_.JV,.int .i64 x_.goal,.int .i64 x_.Uk]
def SB(xs:List Qf)(i:Int):=(xs.getD i.toNat NZ)
def qb(xs:List Qf)(i:Int):Value:=(.agg #[.int .i64 (Qf.glo (SB xs i)),.int .i64 (Qf.ghi (SB xs i))])
def D3(xs:List Qf)(i:Int)(ys:List Span):Array Value:=(Qh Qo (OL ys i.toNat {lo:=Qf.glo (SB xs i),hi:=Qf.ghi (SB xs i)}))
def qa(xs:List Qf):Array Value:=(Qh (Ur [.int .i64 0,.int .i64 0]) (Oi xs.length ()))
def SC(xs:List Qf)(i:Int)(ys:List Span):List Value:=[Value.func (Fn.func 104) #[] #[],.slice (some {block:=2,off:=0}) xs.length 2,Q2 1 (QI xs.length (Qh Qm xs)),.int .i64 (↑xs.length:Int),.int .i64 i]
def Yj(xs:List Qf)(i:Int)(ys:List Span):List Obj:=[.cells (Qh Qo ys) 38 (0,0)]
def SD:List Item:=([.code [1,1,0,1,0,0],.inLoop [1,1,0,1,0,0],.inBlock 0,.code [1,1,1]]).map (it (QP YP 102))
def D9(B:Lo)(c0:CF)(xs:List Qf)(i:Int)(ys:List Span):Prop:=∃dJ:Nat->Value,(∀t,Xy (dJ t))/\GoE YP B c0 Zf 1 (QK 102 26 (([1,5,11,12,13]:List Nat).zip (SC xs i ys)) dJ SD) (QH (Yj xs i ys)) (2+(Yj xs i ys).length) []
def SF(xs:List Qf)(i:Int)(ys:List Span)(Qs:Nat->Value):Qy:=[(3,Obj.cells (bN (xs.getD i.toNat NZ)) 54),(0,Obj.coro none),(1,Obj.coro none),(2,Obj.cells (Qh Qo ys) 38)]
def bO(xs:List Qf)(i:Int)(ys:List Span)(Qs:Nat->Value):CF:=⟨104,ofList 5 [.agg (bN (xs.getD i.toNat NZ))],[Item.code (QP YP 104)],[],.run,none⟩
theorem D7(B:Lo)(xs:List Qf)(i:Int)(ys:List Span)(Qs:Nat->Value):CE.finK 4 (Qu YP (Q9 YP) J0 B 6 4 (bO xs i ys Qs) (SF xs i ys Qs) 4
 [] 0 [] []) [] [] []=some (OO.ret (qb xs i),[],[],
 []):=by kernel_rfl
theorem D6(B:Lo)(xs:List Qf)(i:Int)(ys:List Span)(Qs:Nat->Value):let f:=qb xs i;let e:=SB xs i;let c:=D3 xs i ys;let b:=Oa i;let d:=xs.getD b NZ;let a:=OL ys b {lo:=e.glo,hi:=e.ghi};landM (Qu YP (Q9 YP) J0 B 13 1 (QK 102 26 (([1,5,11,12,13]:List Nat).zip (SC xs i ys)) Qs SD) (QH (Yj xs i ys)) (2+(Yj xs i ys).length)
 [(0,ZF),(2,Qk.tidx b (bN e)),(11,Qk.call (Oe 4) (OO.ret f) ([]++(4,Xk)::QU 5 []) 5 []),(12,Qk.Za (Hint.idx b)),(13,Qk.Za (Hint.st c)),(14,WV (i+1))] 0 [] []) [1,5,11,12,13] [(2,KS.cells [] c)] []=some ⟨102,26,SD,[],.run,none,SC xs (i+1) a,Yj xs (i+1) a,
 [QE 1 [] c c,wq (i+1)=i+1,0+Oa i*2+TypeInfo.size Try.t38<=OD (Qh Qo ys)/\splice (Qh Qo ys) (0+Oa i*2) (Value.cells (Zj {len:=16000,tr:=Tri.set 14 (Tri.set 14 Tri.lf 22 f) 23 (.pointer (some {block:=2,off:=0+Oa i*2}))} 22))=Qh Qo (OL ys b {lo:=d.glo,hi:=d.ghi}),i=(↑b:Int)/\Oa i<Oc xs,FJ YP B (bO xs i ys Qs) (SF xs i ys Qs) 4 (OO.ret f) (([]++((4,Xk)::QU (4+1) []))++SF xs i ys Qs) 5 (Oe 4) [],Yr i xs.length (Qh Qm xs) Try.t54.size (bN d),XS i (↑xs.length:Int)=true]⟩:=by intro f e c b d a;kernel_rfl
theorem D5(B:Lo)(xs:List Qf)(i:Int)(ys:List Span)(Qs:Nat->Value):let a:=Fz.cs {k:=2,rs:=[],cs:=Qh Qo ys};QW (Qu YP (Q9 YP) J0 B 9 1 (QK 102 26 (([1,5,11,12,13]:List Nat).zip (SC xs i ys)) Qs SD) (QH (Yj xs i ys)) (2+(Yj xs i ys).length)
 [(0,Wm)] 0 [] []) [{k:=2,rs:=[],cs:=Qh Qo ys}]=some (QI xs.length a,
 [Zn (Fz.rs {k:=2,rs:=[],cs:=Qh Qo ys}) (Qh Qo ys) a,XS i (↑xs.length:Int)=false]):=by intro a;kernel_rfl
theorem D4(B:Lo)(xs:List Qf):let c:=Oc xs;let b:=Zj {len:=16000,tr:=Tri.set 14 Tri.lf 9 (.int .i64 (↑c:Int))} 9;let a:=Oi c {lo:=0,hi:=0};landM (Qu YP (Q9 YP) J0 B 9 1 (Qx YP 102 26 (([KN xs,.func (.func 104) #[] #[]]).map (Q8 0 4))) Zf 1
 [(3,Qk.Za (Hint.mk c (qa xs)))] 0 [] []) [1,5,11,12,13] [(1,KS.rows [] [] [] (Qh Qo a))] []=some ⟨102,26,SD,[],.run,none,SC xs (0) a,Yj xs (0) a,
 [Zw 1 [] [] [] (qa xs) (Qh Qo a),RH YP 36 b b=some (38,Qh (Ur [.int .i64 0,.int .i64 0]) (Oi c ()),Oc xs,TypeInfo.size Try.t38)]⟩:=by intro c b a;kernel_rfl
set_option maxHeartbeats 4000000 in
theorem D8(xs:List Qf)(hn:xs.length<=1000000){B:Lo}(hJ:∀w,B.has w->J0 w){c0:CF}:∀m:Nat,(∀(i:Int) (ys:List Span),(xs.length-i.toNat)=m->∀(h0:0<=i) (hy:ys=RE Xg ⟨0,0⟩ xs i),D9 B c0 xs i ys->EndsT YP B c0 (YI (xs.map Xg))):=by
 intro m0;induction m0 using Ox with
 |_ m0 ih0=>
  intro i ys JP h0 hy ⟨Qs,ZV,XF⟩;have hyl:ys.length=xs.length:=by rw[hy];exact SL
  by_cases q0:(i:Int)<((↑xs.length:Int))
  ·have Te:FJ YP B (bO xs i ys Qs) (SF xs i ys Qs) 4 (OO.ret (.agg #[.int .i64 (Qf.glo (xs.getD i.toNat NZ)),.int .i64 (Qf.ghi (xs.getD i.toNat NZ))])) (([]++((4,Xk)::QU (4+1) []))++SF xs i ys Qs) 5 (Oe 4) []:=by
    exact FinK.fjB (GoE.finK okF hJ Qg (Q7 (by kernel_rfl)) (Qw (by kernel_rfl)) ((GoE.refl (P:=YP) (B:=B) (c0:=bO xs i ys Qs) (Q7 (by kernel_rfl))).widen (Wf:=((([]):List (Nat×KS)).map (·.1))) (by simp) (Qw (by kernel_rfl))) (D7 B xs i ys Qs)
     trivial) (ex:=[2]) (by kernel_rfl) ⟨trivial,⟨trivial,⟨trivial,⟨(JM (t:=38) (fl:=(0,0)) (fun x=>List.all_eq_true.1 (by rfl))),trivial⟩⟩⟩⟩
   exact((ih0 _ (by omega)) (i+1) (OL ys i.toNat {lo:=Qf.glo (xs.getD i.toNat NZ),hi:=Qf.ghi (xs.getD i.toNat NZ)}) rfl (by omega) (by(subst hy;exact SK (f:=Xg) h0 q0))
    (XF.landM okF hJ Qg (D6 B xs i ys Qs)
    (by exact⟨(Qn (Qq (fun x=>List.all_eq_true.1 (by rfl)))),⟨(Xq (by omega) (by omega)),⟨(by exact Sl (z:=2) (k:=Oa i) (fun _=>rfl) (by first|omega|(rw[OS];omega)|(rw[OC];omega)) rfl rfl),⟨⟨by omega,by omega⟩,⟨Te,⟨⟨by omega,by omega,(QB (z:=12) (fun _=>rfl) (by omega))⟩,⟨(XC q0),trivial⟩⟩⟩⟩⟩⟩⟩) (by kernel_rfl) (by kernel_rfl))).cast (by rfl)
  ·exact(GoE.endsT okF hJ Qg XF (D5 B xs i ys Qs)
    ⟨(XZ (fun x=>List.all_eq_true.1 (by rfl))),⟨(XO (Int.not_lt.1 q0)),trivial⟩⟩).cast (by exact dE (hy.trans (SM (by omega))) (by simp))
set_option maxHeartbeats 4000000 in
theorem GM(xs:List Qf)(hn:xs.length<=1000000){B:Lo}(hJ:∀w,B.has w->J0 w):EndsT YP B (Qx YP 102 26 (([KN xs,.func (.func 104) #[] #[]]).map (Q8 0 4))) (YI (xs.map Xg)):=by
 exact((D8 xs hn hJ _) (0) (Oi xs.length {lo:=0,hi:=0}) rfl (by omega) (by exact fh)
  (GoE.start.landM okF hJ Qg (D4 B xs)
  (by exact⟨(by exact(V7 (by exact⟨(.simple rfl),⟨(.simple rfl),trivial⟩⟩) _)),⟨(dg (bytes:=16) (by kernel_rfl) (by omega) (by omega) (by omega)),trivial⟩⟩) (by kernel_rfl) (by kernel_rfl))).cast (by rfl)
theorem Mo(xs:List Qf)(hn:xs.length<=1000000):Q0 YP J0 102 #[KN xs,.func (.func 104) #[] #[]] (YI (xs.map Xg)):=
 Xo (ts:=[KN xs,.func (.func 104) #[] #[]]) Zh (c0:=Qx YP 102 26 (([KN xs,.func (.func 104) #[] #[]]).map (Q8 0 4))) (by kernel_rfl) (by kernel_rfl) fun B hJ=>GM xs hn hJ
def bG(rf:Qi):=(List.map Xg rf.Qb)
def pR(rf:Qi):Value:=(QI (Oc (bG rf)) (Qh Qo (bG rf)))
theorem Db(B:Lo)(rf:Qi)(Qa:List Int):QW (Qu YP (Q9 YP) J0 B 6 1 (Qx YP 83 7 (([.agg (QL rf Qa).toArray]).map (Q8 0 4))) Zf 1
 [(5,Qk.pure (pR rf) [])] 0 [] []) []=some (QI (Oc (bG rf)) (Qh Qo (bG rf)),
 [Q6 []/\Q0 YP J0 102 #[QI rf.Qb.length (Qh Qm rf.Qb),Value.func (Fn.func 104) #[] #[]] (pR rf)]):=by kernel_rfl
set_option maxHeartbeats 4000000 in
theorem Gt(rf:Qi)(Qa:List Int)(hn:rf.Qb.length<=1000000){B:Lo}(hJ:∀w,B.has w->J0 w):EndsT YP B (Qx YP 83 7 (([.agg (QL rf Qa).toArray]).map (Q8 0 4))) (YI (rf.Qb.map Xg)):=by
 exact(GoE.endsT okF hJ Qg GoE.start (Db B rf Qa)
  ⟨⟨trivial,Mo rf.Qb (by with_reducible assumption)⟩,trivial⟩).cast (by rfl)
theorem z4(rf:Qi)(Qa:List Int)(hn:rf.Qb.length<=1000000):Q0 YP J0 83 #[.agg (QL rf Qa).toArray] (YI (rf.Qb.map Xg)):=
 Xo (ts:=[.agg (QL rf Qa).toArray]) Zh (c0:=Qx YP 83 7 (([.agg (QL rf Qa).toArray]).map (Q8 0 4))) (by kernel_rfl) (by kernel_rfl) fun B hJ=>Gt rf Qa hn hJ
def Tl(x_:Qf):Array Value:=#[.int .i64 x_.count,.int .i64 x_.room,.int .i64 x_.glo,.int .i64 x_.ghi,.int .i64 x_.Xs,.int .i64 x_.Zt,.int .i64 x_.Pe,.int .i64 x_.Pf,.int .i64 x_.JU,.int .i64 x_.JV,.int .i64 x_.goal,.int .i64 x_.Uk]
def KH(rf:Qi)(i:Int):=(rf.Qb.getD i.toNat NZ)
def KI(rf:Qi)(i:Int):=(KH rf i)
def lC(rf:Qi)(i:Int):Value:=(.agg #[.int .i64 (Qf.count (KH rf i)),.int .i64 (Qf.count (KH rf i)+Od (Qf.count (KH rf i)*rf.Qc) 1000)])
def Tk(rf:Qi)(i:Int):=(Qf.count (KI rf i)*rf.Qc)
def lB(rf:Qi)(i:Int)(ys:List Span):Array Value:=(Qh Qo (OL ys i.toNat {lo:=Qf.count (KH rf i),hi:=Qf.count (KH rf i)+Od (Qf.count (KH rf i)*rf.Qc) 1000}))
def Tj(rf:Qi):=(List.map (X2 rf.Qc) rf.Qb)
def ze(rf:Qi):Value:=(Q2 2 (QI (Oc (Tj rf)) (Qh Qo (Tj rf))))
def lA(rf:Qi)(i:Int):Value:=(.agg #[.int .i64 (Qf.count (KI rf i)),.int .i64 (Qf.count (KI rf i)+Od (Tk rf i) 1000)])
def l9(rf:Qi):Array Value:=(Qh (Ur [.int .i64 0,.int .i64 0]) (Oi rf.Qb.length ()))
def l8(rf:Qi)(i:Int)(ys:List Span):Array Value:=(Qh Qo (OL ys i.toNat {lo:=Qf.count (KI rf i),hi:=Qf.count (KI rf i)+Od (Tk rf i) 1000}))
def hC(rf:Qi):Array Value:=(Qh Qo (Oi rf.Qb.length {lo:=0,hi:=0}))
def WY(rf:Qi)(Qa:List Int):Qy:=[(1,Obj.cells #[Q2 0 (QI rf.Qb.length (Qh Qm rf.Qb)),.int .i64 rf.Qc,.int .i64 rf.Qd,.int .i64 (Qa.getD 0 0),.int .i64 (Qa.getD 1 0),.int .i64 (Qa.getD 2 0),.int .i64 (Qa.getD 3 0)] 84),(0,Obj.coro none)]
def YQ(rf:Qi)(Qa:List Int):CF:=⟨102,ofList 26 [Q2 0 (QI rf.Qb.length (Qh Qm rf.Qb)),Value.func (Fn.func 103) #[] #[pA 1 0]],[Item.code (QP YP 102)],[],.run,none⟩
def Ku(rf:Qi)(Qa:List Int)(i:Int)(ys:List Span):List Value:=[Value.func (Fn.func 103) #[] #[pA 1 0],.slice (some {block:=3,off:=0}) rf.Qb.length 2,Q2 0 (QI rf.Qb.length (Qh Qm rf.Qb)),.int .i64 (↑rf.Qb.length:Int),.int .i64 i]
def Kt(rf:Qi)(Qa:List Int)(i:Int)(ys:List Span):List Obj:=[]
def VZ(rf:Qi)(Qa:List Int)(i:Int)(ys:List Span):List Obj:=[.cells (Qh Qo ys) 38 (0,0)]
def Kv:List Item:=([.code [1,1,0,1,0,0],.inLoop [1,1,0,1,0,0],.inBlock 0,.code [1,1,1]]).map (it (QP YP 102))
def PU(rf:Qi)(Qa:List Int)(i:Int)(ys:List Span)(Qs:Nat->Value):Qy:=[(4,Obj.cells (Tl (rf.Qb.getD i.toNat NZ)) 54),(2,Obj.coro none),(3,Obj.cells (Qh Qo ys) 38),(1,Obj.cells #[Q2 0 (QI rf.Qb.length (Qh Qm rf.Qb)),.int .i64 rf.Qc,.int .i64 rf.Qd,.int .i64 (Qa.getD 0 0),.int .i64 (Qa.getD 1 0),.int .i64 (Qa.getD 2 0),.int .i64 (Qa.getD 3 0)] 84),(0,Obj.coro none)]
def Tn(rf:Qi)(Qa:List Int)(i:Int)(ys:List Span)(Qs:Nat->Value):CF:=⟨103,ofList 13 [.agg (Tl (rf.Qb.getD i.toNat NZ)),pA 1 0],[Item.code (QP YP 103)],[],.run,none⟩
theorem zi(B:Lo)(rf:Qi)(Qa:List Int)(i:Int)(ys:List Span)(Qs:Nat->Value):let a:=rf.Qb.getD i.toNat NZ;CE.finK 5 (Qu YP (Q9 YP) J0 B 6 5 (Tn rf Qa i ys Qs) (PU rf Qa i ys Qs) 5
 [(9,Qk.pure (.int .i64 (Qf.count (KI rf i)+Od (Tk rf i) 1000)) [])] 0 [] []) [] [] []=some (OO.ret (lA rf i),[],[],
 [Q6 []/\Q0 YP J0 100 #[.int .i64 a.count,.int .i64 rf.Qc] (.int .i64 (a.count+Od (a.count*rf.Qc) 1000))]):=by intro a;kernel_rfl
theorem zh(B:Lo)(rf:Qi)(Qa:List Int)(i:Int)(ys:List Span)(Qs:Nat->Value):let f:=VZ rf Qa i ys;let e:=KI rf i;let d:=Oa i;let c:=rf.Qb;let b:=c.getD d NZ;let a:=OL ys d {lo:=e.count,hi:=e.count+Od (Tk rf i) 1000};CE.landA 2 (Qu YP (Q9 YP) J0 B 13 2 (Zc (none) 102 26 (([1,5,11,12,13]:List Nat).zip (Ku rf Qa i ys)) Qs Kv) (XL (WY rf Qa) 2 (([]:List Nat).zip (Kt rf Qa i ys)) f) (2+1+f.length)
 [(0,ZF),(2,Qk.tidx d (Tl e)),(11,Qk.call (Oe 5) (OO.ret (lA rf i)) ([]++(5,Xk)::QU 6 []) 6 []),(12,Qk.Za (Hint.idx d)),(13,Qk.Za (Hint.st (l8 rf i ys))),(14,WV (i+1))] 0 [] []) [1,5,11,12,13] [] [(3,KS.cells [] (l8 rf i ys))] []=some ⟨102,26,Kv,[],.run,none,Ku rf Qa (i+1) a,([]:List Nat).zip (Kt rf Qa (i+1) a),VZ rf Qa (i+1) a,
 [QE 2 [] (lB rf i ys) (lB rf i ys),wq (i+1)=i+1,0+Oa i*2+TypeInfo.size Try.t38<=OD (Qh Qo ys)/\splice (Qh Qo ys) (0+Oa i*2) (Value.cells (Zj {len:=16000,tr:=Tri.set 14 (Tri.set 14 Tri.lf 22 (lC rf i)) 23 (.pointer (some {block:=3,off:=0+Oa i*2}))} 22))=Qh Qo (OL ys d {lo:=b.count,hi:=b.count+Od (b.count*rf.Qc) 1000}),i=(↑d:Int)/\Oa i<Oc c,FJ YP B (Tn rf Qa i ys Qs) (PU rf Qa i ys Qs) 5 (OO.ret (lC rf i)) (([]++((5,Xk)::QU (5+1) []))++PU rf Qa i ys Qs) 6 (Oe 5) [],Yr i c.length (Qh Qm c) Try.t54.size (Tl b),XS i (↑c.length:Int)=true]⟩:=by intro f e d c b a;kernel_rfl
theorem zg(B:Lo)(rf:Qi)(Qa:List Int)(i:Int)(ys:List Span)(Qs:Nat->Value):let c:=VZ rf Qa i ys;let b:=Oc rf.Qb;let a:=Fz.cs {k:=3,rs:=[],cs:=Qh Qo ys};CE.finK 2 (Qu YP (Q9 YP) J0 B 9 2 (Zc (none) 102 26 (([1,5,11,12,13]:List Nat).zip (Ku rf Qa i ys)) Qs Kv) (XL (WY rf Qa) 2 (([]:List Nat).zip (Kt rf Qa i ys)) c) (2+1+c.length)
 [(0,Wm)] 0 [] []) [] [] [{k:=3,rs:=[],cs:=Qh Qo ys}]=some (OO.ret (Q2 2 (QI b a)),[],[],
 [Zn (Fz.rs {k:=3,rs:=[],cs:=Qh Qo ys}) (Qh Qo ys) a,XS i (↑b:Int)=false]):=by intro c b a;kernel_rfl
set_option maxHeartbeats 4000000 in
theorem oK(rf:Qi)(Qa:List Int)(hn:rf.Qb.length<=1000000)(hm:0<=rf.Qc/\rf.Qc<=2000)(hc:∀k:Int,0<=k->k<rf.Qb.length->0<=(rf.Qb.getD k.toNat NZ).count/\(rf.Qb.getD k.toNat NZ).count<=1000000){B:Lo}(hJ:∀w,B.has w->J0 w):∀m:Nat,(∀(i:Int) (ys:List Span),(rf.Qb.length-i.toNat)=m->∀(h0:0<=i) (hy:ys=RE (X2 rf.Qc) ⟨0,0⟩ rf.Qb i),(∃Qs:Nat->Value,(∀t,Xy (Qs t))/\GoE YP B (YQ rf Qa) (WY rf Qa) 2 (Zc (none) 102 26 (([1,5,11,12,13]:List Nat).zip (Ku rf Qa i ys)) Qs Kv) (XL (WY rf Qa) 2 (([]:List Nat).zip (Kt rf Qa i ys)) (VZ rf Qa i ys)) (2+1+(VZ rf Qa i ys).length) ([]:List Nat))->FinK YP B (YQ rf Qa) (WY rf Qa) 2 (.ret (Q2 2 (YI (rf.Qb.map (X2 rf.Qc))))) (([]:List Nat).zip ([])) ([]) ([]:List Nat)):=by
 intro m0;induction m0 using Ox with
 |_ m0 ih0=>
  intro i ys JP h0 hy ⟨Qs,ZV,XF⟩;have hyl:ys.length=rf.Qb.length:=by rw[hy];exact SL
  by_cases q0:(i:Int)<((↑rf.Qb.length:Int))
  ·have rj1:FJ YP B (Tn rf Qa i ys Qs) (PU rf Qa i ys Qs) 5 (OO.ret (.agg #[.int .i64 (Qf.count (rf.Qb.getD i.toNat NZ)),.int .i64 (Qf.count (rf.Qb.getD i.toNat NZ)+Od (Qf.count (rf.Qb.getD i.toNat NZ)*rf.Qc) 1000)])) (([]++((5,Xk)::QU (5+1) []))++PU rf Qa i ys Qs) 6 (Oe 5) []:=by
    have hc1:=hc i h0 q0;exact FinK.fjB (GoE.finK okF hJ Qg (Q7 (by kernel_rfl)) (Qw (by kernel_rfl)) ((GoE.refl (P:=YP) (B:=B) (c0:=Tn rf Qa i ys Qs) (Q7 (by kernel_rfl))).widen (Wf:=((([]):List (Nat×KS)).map (·.1))) (by simp) (Qw (by kernel_rfl))) (zi B rf Qa i ys Qs)
     ⟨⟨trivial,cD (Qf.count (rf.Qb.getD i.toNat NZ)) rf.Qc (by omega) (by omega)⟩,trivial⟩) (ex:=[3]) (by kernel_rfl) ⟨trivial,⟨trivial,⟨(JM (t:=38) (fl:=(0,0)) (fun x=>List.all_eq_true.1 (by rfl))),⟨trivial,⟨trivial,trivial⟩⟩⟩⟩⟩
   have hc1:=hc i h0 q0;exact((ih0 _ (by omega)) (i+1) (OL ys i.toNat {lo:=Qf.count (rf.Qb.getD i.toNat NZ),hi:=Qf.count (rf.Qb.getD i.toNat NZ)+Od (Qf.count (rf.Qb.getD i.toNat NZ)*rf.Qc) 1000}) rfl (by omega) (by(subst hy;exact SK (f:=X2 rf.Qc) h0 q0))
    (GoE.landA okF hJ Qg (Q7 (by kernel_rfl)) (Qw (by kernel_rfl)) XF (zh B rf Qa i ys Qs)
    (by exact⟨(Qn (Qq (fun x=>List.all_eq_true.1 (by rfl)))),⟨(Xq (by omega) (by omega)),⟨(by exact Sl (z:=2) (k:=Oa i) (fun _=>rfl) (by first|omega|(rw[OS];omega)|(rw[OC];omega)) rfl rfl),⟨⟨by omega,by omega⟩,⟨rj1,⟨⟨by omega,by omega,(QB (z:=12) (fun _=>rfl) (by omega))⟩,⟨(XC q0),trivial⟩⟩⟩⟩⟩⟩⟩) (by kernel_rfl) (by kernel_rfl) (fun l hl=>by cases hl <;> decide))).cast (by rfl) (by rfl) (by rfl)
  ·exact(GoE.finK okF hJ Qg (Q7 (by kernel_rfl)) (Qw (by kernel_rfl)) XF (zg B rf Qa i ys Qs)
    ⟨(XZ (fun x=>List.all_eq_true.1 (by rfl))),⟨(XO (Int.not_lt.1 q0)),trivial⟩⟩).cast (by exact congrArg (fun v=>OO.ret (Q2 _ v)) (dE (hy.trans (SM (by omega))) (by simp))) (by rfl) (by rfl)

theorem zj(B:Lo)(rf:Qi)(Qa:List Int):let a:=Oc rf.Qb;let c:=Oi a {lo:=0,hi:=0};let b:=Zj {len:=16000,tr:=Tri.set 14 Tri.lf 9 (.int .i64 (↑a:Int))} 9;CE.landA 2 (Qu YP (Q9 YP) J0 B 9 2 (YQ rf Qa) (WY rf Qa) 2
 [(3,Qk.Za (Hint.mk a (l9 rf)))] 0 [] []) [1,5,11,12,13] [] [(2,KS.rows [] [] [] (hC rf))] []=some ⟨102,26,Kv,[],.run,none,Ku rf Qa (0) c,([]:List Nat).zip (Kt rf Qa (0) c),VZ rf Qa (0) c,
 [Zw 2 [] [] [] (l9 rf) (hC rf),RH YP 36 b b=some (38,Qh (Ur [.int .i64 0,.int .i64 0]) (Oi a ()),Oc rf.Qb,TypeInfo.size Try.t38)]⟩:=by intro a c b;kernel_rfl
theorem zf(B:Lo)(rf:Qi)(Qa:List Int):let a:=OO.ret (ze rf);QW (Qu YP (Q9 YP) J0 B 6 1 (Qx YP 82 8 (([.agg (QL rf Qa).toArray]).map (Q8 0 4))) Zf 1
 [(6,Qk.call (Oe 2) a ([]++(2,Xk)::QU 3 []) 3 [])] 0 [] []) []=some (QI (Oc (Tj rf)) (Qh Qo (Tj rf)),
 [FJ YP B (YQ rf Qa) (WY rf Qa) 2 a (([]++((2,Xk)::QU (2+1) []))++WY rf Qa) 3 (Oe 2) []]):=by intro a;kernel_rfl
set_option maxHeartbeats 4000000 in
theorem CP(rf:Qi)(Qa:List Int)(hn:rf.Qb.length<=1000000)(hm:0<=rf.Qc/\rf.Qc<=2000)(hc:∀k:Int,0<=k->k<rf.Qb.length->0<=(rf.Qb.getD k.toNat NZ).count/\(rf.Qb.getD k.toNat NZ).count<=1000000){B:Lo}(hJ:∀w,B.has w->J0 w):EndsT YP B (Qx YP 82 8 (([.agg (QL rf Qa).toArray]).map (Q8 0 4))) (YI (rf.Qb.map (X2 rf.Qc))):=by
 have Te:FJ YP B (YQ rf Qa) (WY rf Qa) 2 (OO.ret (Q2 2 (QI (Oc (List.map (X2 rf.Qc) rf.Qb)) (Qh Qo (List.map (X2 rf.Qc) rf.Qb))))) (([]++((2,Xk)::QU (2+1) []))++WY rf Qa) 3 (Oe 2) []:=by
  exact FinK.fjB ((oK rf Qa hn hm hc hJ _) (0) (Oi rf.Qb.length {lo:=0,hi:=0}) rfl (by omega) (by exact fh)
   (GoE.landA okF hJ Qg (Q7 (by kernel_rfl)) (Qw (by kernel_rfl)) ((GoE.refl (P:=YP) (B:=B) (c0:=YQ rf Qa) (Q7 (by kernel_rfl))).widen (Wf:=((([]):List (Nat×KS)).map (·.1))) (by simp) (Qw (by kernel_rfl))) (zj B rf Qa)
   ⟨(by exact(V7 (by exact⟨(.simple rfl),⟨(.simple rfl),trivial⟩⟩) _)),⟨(dg (bytes:=16) (by kernel_rfl) (by omega) (by omega) (by omega)),trivial⟩⟩ (by kernel_rfl) (by kernel_rfl) (fun l hl=>by cases hl <;> decide))) (ex:=[]) (by kernel_rfl) (Z6 _)
 exact(GoE.endsT okF hJ Qg GoE.start (zf B rf Qa)
  ⟨Te,trivial⟩).cast (by rfl)
theorem rj(rf:Qi)(Qa:List Int)(hn:rf.Qb.length<=1000000)(hm:0<=rf.Qc/\rf.Qc<=2000)(hc:∀k:Int,0<=k->k<rf.Qb.length->0<=(rf.Qb.getD k.toNat NZ).count/\(rf.Qb.getD k.toNat NZ).count<=1000000):Q0 YP J0 82 #[.agg (QL rf Qa).toArray] (YI (rf.Qb.map (X2 rf.Qc))):=
 Xo (ts:=[.agg (QL rf Qa).toArray]) Zh (c0:=Qx YP 82 8 (([.agg (QL rf Qa).toArray]).map (Q8 0 4))) (by kernel_rfl) (by kernel_rfl) fun B hJ=>CP rf Qa hn hm hc hJ
end
end Go.Proofs.Ytncjjangllkokaa

namespace Go.Proofs.Ytncjjangllkokaa
open Go Go.CE Go.RowKit
noncomputable section
set_option maxRecDepth 100000
def JQ{β:Type}(n:Int)(f:Int->β):List β:=(Rj 0 n).map f
theorem XK{β:Type}{n:Int}{f:Int->β}:(JQ n f).length=n.toNat:=by simp[JQ,Rj]
theorem Jo{β:Type}{n:Int}{f:Int->β}{k:Nat}(h:k<n.toNat):(JQ n f)[k]? =some (f k):=by
 unfold JQ Rj;rw[OA,OA,List.getElem?_range (by omega)];simp
theorem Xz{β:Type}[Inhabited β]{n k:Int}{f:Int->β}(h0:0<=k)(h:k<n):(JQ n f).getD k.toNat NZ=f k:=by
 rw[Ol,Jo (by omega),show((k.toNat:Nat):Int)=k by omega];rfl
theorem W6{β:Type}{n:Int}{f g:Int->β}(h:∀k,0<=k->k<n->f k=g k):JQ n f=JQ n g:=by
 refine List.ext_getElem? fun k=> ?_
 by_cases hk:k<n.toNat
 ·rw[Jo hk,Jo hk,h k (by omega) (by omega)]
 ·rw[Ou (by rw[XK];omega),Ou (by rw[XK];omega)]
theorem du{β:Type}{n i:Int}{f:Int->β}{v:β}(h0:0<=i)(h:i<n):(JQ n f).set i.toNat v=JQ n (fun k=>if k=i then v else f k):=by
 refine List.ext_getElem? fun k=> ?_
 by_cases hk:k<n.toNat
 ·rw[List.getElem?_set,XK,Jo hk,Jo hk];by_cases e:i.toNat=k
  ·rw[if_pos e,if_pos (by omega),if_pos (by omega)]
  ·rw[if_neg e,if_neg (by omega)]
 ·rw[Ou (by rw[OS,XK];omega),Ou (by rw[XK];omega)]
theorem IN{α β:Type}[Inhabited α]{xs:List α}{f:α->β}:xs.map f=JQ xs.length (fun k=>f (xs.getD k.toNat NZ)):=by
 refine List.ext_getElem? fun k=> ?_
 by_cases hk:k<xs.length
 ·rw[Jo (by omega),OA,O1 hk];simp[Ol,hk]
 ·rw[Ou (by simp;omega),Ou (by rw[XK];omega)]
def cy(x:Qf):Span:=⟨x.JU,x.JV⟩
def Wq(p k:Int)(x:Qf):Span:=if hasB p k then cy x else VI x
def Xm(ps:List Qf)(p:Int):List Span:=JQ ps.length fun k=>Wq p k (ps.getD k.toNat NZ)
def SZ(ps:List Qf)(p i:Int):List Span:=JQ ps.length fun k=>if k<i then Wq p k (ps.getD k.toNat NZ)else VI (ps.getD k.toNat NZ)
theorem EV{ps:List Qf}{p:Int}:ps.map VI=SZ ps p 0:=by
 rw[IN];exact W6 fun k h0 _=>by rw[if_neg (by omega)]
theorem y9{ps:List Qf}{p i:Int}(h:ps.length<=i):SZ ps p i=Xm ps p:=W6 fun k h0 h1=>by rw[if_pos (by omega)]
theorem Cd{ps:List Qf}{p i:Int}(h0:0<=i)(h:hasB p i=false):SZ ps p i=SZ ps p (i+1):=W6 fun k g0 g1=>by
 by_cases e:k=i
 ·subst e;rw[if_neg (by omega),if_pos (by omega),Wq,h];rfl
 ·by_cases e2:k<i
  ·rw[if_pos e2,if_pos (by omega)]
  ·rw[if_neg e2,if_neg (by omega)]
theorem kG{ps:List Qf}{p i:Int}(h0:0<=i)(h1:i<ps.length)(h:hasB p i=true):(SZ ps p i).set i.toNat (cy (ps.getD i.toNat NZ))=SZ ps p (i+1):=by
 unfold SZ;rw[du h0 h1];refine W6 fun k g0 g1=> ?_
 by_cases e:k=i
 ·subst e;rw[if_pos rfl,if_pos (by omega),Wq,h];rfl
 ·rw[if_neg e];by_cases e2:k<i
  ·rw[if_pos e2,if_pos (by omega)]
  ·rw[if_neg e2,if_neg (by omega)]
theorem LO{n k:Int}(hn:0<=n):0<=((cz n k:Nat):Int)/\((cz n k:Nat):Int)<=n:=by
 have:=Ih (a:=n) (n:=k);omega
def Px(x_:Qf):Array Value:=#[.int .i64 x_.count,.int .i64 x_.room,.int .i64 x_.glo,.int .i64 x_.ghi,.int .i64 x_.Xs,.int .i64 x_.Zt,.int .i64 x_.Pe,.int .i64 x_.Pf,.int .i64 x_.JU,.int .i64 x_.JV,.int .i64 x_.goal,.int .i64 x_.Uk]
def bz(rf:Qi)(Qa:List Int)(k:Int):Array Value:=let i:=rf.Qc;let g:=rf.Qd;let f:=Qa.getD 3 0;let e:=Qa.getD 2 0;let d:=Qa.getD 1 0;let c:=Qa.getD 0 0;let b:=rf.Qb;let h:=Oc b;let a:=QI h (Qh Qm b);#[.agg #[Q2 0 a,.int .i64 i,.int .i64 g,.int .i64 c,.int .i64 d,.int .i64 e,.int .i64 f],.int .i64 k,pA 1 0,.tuple #[],.slice none 0 0,pA 4 0,.tuple #[],pA 1 0,pA 1 0,Q2 0 a,.slice (some {block:=3,off:=0}) h 2,.agg #[Q2 0 a,.int .i64 i,.int .i64 g,.int .i64 c,.int .i64 d,.int .i64 e,.int .i64 f],.int .i64 k,Value.func (Fn.func 112) #[] #[Q2 5 (Ss 0 #[QI h (Qh Qm b),.int .i64 i,.int .i64 g,.int .i64 c,.int .i64 d,.int .i64 e,.int .i64 f]),Q2 5 (Ss 0 #[.int .i64 k])],.tuple #[],.tuple #[],.tuple #[],.tuple #[],.tuple #[],.tuple #[],.tuple #[],.tuple #[],.tuple #[],.tuple #[],.tuple #[],.tuple #[]]
def bw(rf:Qi)(Qa:List Int):Array Value:=#[QI rf.Qb.length (Qh Qm rf.Qb),.int .i64 rf.Qc,.int .i64 rf.Qd,.int .i64 (Qa.getD 0 0),.int .i64 (Qa.getD 1 0),.int .i64 (Qa.getD 2 0),.int .i64 (Qa.getD 3 0)]
def C8(rf:Qi)(i:Int):Value:=(.agg #[.int .i64 (Qf.Pe (rf.Qb.getD i.toNat NZ)),.int .i64 (Qf.Pf (rf.Qb.getD i.toNat NZ))])
def VY(rf:Qi)(Qa:List Int)(k:Int):Qy:=[(1,Obj.cells #[Q2 0 (QI rf.Qb.length (Qh Qm rf.Qb)),.int .i64 rf.Qc,.int .i64 rf.Qd,.int .i64 (Qa.getD 0 0),.int .i64 (Qa.getD 1 0),.int .i64 (Qa.getD 2 0),.int .i64 (Qa.getD 3 0)] 84),(0,Obj.coro none)]
def Pz(rf:Qi)(Qa:List Int)(k:Int):CF:=⟨102,ofList 26 [Q2 0 (QI rf.Qb.length (Qh Qm rf.Qb)),Value.func (Fn.func 105) #[] #[]],[Item.code (QP YP 102)],[],.run,none⟩
def Yy(rf:Qi)(Qa:List Int)(k:Int)(i:Int)(ys:List Span):List Value:=[Value.func (Fn.func 105) #[] #[],.slice (some {block:=3,off:=0}) rf.Qb.length 2,Q2 0 (QI rf.Qb.length (Qh Qm rf.Qb)),.int .i64 (↑rf.Qb.length:Int),.int .i64 i]
def Yx(rf:Qi)(Qa:List Int)(k:Int)(i:Int)(ys:List Span):List Obj:=[]
def Kg(rf:Qi)(Qa:List Int)(k:Int)(i:Int)(ys:List Span):List Obj:=[.cells (Qh Qo ys) 38 (0,0)]
def Yz:List Item:=([.code [1,1,0,1,0,0],.inLoop [1,1,0,1,0,0],.inBlock 0,.code [1,1,1]]).map (it (QP YP 102))
def Sq(rf:Qi)(Qa:List Int)(k:Int)(i:Int)(ys:List Span)(Qs:Nat->Value):Qy:=[(4,Obj.cells (Px (rf.Qb.getD i.toNat NZ)) 54),(2,Obj.coro none),(3,Obj.cells (Qh Qo ys) 38),(1,Obj.cells #[Q2 0 (QI rf.Qb.length (Qh Qm rf.Qb)),.int .i64 rf.Qc,.int .i64 rf.Qd,.int .i64 (Qa.getD 0 0),.int .i64 (Qa.getD 1 0),.int .i64 (Qa.getD 2 0),.int .i64 (Qa.getD 3 0)] 84),(0,Obj.coro none)]
def b8(rf:Qi)(Qa:List Int)(k:Int)(i:Int)(ys:List Span)(Qs:Nat->Value):CF:=⟨105,ofList 5 [.agg (Px (rf.Qb.getD i.toNat NZ))],[Item.code (QP YP 105)],[],.run,none⟩
theorem CK(B:Lo)(rf:Qi)(Qa:List Int)(k:Int)(i:Int)(ys:List Span)(Qs:Nat->Value):let a:=rf.Qb.getD i.toNat NZ;CE.finK 5 (Qu YP (Q9 YP) J0 B 6 5 (b8 rf Qa k i ys Qs) (Sq rf Qa k i ys Qs) 5
 [] 0 [] []) [] [] []=some (OO.ret (.agg #[.int .i64 a.Pe,.int .i64 a.Pf]),[],[],
 []):=by intro a;kernel_rfl
theorem CI(B:Lo)(rf:Qi)(Qa:List Int)(k:Int)(i:Int)(ys:List Span)(Qs:Nat->Value):let g:=Kg rf Qa k i ys;let f:=C8 rf i;let d:=Oa i;let c:=rf.Qb;let b:=c.getD d NZ;let a:=OL ys d {lo:=b.Pe,hi:=b.Pf};let e:=Qh Qo a;CE.landA 2 (Qu YP (Q9 YP) J0 B 13 2 (Zc (none) 102 26 (([1,5,11,12,13]:List Nat).zip (Yy rf Qa k i ys)) Qs Yz) (XL (VY rf Qa k) 2 (([]:List Nat).zip (Yx rf Qa k i ys)) g) (2+1+g.length)
 [(0,ZF),(2,Qk.tidx d (Px b)),(11,Qk.call (Oe 5) (OO.ret f) ([]++(5,Xk)::QU 6 []) 6 []),(12,Qk.Za (Hint.idx d)),(13,Qk.Za (Hint.st e)),(14,WV (i+1))] 0 [] []) [1,5,11,12,13] [] [(3,KS.cells [] e)] []=some ⟨102,26,Yz,[],.run,none,Yy rf Qa k (i+1) a,([]:List Nat).zip (Yx rf Qa k (i+1) a),Kg rf Qa k (i+1) a,
 [QE 2 [] e e,wq (i+1)=i+1,0+Oa i*2+TypeInfo.size Try.t38<=OD (Qh Qo ys)/\splice (Qh Qo ys) (0+Oa i*2) (Value.cells (Zj {len:=16000,tr:=Tri.set 14 (Tri.set 14 Tri.lf 22 f) 23 (.pointer (some {block:=3,off:=0+Oa i*2}))} 22))=Qh Qo a,i=(↑d:Int)/\Oa i<Oc c,FJ YP B (b8 rf Qa k i ys Qs) (Sq rf Qa k i ys Qs) 5 (OO.ret f) (([]++((5,Xk)::QU (5+1) []))++Sq rf Qa k i ys Qs) 6 (Oe 5) [],i=(↑d:Int)/\Oa i<Oc c/\Oy (Qh Qm c) (Oa i*TypeInfo.size Try.t54) (Oa i*TypeInfo.size Try.t54+TypeInfo.size Try.t54)=(Px b),XS i (↑c.length:Int)=true]⟩:=by intro g f d c b a e;kernel_rfl
theorem CH(B:Lo)(rf:Qi)(Qa:List Int)(k:Int)(i:Int)(ys:List Span)(Qs:Nat->Value):let c:=Kg rf Qa k i ys;let b:=Oc rf.Qb;let a:=Qh Qo ys;CE.finK 2 (Qu YP (Q9 YP) J0 B 9 2 (Zc (none) 102 26 (([1,5,11,12,13]:List Nat).zip (Yy rf Qa k i ys)) Qs Yz) (XL (VY rf Qa k) 2 (([]:List Nat).zip (Yx rf Qa k i ys)) c) (2+1+c.length)
 [(0,Wm)] 0 [] []) [] [(3,KS.cells [] a)] []=some (OO.ret (.slice (some {block:=3,off:=0}) b 2),[],[Obj.cells a 38],
 [QE 2 [] a a,XS i (↑b:Int)=false]):=by intro c b a;kernel_rfl
set_option maxHeartbeats 4000000 in
theorem qZ(rf:Qi)(Qa:List Int)(k:Int)(hn:rf.Qb.length<=4)(hl:Qa.length<=4)(k0:0<=k)(k1:k<4)(hp:∀j:Nat,0<=Qa.getD j 0/\Qa.getD j 0<=1000000){B:Lo}(hJ:∀w,B.has w->J0 w):∀m:Nat,(∀(i:Int) (ys:List Span),(rf.Qb.length-i.toNat)=m->∀(h0:0<=i) (hy:ys=RE VI ⟨0,0⟩ rf.Qb i),(∃Qs:Nat->Value,(∀t,Xy (Qs t))/\GoE YP B (Pz rf Qa k) (VY rf Qa k) 2 (Zc (none) 102 26 (([1,5,11,12,13]:List Nat).zip (Yy rf Qa k i ys)) Qs Yz) (XL (VY rf Qa k) 2 (([]:List Nat).zip (Yx rf Qa k i ys)) (Kg rf Qa k i ys)) (2+1+(Kg rf Qa k i ys).length) ([]:List Nat))->FinK YP B (Pz rf Qa k) (VY rf Qa k) 2 (.ret (.slice (some ⟨3,0,none⟩) rf.Qb.length 2)) (([]:List Nat).zip ([])) ([.cells (Qh Qo (rf.Qb.map VI)) 38 (0,0)]) ([]:List Nat)):=by
 intro m0;induction m0 using Ox with
 |_ m0 ih0=>
  intro i ys JP h0 hy ⟨Qs,ZV,XF⟩;have hyl:ys.length=rf.Qb.length:=by rw[hy];exact SL
  by_cases q0:(i:Int)<((↑rf.Qb.length:Int))
  ·have rj1:FJ YP B (b8 rf Qa k i ys Qs) (Sq rf Qa k i ys Qs) 5 (OO.ret (.agg #[.int .i64 (Qf.Pe (rf.Qb.getD i.toNat NZ)),.int .i64 (Qf.Pf (rf.Qb.getD i.toNat NZ))])) (([]++((5,Xk)::QU (5+1) []))++Sq rf Qa k i ys Qs) 6 (Oe 5) []:=by
    exact FinK.fjB (GoE.finK okF hJ Qg (Q7 (by kernel_rfl)) (Qw (by kernel_rfl)) ((GoE.refl (P:=YP) (B:=B) (c0:=b8 rf Qa k i ys Qs) (Q7 (by kernel_rfl))).widen (Wf:=((([]):List (Nat×KS)).map (·.1))) (by simp) (Qw (by kernel_rfl))) (CK B rf Qa k i ys Qs)
     trivial) (ex:=[3]) (by kernel_rfl) ⟨trivial,⟨trivial,⟨(JM (t:=38) (fl:=(0,0)) (fun x=>List.all_eq_true.1 (by rfl))),⟨trivial,⟨trivial,trivial⟩⟩⟩⟩⟩
   exact((ih0 _ (by omega)) (i+1) (OL ys i.toNat {lo:=Qf.Pe (rf.Qb.getD i.toNat NZ),hi:=Qf.Pf (rf.Qb.getD i.toNat NZ)}) rfl (by omega) (by(subst hy;exact SK (f:=VI) h0 q0))
    (GoE.landA okF hJ Qg (Q7 (by kernel_rfl)) (Qw (by kernel_rfl)) XF (CI B rf Qa k i ys Qs)
    (by exact⟨(Qn (Qq (fun x=>List.all_eq_true.1 (by rfl)))),⟨(Xq (by omega) (by omega)),⟨(by exact Sl (z:=2) (k:=Oa i) (fun _=>rfl) (by first|omega|(rw[OS];omega)|(rw[OC];omega)) rfl rfl),⟨⟨by omega,by omega⟩,⟨rj1,⟨⟨by omega,by omega,(QB (z:=12) (fun _=>rfl) (by omega))⟩,⟨(XC q0),trivial⟩⟩⟩⟩⟩⟩⟩) (by kernel_rfl) (by kernel_rfl) (fun l hl=>by cases hl <;> decide))).cast (by rfl) (by rfl) (by rfl)
  ·exact(GoE.finK okF hJ Qg (Q7 (by kernel_rfl)) (Qw (by kernel_rfl)) XF (CH B rf Qa k i ys Qs)
    ⟨(Qn (Qq (fun x=>List.all_eq_true.1 (by rfl)))),⟨(XO (Int.not_lt.1 q0)),trivial⟩⟩).cast (by rfl) (by rfl) (by(rw[hy,SM (by omega)];done))

theorem CL(B:Lo)(rf:Qi)(Qa:List Int)(k:Int):let c:=Ur [.int .i64 0,.int .i64 0];let a:=Oc rf.Qb;let e:=Oi a ();let d:=Zj {len:=16000,tr:=Tri.set 14 Tri.lf 9 (.int .i64 (↑a:Int))} 9;let b:=Oi a {lo:=0,hi:=0};CE.landA 2 (Qu YP (Q9 YP) J0 B 9 2 (Pz rf Qa k) (VY rf Qa k) 2
 [(3,Qk.Za (Hint.mk a (Qh c e)))] 0 [] []) [1,5,11,12,13] [] [(2,KS.rows [] [] [] (Qh Qo b))] []=some ⟨102,26,Yz,[],.run,none,Yy rf Qa k (0) b,([]:List Nat).zip (Yx rf Qa k (0) b),Kg rf Qa k (0) b,
 [Zw 2 [] [] [] (Qh c e) (Qh Qo b),RH YP 36 d d=some (38,Qh c e,Oc rf.Qb,TypeInfo.size Try.t38)]⟩:=by intro c a e d b;kernel_rfl
def Sp(rf:Qi)(Qa:List Int)(k:Int):Qy:=[(4,Obj.cells #[.slice (some {block:=3,off:=0}) rf.Qb.length 2] 36),(2,Obj.coro none),(3,Obj.cells (Qh Qo (List.map VI rf.Qb)) 38),(1,Obj.cells #[Q2 0 (QI rf.Qb.length (Qh Qm rf.Qb)),.int .i64 rf.Qc,.int .i64 rf.Qd,.int .i64 (Qa.getD 0 0),.int .i64 (Qa.getD 1 0),.int .i64 (Qa.getD 2 0),.int .i64 (Qa.getD 3 0)] 84),(0,Obj.coro none)]
def b6(rf:Qi)(Qa:List Int)(k:Int):CF:=⟨91,ofList 6 [.agg #[Q2 0 (QI rf.Qb.length (Qh Qm rf.Qb)),.int .i64 rf.Qc,.int .i64 rf.Qd,.int .i64 (Qa.getD 0 0),.int .i64 (Qa.getD 1 0),.int .i64 (Qa.getD 2 0),.int .i64 (Qa.getD 3 0)],.int .i64 k],[Item.code (QP YP 91)],[],.run,none⟩
theorem CG(B:Lo)(rf:Qi)(Qa:List Int)(k:Int):let i:=rf.Qc;let g:=rf.Qd;let e:=Qa.getD 3 0;let d:=Qa.getD 2 0;let c:=Qa.getD 1 0;let b:=Qa.getD 0 0;let a:=rf.Qb;let h:=Oc a;let f:=Qh Qm a;CE.finK 5 (Qu YP (Q9 YP) J0 B 6 5 (b6 rf Qa k) (Sp rf Qa k) 5
 [] 0 [] []) [] [] [{k:=5,rs:=[0],cs:=#[QI h f,.int .i64 i,.int .i64 g,.int .i64 b,.int .i64 c,.int .i64 d,.int .i64 e]},{k:=6,rs:=[],cs:=#[.int .i64 k]}]=some (OO.ret (Value.func (Fn.func 112) #[] #[Q2 5 (Ss 0 #[QI h f,.int .i64 i,.int .i64 g,.int .i64 b,.int .i64 c,.int .i64 d,.int .i64 e]),Q2 5 (Ss 0 #[.int .i64 k])]),[],[],
 [Zn (Fz.rs {k:=5,rs:=[0],cs:=(bw rf Qa)}) #[Q2 0 (QI h f),.int .i64 i,.int .i64 g,.int .i64 b,.int .i64 c,.int .i64 d,.int .i64 e] (Fz.cs {k:=5,rs:=[0],cs:=(bw rf Qa)}),Zn (Fz.rs {k:=6,rs:=[],cs:=#[.int .i64 k]}) #[.int .i64 k] (Fz.cs {k:=6,rs:=[],cs:=#[.int .i64 k]})]):=by intro i g e d c b a h f;kernel_rfl
def Vk(rf:Qi)(Qa:List Int)(k:Int):Qy:=[(7,Obj.loop {state:=LoopState.ready,pending:=none,fn:=84,tmps:=#[.agg #[Q2 0 (QI rf.Qb.length (Qh Qm rf.Qb)),.int .i64 rf.Qc,.int .i64 rf.Qd,.int .i64 (Qa.getD 0 0),.int .i64 (Qa.getD 1 0),.int .i64 (Qa.getD 2 0),.int .i64 (Qa.getD 3 0)],.int .i64 k,pA 1 0,.tuple #[],.slice none 0 0,pA 4 0,.tuple #[],pA 1 0,pA 1 0,Q2 0 (QI rf.Qb.length (Qh Qm rf.Qb)),.slice (some {block:=3,off:=0}) rf.Qb.length 2,.agg #[Q2 0 (QI rf.Qb.length (Qh Qm rf.Qb)),.int .i64 rf.Qc,.int .i64 rf.Qd,.int .i64 (Qa.getD 0 0),.int .i64 (Qa.getD 1 0),.int .i64 (Qa.getD 2 0),.int .i64 (Qa.getD 3 0)],.int .i64 k,Value.func (Fn.func 112) #[] #[Q2 5 (Ss 0 #[QI rf.Qb.length (Qh Qm rf.Qb),.int .i64 rf.Qc,.int .i64 rf.Qd,.int .i64 (Qa.getD 0 0),.int .i64 (Qa.getD 1 0),.int .i64 (Qa.getD 2 0),.int .i64 (Qa.getD 3 0)]),Q2 5 (Ss 0 #[.int .i64 k])],.tuple #[],.tuple #[],.tuple #[],.tuple #[],.tuple #[],.tuple #[],.tuple #[],.tuple #[],.tuple #[],.tuple #[],.tuple #[],.tuple #[]],params:=#[14],assign:=SW (QP YP 84) [1,1,0,1,0,0],body:=SW (QP YP 84) [1,1,0,1,0,1],defers:=6}),(6,Obj.deferred (some [])),(5,Obj.coro none),(4,Obj.cells #[.slice (some {block:=3,off:=0}) rf.Qb.length 2] 36),(2,Obj.coro none),(3,Obj.cells (Qh Qo (List.map VI rf.Qb)) 38),(1,Obj.cells #[Q2 0 (QI rf.Qb.length (Qh Qm rf.Qb)),.int .i64 rf.Qc,.int .i64 rf.Qd,.int .i64 (Qa.getD 0 0),.int .i64 (Qa.getD 1 0),.int .i64 (Qa.getD 2 0),.int .i64 (Qa.getD 3 0)] 84),(0,Obj.coro none)]
def Py(rf:Qi)(Qa:List Int)(k:Int):CF:=⟨112,ofList 27 [Value.func (Fn.yield 7) #[] #[],Q2 5 (Ss 0 #[QI rf.Qb.length (Qh Qm rf.Qb),.int .i64 rf.Qc,.int .i64 rf.Qd,.int .i64 (Qa.getD 0 0),.int .i64 (Qa.getD 1 0),.int .i64 (Qa.getD 2 0),.int .i64 (Qa.getD 3 0)]),Q2 5 (Ss 0 #[.int .i64 k])],[Item.code (QP YP 112)],[],.run,none⟩
def V9(rf:Qi)(Qa:List Int)(k:Int)(i:Int)(ys:List Span):List Value:=let a:=rf.Qb;[Value.func (Fn.yield 7) #[] #[],Q2 5 (Ss 0 #[QI a.length (Qh Qm a),.int .i64 rf.Qc,.int .i64 rf.Qd,.int .i64 (Qa.getD 0 0),.int .i64 (Qa.getD 1 0),.int .i64 (Qa.getD 2 0),.int .i64 (Qa.getD 3 0)]),Q2 5 (Ss 0 #[.int .i64 k]),.int .i64 (↑a.length:Int),.int .i64 i]
def V8(rf:Qi)(Qa:List Int)(k:Int)(i:Int)(ys:List Span):List Obj:=let j:=rf.Qc;let g:=rf.Qd;let f:=Qa.getD 3 0;let e:=Qa.getD 2 0;let d:=Qa.getD 1 0;let c:=Qa.getD 0 0;let b:=rf.Qb;let h:=Oc b;let a:=QI h (Qh Qm b);[Obj.loop {state:=LoopState.ready,pending:=none,fn:=84,tmps:=#[.agg #[Q2 0 a,.int .i64 j,.int .i64 g,.int .i64 c,.int .i64 d,.int .i64 e,.int .i64 f],.int .i64 k,pA 1 0,.tuple #[],.slice none 0 0,pA 4 0,.tuple #[],pA 1 0,pA 1 0,Q2 0 a,.slice (some {block:=3,off:=0}) h 2,.agg #[Q2 0 a,.int .i64 j,.int .i64 g,.int .i64 c,.int .i64 d,.int .i64 e,.int .i64 f],.int .i64 k,Value.func (Fn.func 112) #[] #[Q2 5 (Ss 0 #[QI h (Qh Qm b),.int .i64 j,.int .i64 g,.int .i64 c,.int .i64 d,.int .i64 e,.int .i64 f]),Q2 5 (Ss 0 #[.int .i64 k])],.tuple #[],.tuple #[],.tuple #[],.tuple #[],.tuple #[],.tuple #[],.tuple #[],.tuple #[],.tuple #[],.tuple #[],.tuple #[],.tuple #[]],params:=#[14],assign:=SW (QP YP 84) [1,1,0,1,0,0],body:=SW (QP YP 84) [1,1,0,1,0,1],defers:=6},.cells (Qh Qo ys) 38 (0,0)]
def WQ(rf:Qi)(Qa:List Int)(k:Int)(i:Int)(ys:List Span):List Obj:=[]
def VA:List Item:=([.code [1,0,0],.inLoop [1,0,0],.inBlock 0]).map (it (QP YP 112))
def fX(B:Lo)(rf:Qi)(Qa:List Int)(k:Int)(i:Int)(ys:List Span)(Qs:Nat->Value):List Prop:=let b:=Tri.set 14 Tri.lf 16 (.int .i64 i);let a:=Qp [Qa.getD 0 0,Qa.getD 1 0,Qa.getD 2 0,Qa.getD 3 0] k.toNat;let d:=.int .i64 a;let c:=.int .i64 (↑(cz a i):Int);[oG YP BinOp.and 3 (Zj {len:=16000,tr:=Tri.set 14 Tri.lf 17 c} 17) (.int .i64 1) (.int .i64 (↑(sI (↑(cz a i):Int) 1):Int)),oG YP BinOp.shr 3 (Zj {len:=16000,tr:=Tri.set 14 b 15 d} 15) (Zj {len:=16000,tr:=Tri.set 14 b 15 d} 16) c,k=(↑k.toNat:Int)/\Oa k<4/\Oy (bw rf Qa) (3+Oa k*TypeInfo.size Try.t3) (3+Oa k*TypeInfo.size Try.t3+TypeInfo.size Try.t3)=#[.int .i64 a],XS i (↑rf.Qb.length:Int)=true]++([]:List Prop)
def pG(rf:Qi)(Qa:List Int)(k:Int)(i:Int)(ys:List Span)(Qs:Nat->Value):QD:=let a:=Qp [Qa.getD 0 0,Qa.getD 1 0,Qa.getD 2 0,Qa.getD 3 0] k.toNat;[(0,ZF),(5,Qk.tarr k.toNat #[.int .i64 a]),(8,Qk.bin (.int .i64 (↑(cz a i):Int))),(9,Qk.bin (.int .i64 (↑(sI (↑(cz a i):Int) 1):Int)))]
def So(rf:Qi)(Qa:List Int)(k:Int)(i:Int)(ys:List Span)(Qs:Nat->Value):Qy:=[(7,Obj.loop {state:=LoopState.ready,pending:=none,fn:=84,tmps:=#[.agg #[Q2 0 (QI rf.Qb.length (Qh Qm rf.Qb)),.int .i64 rf.Qc,.int .i64 rf.Qd,.int .i64 (Qa.getD 0 0),.int .i64 (Qa.getD 1 0),.int .i64 (Qa.getD 2 0),.int .i64 (Qa.getD 3 0)],.int .i64 k,pA 1 0,.tuple #[],.slice none 0 0,pA 4 0,.tuple #[],pA 1 0,pA 1 0,Q2 0 (QI rf.Qb.length (Qh Qm rf.Qb)),.slice (some {block:=3,off:=0}) rf.Qb.length 2,.agg #[Q2 0 (QI rf.Qb.length (Qh Qm rf.Qb)),.int .i64 rf.Qc,.int .i64 rf.Qd,.int .i64 (Qa.getD 0 0),.int .i64 (Qa.getD 1 0),.int .i64 (Qa.getD 2 0),.int .i64 (Qa.getD 3 0)],.int .i64 k,Value.func (Fn.func 112) #[] #[Q2 5 (Ss 0 #[QI rf.Qb.length (Qh Qm rf.Qb),.int .i64 rf.Qc,.int .i64 rf.Qd,.int .i64 (Qa.getD 0 0),.int .i64 (Qa.getD 1 0),.int .i64 (Qa.getD 2 0),.int .i64 (Qa.getD 3 0)]),Q2 5 (Ss 0 #[.int .i64 k])],.tuple #[],.tuple #[],.tuple #[],.tuple #[],.tuple #[],.tuple #[],.tuple #[],.tuple #[],.tuple #[],.tuple #[],.tuple #[],.tuple #[]],params:=#[14],assign:=SW (QP YP 84) [1,1,0,1,0,0],body:=SW (QP YP 84) [1,1,0,1,0,1],defers:=6}),(3,Obj.cells (Qh Qo ys) 38),(8,Obj.coro none),(7,Obj.loop {state:=LoopState.ready,pending:=none,fn:=84,tmps:=#[.agg #[Q2 0 (QI rf.Qb.length (Qh Qm rf.Qb)),.int .i64 rf.Qc,.int .i64 rf.Qd,.int .i64 (Qa.getD 0 0),.int .i64 (Qa.getD 1 0),.int .i64 (Qa.getD 2 0),.int .i64 (Qa.getD 3 0)],.int .i64 k,pA 1 0,.tuple #[],.slice none 0 0,pA 4 0,.tuple #[],pA 1 0,pA 1 0,Q2 0 (QI rf.Qb.length (Qh Qm rf.Qb)),.slice (some {block:=3,off:=0}) rf.Qb.length 2,.agg #[Q2 0 (QI rf.Qb.length (Qh Qm rf.Qb)),.int .i64 rf.Qc,.int .i64 rf.Qd,.int .i64 (Qa.getD 0 0),.int .i64 (Qa.getD 1 0),.int .i64 (Qa.getD 2 0),.int .i64 (Qa.getD 3 0)],.int .i64 k,Value.func (Fn.func 112) #[] #[Q2 5 (Ss 0 #[QI rf.Qb.length (Qh Qm rf.Qb),.int .i64 rf.Qc,.int .i64 rf.Qd,.int .i64 (Qa.getD 0 0),.int .i64 (Qa.getD 1 0),.int .i64 (Qa.getD 2 0),.int .i64 (Qa.getD 3 0)]),Q2 5 (Ss 0 #[.int .i64 k])],.tuple #[],.tuple #[],.tuple #[],.tuple #[],.tuple #[],.tuple #[],.tuple #[],.tuple #[],.tuple #[],.tuple #[],.tuple #[],.tuple #[]],params:=#[14],assign:=SW (QP YP 84) [1,1,0,1,0,0],body:=SW (QP YP 84) [1,1,0,1,0,1],defers:=6}),(6,Obj.deferred (some [])),(5,Obj.coro none),(4,Obj.cells #[.slice (some {block:=3,off:=0}) rf.Qb.length 2] 36),(2,Obj.coro none),(3,Obj.cells (Qh Qo (List.map VI rf.Qb)) 38),(1,Obj.cells #[Q2 0 (QI rf.Qb.length (Qh Qm rf.Qb)),.int .i64 rf.Qc,.int .i64 rf.Qd,.int .i64 (Qa.getD 0 0),.int .i64 (Qa.getD 1 0),.int .i64 (Qa.getD 2 0),.int .i64 (Qa.getD 3 0)] 84),(0,Obj.coro none)]
def b5(rf:Qi)(Qa:List Int)(k:Int)(i:Int)(ys:List Span)(Qs:Nat->Value):CF:=⟨84,ofList 26 [.agg #[Q2 0 (QI rf.Qb.length (Qh Qm rf.Qb)),.int .i64 rf.Qc,.int .i64 rf.Qd,.int .i64 (Qa.getD 0 0),.int .i64 (Qa.getD 1 0),.int .i64 (Qa.getD 2 0),.int .i64 (Qa.getD 3 0)],.int .i64 k,pA 1 0,.tuple #[],.slice none 0 0,pA 4 0,.tuple #[],pA 1 0,pA 1 0,Q2 0 (QI rf.Qb.length (Qh Qm rf.Qb)),.slice (some {block:=3,off:=0}) rf.Qb.length 2,.agg #[Q2 0 (QI rf.Qb.length (Qh Qm rf.Qb)),.int .i64 rf.Qc,.int .i64 rf.Qd,.int .i64 (Qa.getD 0 0),.int .i64 (Qa.getD 1 0),.int .i64 (Qa.getD 2 0),.int .i64 (Qa.getD 3 0)],.int .i64 k,Value.func (Fn.func 112) #[] #[Q2 5 (Ss 0 #[QI rf.Qb.length (Qh Qm rf.Qb),.int .i64 rf.Qc,.int .i64 rf.Qd,.int .i64 (Qa.getD 0 0),.int .i64 (Qa.getD 1 0),.int .i64 (Qa.getD 2 0),.int .i64 (Qa.getD 3 0)]),Q2 5 (Ss 0 #[.int .i64 k])],.int .i64 i,.tuple #[],.tuple #[],.tuple #[],.tuple #[],.tuple #[],.tuple #[],.tuple #[],.tuple #[],.tuple #[],.tuple #[],.tuple #[]],[Item.code (SW (QP YP 84) [1,1,0,1,0,0]),Item.beginRound,Item.code (SW (QP YP 84) [1,1,0,1,0,1])],[],.run,some 7⟩
theorem CC(B:Lo)(rf:Qi)(Qa:List Int)(k:Int)(i:Int)(ys:List Span)(Qs:Nat->Value):let p:=rf.Qc;let n:=rf.Qd;let l:=Qa.getD 3 0;let j:=Qa.getD 2 0;let h:=Qa.getD 1 0;let g:=Qa.getD 0 0;let e:=Oa i;let b:=rf.Qb;let o:=Oc b;let m:=Qh Qm b;let d:=QI o m;let c:=b.getD e NZ;let a:=OL ys e {lo:=c.JU,hi:=c.JV};let f:=Qh Qo a;CE.finK 9 (Qu YP (Q9 YP) J0 B 6 9 (b5 rf Qa k i ys Qs) (So rf Qa k i ys Qs) 9
 [(7,Qk.tidx e (Px c)),(10,Qk.Za (Hint.idx e)),(11,Qk.Za (Hint.st f))] 0 [] []) [(7,KS.auto),(3,KS.cells [] f)] [] []=some (OO.ret (.bool true),[(7,Obj.loop {state:=LoopState.ready,pending:=none,fn:=84,tmps:=#[.agg #[Q2 0 d,.int .i64 p,.int .i64 n,.int .i64 g,.int .i64 h,.int .i64 j,.int .i64 l],.int .i64 k,pA 1 0,.tuple #[],.slice none 0 0,pA 4 0,.tuple #[],pA 1 0,pA 1 0,Q2 0 d,.slice (some {block:=3,off:=0}) o 2,.agg #[Q2 0 d,.int .i64 p,.int .i64 n,.int .i64 g,.int .i64 h,.int .i64 j,.int .i64 l],.int .i64 k,Value.func (Fn.func 112) #[] #[Q2 5 (Ss 0 #[QI o m,.int .i64 p,.int .i64 n,.int .i64 g,.int .i64 h,.int .i64 j,.int .i64 l]),Q2 5 (Ss 0 #[.int .i64 k])],.tuple #[],.tuple #[],.tuple #[],.tuple #[],.tuple #[],.tuple #[],.tuple #[],.tuple #[],.tuple #[],.tuple #[],.tuple #[],.tuple #[]],params:=#[14],assign:=SW (QP YP 84) [1,1,0,1,0,0],body:=SW (QP YP 84) [1,1,0,1,0,1],defers:=6}),(3,Obj.cells f 38)],[],
 [QE 9 [] f f,0+Oa i*2+TypeInfo.size Try.t38<=OD (Qh Qo ys)/\splice (Qh Qo ys) (0+Oa i*2) (Value.cells (Zj {len:=16000,tr:=Tri.set 14 (Tri.set 14 Tri.lf 23 (.agg #[.int .i64 c.JU,.int .i64 c.JV])) 24 (.pointer (some {block:=3,off:=0+Oa i*2}))} 23))=Qh Qo a,i=(↑e:Int)/\Oa i<Oc b,i=(↑e:Int)/\Oa i<Oc b/\Oy m (Oa i*TypeInfo.size Try.t54) (Oa i*TypeInfo.size Try.t54+TypeInfo.size Try.t54)=(Px c)]):=by intro p n l j h g e b o m d c a f;kernel_rfl
theorem CB(B:Lo)(rf:Qi)(Qa:List Int)(k:Int)(i:Int)(ys:List Span)(Qs:Nat->Value):let f:=OO.ret (.bool true);let e:=WQ rf Qa k i ys;let d:=rf.Qb.getD i.toNat NZ;let b:=QP YP 84;let a:=OL ys i.toNat {lo:=d.JU,hi:=d.JV};let c:=Qh Qo a;CE.landA 8 (Qu YP (Q9 YP) J0 B 16 8 (Zc (none) 112 27 (([0,1,2,8,9]:List Nat).zip (V9 rf Qa k i ys)) Qs VA) (XL (Vk rf Qa k) 8 (([7,3]:List Nat).zip (V8 rf Qa k i ys)) e) (8+1+e.length)
 (pG rf Qa k i ys Qs++[(10,ZF),(14,Qk.call (Oe 9) f ([(7,Obj.loop {state:=LoopState.ready,pending:=none,fn:=84,tmps:=(bz rf Qa k),params:=#[14],assign:=SW b [1,1,0,1,0,0],body:=SW b [1,1,0,1,0,1],defers:=6}),(3,Obj.cells c 38)]++(9,Xk)::QU 10 []) 10 [7,3]),(17,WV (i+1))]) 0 [] []) [0,1,2,8,9] [(7,KS.auto),(3,KS.cells [] c)] [] []=some ⟨112,27,VA,[],.run,none,V9 rf Qa k (i+1) a,([7,3]:List Nat).zip (V8 rf Qa k (i+1) a),WQ rf Qa k (i+1) a,
 [QE 8 [] c c,wq (i+1)=i+1,FJ YP B (b5 rf Qa k i ys Qs) (So rf Qa k i ys Qs) 9 f (([(7,Obj.loop {state:=LoopState.ready,pending:=none,fn:=84,tmps:=(bz rf Qa k),params:=#[14],assign:=SW b [1,1,0,1,0,0],body:=SW b [1,1,0,1,0,1],defers:=6}),(3,Obj.cells c 38)]++((9,Xk)::QU (9+1) []))++So rf Qa k i ys Qs) 10 (Oe 9) [7,3],Y6 (↑(sI (↑(cz (Qp [Qa.getD 0 0,Qa.getD 1 0,Qa.getD 2 0,Qa.getD 3 0] k.toNat) i):Int) 1):Int) 1=true]++fX B rf Qa k i ys Qs⟩:=by intro f e d b a c;kernel_rfl
theorem CA(B:Lo)(rf:Qi)(Qa:List Int)(k:Int)(i:Int)(ys:List Span)(Qs:Nat->Value):let b:=Qh Qo ys;let a:=WQ rf Qa k i ys;CE.landA 8 (Qu YP (Q9 YP) J0 B 16 8 (Zc (none) 112 27 (([0,1,2,8,9]:List Nat).zip (V9 rf Qa k i ys)) Qs VA) (XL (Vk rf Qa k) 8 (([7,3]:List Nat).zip (V8 rf Qa k i ys)) a) (8+1+a.length)
 (pG rf Qa k i ys Qs++[(10,Wm),(17,WV (i+1))]) 0 [] []) [0,1,2,8,9] [(7,KS.auto),(3,KS.cells [] b)] [] []=some ⟨112,27,VA,[],.run,none,V9 rf Qa k (i+1) (ys),([7,3]:List Nat).zip (V8 rf Qa k (i+1) (ys)),WQ rf Qa k (i+1) (ys),
 [QE 8 [] b b,wq (i+1)=i+1,Y6 (↑(sI (↑(cz (Qp [Qa.getD 0 0,Qa.getD 1 0,Qa.getD 2 0,Qa.getD 3 0] k.toNat) i):Int) 1):Int) 1=false]++fX B rf Qa k i ys Qs⟩:=by intro b a;kernel_rfl
theorem C9(B:Lo)(rf:Qi)(Qa:List Int)(k:Int)(i:Int)(ys:List Span)(Qs:Nat->Value):let l:=rf.Qc;let j:=WQ rf Qa k i ys;let h:=rf.Qd;let g:=Qa.getD 3 0;let f:=Qa.getD 2 0;let e:=Qa.getD 1 0;let d:=Qa.getD 0 0;let c:=Qh Qo ys;let b:=Qh Qm rf.Qb;let a:=Oc rf.Qb;CE.finK 8 (Qu YP (Q9 YP) J0 B 7 8 (Zc (none) 112 27 (([0,1,2,8,9]:List Nat).zip (V9 rf Qa k i ys)) Qs VA) (XL (Vk rf Qa k) 8 (([7,3]:List Nat).zip (V8 rf Qa k i ys)) j) (8+1+j.length)
 [(0,Wm)] 0 [] []) [(7,KS.auto),(3,KS.cells [] c)] [] []=some (OO.ret (.tuple #[]),[(7,Obj.loop {state:=LoopState.ready,pending:=none,fn:=84,tmps:=#[.agg #[Q2 0 (QI a b),.int .i64 l,.int .i64 h,.int .i64 d,.int .i64 e,.int .i64 f,.int .i64 g],.int .i64 k,pA 1 0,.tuple #[],.slice none 0 0,pA 4 0,.tuple #[],pA 1 0,pA 1 0,Q2 0 (QI a b),.slice (some {block:=3,off:=0}) a 2,.agg #[Q2 0 (QI a b),.int .i64 l,.int .i64 h,.int .i64 d,.int .i64 e,.int .i64 f,.int .i64 g],.int .i64 k,Value.func (Fn.func 112) #[] #[Q2 5 (Ss 0 #[QI a b,.int .i64 l,.int .i64 h,.int .i64 d,.int .i64 e,.int .i64 f,.int .i64 g]),Q2 5 (Ss 0 #[.int .i64 k])],.tuple #[],.tuple #[],.tuple #[],.tuple #[],.tuple #[],.tuple #[],.tuple #[],.tuple #[],.tuple #[],.tuple #[],.tuple #[],.tuple #[]],params:=#[14],assign:=SW (QP YP 84) [1,1,0,1,0,0],body:=SW (QP YP 84) [1,1,0,1,0,1],defers:=6}),(3,Obj.cells c 38)],[],
 [QE 8 [] c c,XS i (↑a:Int)=false]):=by intro l j h g f e d c b a;kernel_rfl
set_option maxHeartbeats 4000000 in
theorem qY(rf:Qi)(Qa:List Int)(k:Int)(hn:rf.Qb.length<=4)(hl:Qa.length<=4)(k0:0<=k)(k1:k<4)(hp:∀j:Nat,0<=Qa.getD j 0/\Qa.getD j 0<=1000000){B:Lo}(hJ:∀w,B.has w->J0 w):∀m:Nat,(∀(i:Int) (ys:List Span),rf.Qb.length-i.toNat=m->∀(i0:0<=i) (hy:ys=SZ rf.Qb (Qa.getD k.toNat 0) i),(∃Qs:Nat->Value,(∀t,Xy (Qs t))/\GoE YP B (Py rf Qa k) (Vk rf Qa k) 8 (Zc (none) 112 27 (([0,1,2,8,9]:List Nat).zip (V9 rf Qa k i ys)) Qs VA) (XL (Vk rf Qa k) 8 (([7,3]:List Nat).zip (V8 rf Qa k i ys)) (WQ rf Qa k i ys)) (8+1+(WQ rf Qa k i ys).length) ([7,3]:List Nat))->FinK YP B (Py rf Qa k) (Vk rf Qa k) 8 (.ret (.tuple #[])) (([7,3]:List Nat).zip ([Obj.loop {state:=LoopState.ready,pending:=none,fn:=84,tmps:=#[.agg #[Q2 0 (QI rf.Qb.length (Qh Qm rf.Qb)),.int .i64 rf.Qc,.int .i64 rf.Qd,.int .i64 (Qa.getD 0 0),.int .i64 (Qa.getD 1 0),.int .i64 (Qa.getD 2 0),.int .i64 (Qa.getD 3 0)],.int .i64 k,pA 1 0,.tuple #[],.slice none 0 0,pA 4 0,.tuple #[],pA 1 0,pA 1 0,Q2 0 (QI rf.Qb.length (Qh Qm rf.Qb)),.slice (some {block:=3,off:=0}) rf.Qb.length 2,.agg #[Q2 0 (QI rf.Qb.length (Qh Qm rf.Qb)),.int .i64 rf.Qc,.int .i64 rf.Qd,.int .i64 (Qa.getD 0 0),.int .i64 (Qa.getD 1 0),.int .i64 (Qa.getD 2 0),.int .i64 (Qa.getD 3 0)],.int .i64 k,Value.func (Fn.func 112) #[] #[Q2 5 (Ss 0 #[QI rf.Qb.length (Qh Qm rf.Qb),.int .i64 rf.Qc,.int .i64 rf.Qd,.int .i64 (Qa.getD 0 0),.int .i64 (Qa.getD 1 0),.int .i64 (Qa.getD 2 0),.int .i64 (Qa.getD 3 0)]),Q2 5 (Ss 0 #[.int .i64 k])],.tuple #[],.tuple #[],.tuple #[],.tuple #[],.tuple #[],.tuple #[],.tuple #[],.tuple #[],.tuple #[],.tuple #[],.tuple #[],.tuple #[]],params:=#[14],assign:=SW (QP YP 84) [1,1,0,1,0,0],body:=SW (QP YP 84) [1,1,0,1,0,1],defers:=6},.cells (Qh Qo (Xm rf.Qb (Qa.getD k.toNat 0))) 38 (0,0)])) ([]) ([7,3]:List Nat)):=by
 intro m0;induction m0 using Ox with
 |_ m0 ih0=>
  intro i ys JP i0 hy ⟨Qs,ZV,XF⟩;have hyl:ys.length=rf.Qb.length:=by rw[hy];simp[SZ,XK]
  have hpk:=hp k.toNat;have hse:=MP (k:=k.toNat) hl;have RA:=LO (n:=Qp [Qa.getD 0 0,Qa.getD 1 0,Qa.getD 2 0,Qa.getD 3 0] k.toNat) (k:=i) (by omega);by_cases q0:(i:Int)<((↑rf.Qb.length:Int))
  ·have V5:Q6 (fX B rf Qa k i ys Qs):=by
    exact⟨(Ll (by omega) (by omega) (by omega) (by omega)),⟨(Lk (by omega) (by omega) (by omega)),⟨⟨by omega,by omega,HO (fs:=[Qa.getD 0 0,Qa.getD 1 0,Qa.getD 2 0,Qa.getD 3 0]) rfl (Oo (m:=4) (by omega) rfl)⟩,⟨(XC q0),trivial⟩⟩⟩⟩
   by_cases q1:((↑(sI (↑(cz (Qp [Qa.getD 0 0,Qa.getD 1 0,Qa.getD 2 0,Qa.getD 3 0] k.toNat) i):Int) 1):Int):Int)=(1)
   ·have rj3:FJ YP B (b5 rf Qa k i ys Qs) (So rf Qa k i ys Qs) 9 (OO.ret (.bool true)) (([(7,Obj.loop {state:=LoopState.ready,pending:=none,fn:=84,tmps:=#[.agg #[Q2 0 (QI rf.Qb.length (Qh Qm rf.Qb)),.int .i64 rf.Qc,.int .i64 rf.Qd,.int .i64 (Qa.getD 0 0),.int .i64 (Qa.getD 1 0),.int .i64 (Qa.getD 2 0),.int .i64 (Qa.getD 3 0)],.int .i64 k,pA 1 0,.tuple #[],.slice none 0 0,pA 4 0,.tuple #[],pA 1 0,pA 1 0,Q2 0 (QI rf.Qb.length (Qh Qm rf.Qb)),.slice (some {block:=3,off:=0}) rf.Qb.length 2,.agg #[Q2 0 (QI rf.Qb.length (Qh Qm rf.Qb)),.int .i64 rf.Qc,.int .i64 rf.Qd,.int .i64 (Qa.getD 0 0),.int .i64 (Qa.getD 1 0),.int .i64 (Qa.getD 2 0),.int .i64 (Qa.getD 3 0)],.int .i64 k,Value.func (Fn.func 112) #[] #[Q2 5 (Ss 0 #[QI rf.Qb.length (Qh Qm rf.Qb),.int .i64 rf.Qc,.int .i64 rf.Qd,.int .i64 (Qa.getD 0 0),.int .i64 (Qa.getD 1 0),.int .i64 (Qa.getD 2 0),.int .i64 (Qa.getD 3 0)]),Q2 5 (Ss 0 #[.int .i64 k])],.tuple #[],.tuple #[],.tuple #[],.tuple #[],.tuple #[],.tuple #[],.tuple #[],.tuple #[],.tuple #[],.tuple #[],.tuple #[],.tuple #[]],params:=#[14],assign:=SW (QP YP 84) [1,1,0,1,0,0],body:=SW (QP YP 84) [1,1,0,1,0,1],defers:=6}),(3,Obj.cells (Qh Qo (OL ys i.toNat {lo:=Qf.JU (rf.Qb.getD i.toNat NZ),hi:=Qf.JV (rf.Qb.getD i.toNat NZ)})) 38)]++((9,Xk)::QU (9+1) []))++So rf Qa k i ys Qs) 10 (Oe 9) [7,3]:=by
     have hyes:=kG (ps:=rf.Qb) (p:=Qa.getD k.toNat 0) i0 q0 (by rw[<-qN,<-hse];exact decide_eq_true q1);exact FinK.fjB (GoE.finK okF hJ Qg (Q7 (by kernel_rfl)) (Qw (by kernel_rfl)) ((GoE.refl (P:=YP) (B:=B) (c0:=b5 rf Qa k i ys Qs) (Q7 (by kernel_rfl))).widen (Wf:=((([(7,KS.auto),(3,KS.cells [] (Qh Qo (OL ys i.toNat {lo:=Qf.JU (rf.Qb.getD i.toNat NZ),hi:=Qf.JV (rf.Qb.getD i.toNat NZ)})))]):List (Nat×KS)).map (·.1))) (by simp) (Qw (by kernel_rfl))) (CC B rf Qa k i ys Qs)
      ⟨(Qn (Qq (fun x=>List.all_eq_true.1 (by rfl)))),⟨(by exact Sl (z:=2) (k:=Oa i) (fun _=>rfl) (by first|omega|(rw[OS];omega)|(rw[OC];omega)) rfl rfl),⟨⟨by omega,by omega⟩,⟨⟨by omega,by omega,(QB (z:=12) (fun _=>rfl) (by omega))⟩,trivial⟩⟩⟩⟩) (ex:=[3]) (by kernel_rfl) ⟨trivial,⟨(JM (t:=38) (fl:=(0,0)) (fun x=>List.all_eq_true.1 (by rfl))),⟨trivial,⟨trivial,⟨trivial,⟨trivial,⟨trivial,⟨trivial,⟨(JM (t:=38) (fl:=(0,0)) (fun x=>List.all_eq_true.1 (by rfl))),⟨trivial,⟨trivial,trivial⟩⟩⟩⟩⟩⟩⟩⟩⟩⟩⟩
    have hyes:=kG (ps:=rf.Qb) (p:=Qa.getD k.toNat 0) i0 q0 (by rw[<-qN,<-hse];exact decide_eq_true q1);exact((ih0 _ (by omega)) (i+1) (OL ys i.toNat {lo:=Qf.JU (rf.Qb.getD i.toNat NZ),hi:=Qf.JV (rf.Qb.getD i.toNat NZ)}) rfl (by omega) (by(rw[hy];exact hyes))
     (GoE.landA okF hJ Qg (Q7 (by kernel_rfl)) (Qw (by kernel_rfl)) XF (CB B rf Qa k i ys Qs)
     (by exact⟨(Qn (Qq (fun x=>List.all_eq_true.1 (by rfl)))),⟨(Xq (by omega) (by omega)),⟨rj3,⟨(aX q1),V5⟩⟩⟩⟩) (by kernel_rfl) (by kernel_rfl) (fun l hl=>by cases hl <;> decide))).cast (by rfl) (by rfl) (by rfl)
   ·have hno:=Cd (ps:=rf.Qb) (p:=Qa.getD k.toNat 0) i0 (by rw[<-qN,<-hse];exact decide_eq_false q1);exact((ih0 _ (by omega)) (i+1) (ys) rfl (by omega) (by(rw[hy];exact hno))
     (GoE.landA okF hJ Qg (Q7 (by kernel_rfl)) (Qw (by kernel_rfl)) XF (CA B rf Qa k i ys Qs)
     ⟨(Qn (Qq (fun x=>List.all_eq_true.1 (by rfl)))),⟨(Xq (by omega) (by omega)),⟨(aY q1),V5⟩⟩⟩ (by kernel_rfl) (by kernel_rfl) (fun l hl=>by cases hl <;> decide))).cast (by rfl) (by rfl) (by rfl)
  ·exact(GoE.finK okF hJ Qg (Q7 (by kernel_rfl)) (Qw (by kernel_rfl)) XF (C9 B rf Qa k i ys Qs)
    ⟨(Qn (Qq (fun x=>List.all_eq_true.1 (by rfl)))),⟨(XO (Int.not_lt.1 q0)),trivial⟩⟩).cast (by rfl) (by(rw[hy,y9 (by omega)];rfl)) (by rfl)

theorem CD(B:Lo)(rf:Qi)(Qa:List Int)(k:Int):let a:=List.map VI rf.Qb;let b:=Qh Qo a;CE.landA 8 (Qu YP (Q9 YP) J0 B 4 8 (Py rf Qa k) (Vk rf Qa k) 8
 [] 0 [] []) [0,1,2,8,9] [(7,KS.auto),(3,KS.cells [] b)] [] []=some ⟨112,27,VA,[],.run,none,V9 rf Qa k (0) a,([7,3]:List Nat).zip (V8 rf Qa k (0) a),WQ rf Qa k (0) a,
 [QE 8 [] b b]⟩:=by intro a b;kernel_rfl
theorem yQ(B:Lo)(rf:Qi)(Qa:List Int)(k:Int):let i:=OO.ret (.tuple #[]);let e:=QP YP 84;let d:=rf.Qb;let g:=Qh Qo (List.map VI d);let c:=OO.ret (.slice (some {block:=3,off:=0}) d.length 2);let b:=OO.ret (Value.func (Fn.func 112) #[] #[Q2 5 (Ss 0 (bw rf Qa)),Q2 5 (Ss 0 #[.int .i64 k])]);let a:=Xm d (Qa.getD k.toNat 0);let h:=Qh Qo a;let f:=Fz.cs {k:=3,rs:=[],cs:=Qh Qo a};QW (Qu YP (Q9 YP) J0 B 16 1 (Qx YP 84 26 (([.agg (QL rf Qa).toArray,.int .i64 k]).map (Q8 0 4))) Zf 1
 [(5,Qk.call (Oe 2) c ([]++(2,Xk)::QU 3 [Obj.cells g 38]) 4 []),(10,Qk.call (Oe 5) b ([]++(5,Xk)::QU 6 []) 6 []),(11,Qk.call (Oe 8) i ([(7,Obj.loop {state:=LoopState.ready,pending:=none,fn:=84,tmps:=(bz rf Qa k),params:=#[14],assign:=SW e [1,1,0,1,0,0],body:=SW e [1,1,0,1,0,1],defers:=6}),(3,Obj.cells h 38)]++(8,Xk)::QU 9 []) 9 [7,3])] 0 [] []) [{k:=3,rs:=[],cs:=Qh Qo a}]=some (QI d.length f,
 [Zn (Fz.rs {k:=3,rs:=[],cs:=Qh Qo a}) h f,FJ YP B (Py rf Qa k) (Vk rf Qa k) 8 i (([(7,Obj.loop {state:=LoopState.ready,pending:=none,fn:=84,tmps:=(bz rf Qa k),params:=#[14],assign:=SW e [1,1,0,1,0,0],body:=SW e [1,1,0,1,0,1],defers:=6}),(3,Obj.cells h 38)]++((8,Xk)::QU (8+1) []))++Vk rf Qa k) 9 (Oe 8) [7,3],FJ YP B (b6 rf Qa k) (Sp rf Qa k) 5 b (([]++((5,Xk)::QU (5+1) []))++Sp rf Qa k) 6 (Oe 5) [],FJ YP B (Pz rf Qa k) (VY rf Qa k) 2 c (([]++((2,Xk)::QU (2+1) [Obj.cells g 38]))++VY rf Qa k) 4 (Oe 2) []]):=by intro i e d g c b a h f;kernel_rfl
set_option maxHeartbeats 4000000 in
theorem FV(rf:Qi)(Qa:List Int)(k:Int)(hn:rf.Qb.length<=4)(hl:Qa.length<=4)(k0:0<=k)(k1:k<4)(hp:∀j:Nat,0<=Qa.getD j 0/\Qa.getD j 0<=1000000){B:Lo}(hJ:∀w,B.has w->J0 w):EndsT YP B (Qx YP 84 26 (([.agg (QL rf Qa).toArray,.int .i64 k]).map (Q8 0 4))) (YI (Xm rf.Qb (Qa.getD k.toNat 0))):=by
 have Te:FJ YP B (Pz rf Qa k) (VY rf Qa k) 2 (OO.ret (.slice (some {block:=3,off:=0}) rf.Qb.length 2)) (([]++((2,Xk)::QU (2+1) [Obj.cells (Qh Qo (List.map VI rf.Qb)) 38]))++VY rf Qa k) 4 (Oe 2) []:=by
  exact FinK.fjB ((qZ rf Qa k hn hl k0 k1 hp hJ _) (0) (Oi rf.Qb.length {lo:=0,hi:=0}) rfl (by omega) (by exact fh)
   (GoE.landA okF hJ Qg (Q7 (by kernel_rfl)) (Qw (by kernel_rfl)) ((GoE.refl (P:=YP) (B:=B) (c0:=Pz rf Qa k) (Q7 (by kernel_rfl))).widen (Wf:=((([]):List (Nat×KS)).map (·.1))) (by simp) (Qw (by kernel_rfl))) (CL B rf Qa k)
   ⟨(by exact(V7 (by exact⟨(.simple rfl),⟨(.simple rfl),trivial⟩⟩) _)),⟨(dg (bytes:=16) (by kernel_rfl) (by omega) (by omega) (by omega)),trivial⟩⟩ (by kernel_rfl) (by kernel_rfl) (fun l hl=>by cases hl <;> decide))) (ex:=[]) (by kernel_rfl) (Z6 _)
 have rj1:FJ YP B (b6 rf Qa k) (Sp rf Qa k) 5 (OO.ret (Value.func (Fn.func 112) #[] #[Q2 5 (Ss 0 #[QI rf.Qb.length (Qh Qm rf.Qb),.int .i64 rf.Qc,.int .i64 rf.Qd,.int .i64 (Qa.getD 0 0),.int .i64 (Qa.getD 1 0),.int .i64 (Qa.getD 2 0),.int .i64 (Qa.getD 3 0)]),Q2 5 (Ss 0 #[.int .i64 k])])) (([]++((5,Xk)::QU (5+1) []))++Sp rf Qa k) 6 (Oe 5) []:=by
  exact FinK.fjB (GoE.finK okF hJ Qg (Q7 (by kernel_rfl)) (Qw (by kernel_rfl)) ((GoE.refl (P:=YP) (B:=B) (c0:=b6 rf Qa k) (Q7 (by kernel_rfl))).widen (Wf:=((([]):List (Nat×KS)).map (·.1))) (by simp) (Qw (by kernel_rfl))) (CG B rf Qa k)
   ⟨(Ew (by kernel_rfl)),⟨(cl (by kernel_rfl)),trivial⟩⟩) (ex:=[3]) (by kernel_rfl) ⟨trivial,⟨trivial,⟨(JM (t:=38) (fl:=(0,0)) (fun x=>List.all_eq_true.1 (by rfl))),⟨trivial,⟨trivial,trivial⟩⟩⟩⟩⟩
 have rj2:FJ YP B (Py rf Qa k) (Vk rf Qa k) 8 (OO.ret (.tuple #[])) (([(7,Obj.loop {state:=LoopState.ready,pending:=none,fn:=84,tmps:=#[.agg #[Q2 0 (QI rf.Qb.length (Qh Qm rf.Qb)),.int .i64 rf.Qc,.int .i64 rf.Qd,.int .i64 (Qa.getD 0 0),.int .i64 (Qa.getD 1 0),.int .i64 (Qa.getD 2 0),.int .i64 (Qa.getD 3 0)],.int .i64 k,pA 1 0,.tuple #[],.slice none 0 0,pA 4 0,.tuple #[],pA 1 0,pA 1 0,Q2 0 (QI rf.Qb.length (Qh Qm rf.Qb)),.slice (some {block:=3,off:=0}) rf.Qb.length 2,.agg #[Q2 0 (QI rf.Qb.length (Qh Qm rf.Qb)),.int .i64 rf.Qc,.int .i64 rf.Qd,.int .i64 (Qa.getD 0 0),.int .i64 (Qa.getD 1 0),.int .i64 (Qa.getD 2 0),.int .i64 (Qa.getD 3 0)],.int .i64 k,Value.func (Fn.func 112) #[] #[Q2 5 (Ss 0 #[QI rf.Qb.length (Qh Qm rf.Qb),.int .i64 rf.Qc,.int .i64 rf.Qd,.int .i64 (Qa.getD 0 0),.int .i64 (Qa.getD 1 0),.int .i64 (Qa.getD 2 0),.int .i64 (Qa.getD 3 0)]),Q2 5 (Ss 0 #[.int .i64 k])],.tuple #[],.tuple #[],.tuple #[],.tuple #[],.tuple #[],.tuple #[],.tuple #[],.tuple #[],.tuple #[],.tuple #[],.tuple #[],.tuple #[]],params:=#[14],assign:=SW (QP YP 84) [1,1,0,1,0,0],body:=SW (QP YP 84) [1,1,0,1,0,1],defers:=6}),(3,Obj.cells (Qh Qo (Xm rf.Qb (Qa.getD k.toNat 0))) 38)]++((8,Xk)::QU (8+1) []))++Vk rf Qa k) 9 (Oe 8) [7,3]:=by
  exact FinK.fjB ((qY rf Qa k hn hl k0 k1 hp hJ _) (0) (List.map VI rf.Qb) rfl (by omega) (by exact EV)
   (GoE.landA okF hJ Qg (Q7 (by kernel_rfl)) (Qw (by kernel_rfl)) ((GoE.refl (P:=YP) (B:=B) (c0:=Py rf Qa k) (Q7 (by kernel_rfl))).widen (Wf:=((([(7,KS.auto),(3,KS.cells [] (Qh Qo (List.map VI rf.Qb)))]):List (Nat×KS)).map (·.1))) (by simp) (Qw (by kernel_rfl))) (CD B rf Qa k)
   ⟨(Qn (Qq (fun x=>List.all_eq_true.1 (by rfl)))),trivial⟩ (by kernel_rfl) (by kernel_rfl) (fun l hl=>by cases hl <;> decide))) (ex:=[3]) (by kernel_rfl) ⟨trivial,⟨trivial,⟨trivial,⟨trivial,⟨trivial,⟨(JM (t:=38) (fl:=(0,0)) (fun x=>List.all_eq_true.1 (by rfl))),⟨trivial,⟨trivial,trivial⟩⟩⟩⟩⟩⟩⟩⟩
 exact(GoE.endsT okF hJ Qg GoE.start (yQ B rf Qa k)
  ⟨(XZ (fun x=>List.all_eq_true.1 (by rfl))),⟨rj2,⟨rj1,⟨Te,trivial⟩⟩⟩⟩).cast (by exact dE rfl (by rw[Xm,XK];omega))
theorem yR(rf:Qi)(Qa:List Int)(k:Int)(hn:rf.Qb.length<=4)(hl:Qa.length<=4)(k0:0<=k)(k1:k<4)(hp:∀j:Nat,0<=Qa.getD j 0/\Qa.getD j 0<=1000000):Q0 YP J0 84 #[.agg (QL rf Qa).toArray,.int .i64 k] (YI (Xm rf.Qb (Qa.getD k.toNat 0))):=
 Xo (ts:=[.agg (QL rf Qa).toArray,.int .i64 k]) Zh (c0:=Qx YP 84 26 (([.agg (QL rf Qa).toArray,.int .i64 k]).map (Q8 0 4))) (by kernel_rfl) (by kernel_rfl) fun B hJ=>FV rf Qa k hn hl k0 k1 hp hJ
end
end Go.Proofs.Ytncjjangllkokaa

namespace Go.Proofs.Ytncjjangllkokaa
open Go Go.CE Go.RowKit
def Xt(a b:Int)(g:Int->Int):Int:=tn ((Rj a b).map g)
theorem Yw{a b:Int}{g:Int->Int}(h:b<=a):Xt a b g=0:=by
 unfold Xt;rw[j9 h];rfl
theorem tl:∀(l m:List Int),tn (l++m)=tn l+tn m
 |[],m=>by simp[tn]
 |x::l,m=>by simp only[List.cons_append,tn,tl l m];omega
theorem XM{i:Int}{g:Int->Int}(h:0<=i):Xt 0 (i+1) g=Xt 0 i g+g i:=by
 have e:Rj 0 (i+1)=Rj 0 i++[i]:=by
  unfold Rj;rw[show(i+1-0).toNat=(i-0).toNat+1 by omega,List.range_succ,List.map_append];congr 1;simp;omega
 unfold Xt;rw[e,List.map_append,tl];simp[tn]
theorem K5{g:Int->Int}{K:Int}:∀(k:Nat),(∀m:Int,0<=m->m<k->0<=g m/\g m<=K)->0<=Xt 0 k g/\Xt 0 k g<=K*k
 |0,_=>by rw[Yw (by omega)];omega
 |k+1,h=>by
  have ih:=K5 k fun m h0 h1=>h m h0 (by omega)
  have h2:=h k (by omega) (by omega);rw[show((k+1:Nat):Int)=(k:Int)+1 by omega,XM (by omega),Int.mul_add,Int.mul_one];omega
structure F4 where
 a:Int
 b:Int
 c:Int
 d:Int
deriving Inhabited
def F4.at(f:F4)(k:Int):Int:=Qp [f.a,f.b,f.c,f.d] k.toNat
def F4.sum(f:F4):Int:=f.a+f.b+f.c+f.d
def Ib(g:Int->Int):F4:=⟨g 0,g 1,g 2,g 3⟩
theorem dd{i:Int}(h0:0<=i)(h:i<4):i=0\/i=1\/i=2\/i=3:=by omega
theorem bm{g:Int->Int}{k:Int}(h0:0<=k)(h:k<4):(Ib g).at k=g k:=by
 rcases dd h0 h with rfl|rfl|rfl|rfl <;> rfl
def Pm(f:F4):Prop:=(0<=f.a/\0<=f.b/\0<=f.c/\0<=f.d)/\f.sum<=100000000000
theorem Yn{f:F4}(hf:Pm f){i:Int}(h0:0<=i)(h:i<4):0<=f.at i/\f.at i<=f.sum/\f.sum<=100000000000:=by
 obtain⟨⟨h1,h2,h3,h4⟩,h5⟩:=hf;have e:f.sum=f.a+f.b+f.c+f.d:=rfl;have h5':=h5;rw[e]at h5' ⊢;rcases dd h0 h with rfl|rfl|rfl|rfl
 ·have:f.at 0=f.a:=rfl;omega
 ·have:f.at 1=f.b:=rfl;omega
 ·have:f.at 2=f.c:=rfl;omega
 ·have:f.at 3=f.d:=rfl;omega
abbrev gh(ps:List Qf)(k:Int):Qf:=ps.getD k.toNat NZ
abbrev nth(xs:List Int)(k:Int):Int:=xs.getD k.toNat NZ
def PW(ps:List Qf):Prop:=ps.length<=4/\∀k:Int,0<=k->k<ps.length->(0<=(gh ps k).room/\(gh ps k).room<=1000000)/\(0<=(gh ps k).Xs/\(gh ps k).Xs<=1000)/\JY ps.length (gh ps k).Zt=true/\(gh ps k).Zt≠k
def Ko(n:Nat)(xs:List Int)(m:Int):Prop:=xs.length=n/\∀k:Int,0<=k->k<n->0<=nth xs k/\nth xs k<=m
def ZO(gs:List Int)(ps:List Qf)(f:F4)(k:Int):Int:=nZ (gh ps k).room (f.at k) (nth gs k)
def XQ(gs:List Int)(ps:List Qf)(f:F4)(i j:Int):Int:=if j<i then f.at j+ZO gs ps f j else f.at j
def RZ(gs:List Int)(ps:List Qf)(f:F4):F4:=Ib (XQ gs ps f ps.length)
def Un(ps:List Qf)(b:F4)(k:Int):Int:=(b.at k*(gh ps k).Xs).tdiv 1000
def V2(ps:List Qf)(b:F4)(i j:Int):Int:=b.at j-(if j<i then Un ps b j else 0)+Xt 0 i (fun m=>if(gh ps m).Zt=j then Un ps b m else 0)
def j7(ps:List Qf)(b:F4):F4:=Ib (V2 ps b ps.length)
def ZK(ps:List Qf)(b:F4)(j:Int):Int:=if(gh ps j).Zt= -1 then Un ps b j else 0
def Zv(ts:List Int)(b:F4)(k:Int):Int:=if nth ts k<b.at k then nth ts k else b.at k
def SY(ts:List Int)(b:F4)(i j:Int):Int:=if j<i then b.at j-Zv ts b j else b.at j
def LN(ts:List Int)(ps:List Qf)(b:F4):F4:=Ib (SY ts b ps.length)
def Qr(gs ts:List Int)(ps:List Qf)(f:F4):F4:=LN ts ps (j7 ps (RZ gs ps f))
theorem dB{g:Int->Int}{i:Int}(h0:0<=i)(h:i<4):Qp [g 0,g 1,g 2,g 3] i.toNat=g i:=by
 rcases dd h0 h with rfl|rfl|rfl|rfl <;> rfl
theorem M0{gs:List Int}{ps:List Qf}{f:F4}{i:Int}:XQ gs ps f i i=f.at i:=by
 unfold XQ;rw[if_neg (by omega)]
theorem Ho{gs:List Int}{ps:List Qf}{f:F4}{i:Int}{j:Nat}:(if i.toNat=j then f.at i+ZO gs ps f i else XQ gs ps f i j)=XQ gs ps f (i+1) j\/i<0:=by
 by_cases h0:0<=i
 ·refine .inl ?_;unfold XQ;by_cases h:i.toNat=j
  ·have e1:i=(j:Int):=by omega
   rw[if_pos h,if_pos (by omega),e1]
  ·rw[if_neg h];by_cases h2:(j:Int)<i
   ·rw[if_pos h2,if_pos (by omega)]
   ·rw[if_neg h2,if_neg (by omega)]
 ·exact .inr (by omega)
theorem jK{gs:List Int}{ps:List Qf}{f:F4}{i:Int}{j:Nat}(h0:0<=i):(if i.toNat=j then f.at i+ZO gs ps f i else XQ gs ps f i j)=XQ gs ps f (i+1) j:=Ho.resolve_right (by omega)
theorem HJ{room s t:Int}{w:Int}(ht:t=w.tdiv 1000)(h:0<=t):(if(if room-s > 0 then room-s else 0)<t then(if room-s > 0 then room-s else 0)else t)=if room<=s then 0 else if t<room-s then t else room-s:=by
 by_cases h1:room<=s
 ·rw[if_pos h1,if_neg (show ¬room-s > 0 by omega)];by_cases h2:0<t
  ·rw[if_pos h2]
  ·rw[if_neg h2];omega
 ·rw[if_neg h1,if_pos (show room-s > 0 by omega)];by_cases h2:room-s<t
  ·rw[if_pos h2,if_neg (by omega)]
  ·by_cases h3:t<room-s
   ·rw[if_neg h2,if_pos h3]
   ·rw[if_neg h2,if_neg h3];omega
theorem jX{gs:List Int}{ps:List Qf}{f:F4}{i:Int}(hp:PW ps)(hg:Ko ps.length gs 2000)(hf:Pm f)(h0:0<=i)(h:i<ps.length):0<=ZO gs ps f i/\ZO gs ps f i<=1000000:=by
 have h1:=hp.2 i h0 h;have h2:=hg.2 i h0 h;have ha:=Yn hf h0 (by have:=hp.1;omega);have hm:=Tx (a:=f.at i) (r:=nth gs i) (by omega) (by omega);unfold ZO nZ;split
 ·omega
 ·split <;> omega
theorem SJ{ps:List Qf}{b:F4}{i j:Int}(h:0<=i):V2 ps b (i+1) j=V2 ps b i j-(if j=i then Un ps b i else 0)+(if(gh ps i).Zt=j then Un ps b i else 0):=by
 unfold V2;rw[XM h];by_cases e:j=i
 ·subst e;rw[if_pos (show j<j+1 by omega),if_neg (show ¬j<j by omega),if_pos rfl];omega
 ·rw[if_neg e];by_cases e2:j<i
  ·rw[if_pos e2,if_pos (by omega)];omega
  ·rw[if_neg e2,if_neg (by omega)];omega
theorem iR{ps:List Qf}{b:F4}{j:Int}(h:0<=j):V2 ps b 0 j=b.at j:=by
 unfold V2;rw[if_neg (by omega),Yw (by omega)];omega
theorem LM{ts:List Int}{b:F4}{i:Int}:SY ts b i i=b.at i:=by
 unfold SY;rw[if_neg (by omega)]
theorem jB{ts:List Int}{b:F4}{i:Int}{j:Nat}(h0:0<=i):(if i.toNat=j then b.at i-Zv ts b i else SY ts b i j)=SY ts b (i+1) j:=by
 unfold SY;by_cases h:i.toNat=j
 ·have e1:i=(j:Int):=by omega
  rw[if_pos h,if_pos (by omega),e1]
 ·rw[if_neg h];by_cases h2:(j:Int)<i
  ·rw[if_pos h2,if_pos (by omega)]
  ·rw[if_neg h2,if_neg (by omega)]
theorem jP{ps:List Qf}{b:F4}{i:Int}{j:Nat}(h0:0<=i)(h:(gh ps i).Zt= -1):(if i.toNat=j then V2 ps b i i-Un ps b i else V2 ps b i j)=V2 ps b (i+1) j:=by
 rw[SJ h0,h,if_neg (show ¬(-1:Int)=(j:Int)by omega)];by_cases h1:i.toNat=j
 ·have e1:i=(j:Int):=by omega
  rw[if_pos h1,if_pos (by omega),e1];omega
 ·rw[if_neg h1,if_neg (by omega)];omega
theorem jQ{ps:List Qf}{b:F4}{i v:Int}{j:Nat}(h0:0<=i)(hv:(gh ps i).Zt=v)(v0:0<=v)(hn:v≠i):(if v.toNat=j then V2 ps b i v+Un ps b i else if i.toNat=j then V2 ps b i i-Un ps b i else V2 ps b i j)=V2 ps b (i+1) j:=by
 rw[SJ h0,hv];by_cases h1:v.toNat=j
 ·have e1:v=(j:Int):=by omega
  rw[if_pos h1,if_neg (show ¬(j:Int)=i by omega),if_pos e1,e1];omega
 ·rw[if_neg h1,if_neg (show ¬v=(j:Int)by omega)];by_cases h2:i.toNat=j
  ·have e1:i=(j:Int):=by omega
   rw[if_pos h2,if_pos (by omega),e1];omega
  ·rw[if_neg h2,if_neg (by omega)];omega
theorem bW{ps:List Qf}{b:F4}{i:Int}(hp:PW ps)(hf:Pm b)(h0:0<=i)(h:i<ps.length):0<=Un ps b i/\Un ps b i<=b.at i:=by
 have h1:=hp.2 i h0 h;have ha:=Yn hf h0 (by have:=hp.1;omega);have e0:0<=b.at i*(gh ps i).Xs:=Int.mul_nonneg ha.1 h1.2.1.1;have e1:b.at i*(gh ps i).Xs<=b.at i*1000:=Int.mul_le_mul_of_nonneg_left h1.2.1.2 ha.1;have e2:(b.at i*(gh ps i).Xs).tdiv 1000=(b.at i*(gh ps i).Xs) / 1000:=OI e0;unfold Un;rw[e2];omega
theorem aZ{ps:List Qf}{b:F4}{i j:Int}(hp:PW ps)(hf:Pm b)(h0:0<=i)(h:i<=ps.length)(j0:0<=j)(j1:j<4):0<=V2 ps b i j/\V2 ps b i j<=500000000000:=by
 have ha:=Yn hf j0 j1;have hs:=K5 (g:=fun m=>if(gh ps m).Zt=j then Un ps b m else 0) (K:=100000000000) i.toNat fun m m0 m1=>by
  have h9:=hp.1;have:=bW hp hf (i:=m) m0 (by omega);have hm:=Yn hf (i:=m) m0 (by omega);split <;> omega
 rw[show((i.toNat:Nat):Int)=i by omega]at hs;have h4:=hp.1;unfold V2;split
 ·have:=bW hp hf j0 (by omega);omega
 ·omega
theorem dt{ts:List Int}{b:F4}{n:Nat}{m i:Int}(ht:Ko n ts m)(hf:Pm b)(h0:0<=i)(h:i<n)(h4:n<=4):0<=Zv ts b i/\Zv ts b i<=b.at i/\Zv ts b i<=m:=by
 have ha:=Yn hf h0 (by omega);have h1:=ht.2 i h0 h;unfold Zv;split <;> omega
theorem B4{gs:List Int}{ps:List Qf}{f:F4}{i j:Int}(hp:PW ps)(hg:Ko ps.length gs 2000)(hf:Pm f)(h:i<=ps.length)(j0:0<=j)(j1:j<4):0<=XQ gs ps f i j/\XQ gs ps f i j<=f.at j+1000000:=by
 have ha:=Yn hf j0 j1;unfold XQ;split
 ·have:=jX hp hg hf j0 (show j<ps.length by omega);omega
 ·omega
theorem Hm{gs:List Int}{ps:List Qf}{f:F4}(hp:PW ps)(hg:Ko ps.length gs 2000)(hf:Pm f):(0<=(RZ gs ps f).a/\0<=(RZ gs ps f).b/\0<=(RZ gs ps f).c/\0<=(RZ gs ps f).d)/\(RZ gs ps f).sum<=f.sum+4000000:=by
 have h0:=B4 hp hg hf (OV _) (j:=0) (by omega) (by omega);have h1:=B4 hp hg hf (OV _) (j:=1) (by omega) (by omega);have h2:=B4 hp hg hf (OV _) (j:=2) (by omega) (by omega);have h3:=B4 hp hg hf (OV _) (j:=3) (by omega) (by omega);refine⟨⟨h0.1,h1.1,h2.1,h3.1⟩, ?_⟩;show XQ gs ps f ps.length 0+XQ gs ps f ps.length 1+XQ gs ps f ps.length 2+XQ gs ps f ps.length 3<=f.a+f.b+f.c+f.d+4000000;have e0:f.at 0=f.a:=rfl;have e1:f.at 1=f.b:=rfl;have e2:f.at 2=f.c:=rfl;have e3:f.at 3=f.d:=rfl;omega
def MJ(ps:List Qf)(b:F4)(i:Int):Int:=V2 ps b i 0+V2 ps b i 1+V2 ps b i 2+V2 ps b i 3
theorem H5{ps:List Qf}{b:F4}{i:Int}(hp:PW ps)(h0:0<=i)(h:i<ps.length):MJ ps b (i+1)=MJ ps b i-ZK ps b i:=by
 have h1:=hp.1;have h2:=(hp.2 i h0 h).2.2.1;unfold MJ ZK;rw[SJ h0,SJ h0,SJ h0,SJ h0];simp only[JY,Bool.or_eq_true,decide_eq_true_iff,R9]at h2;generalize (gh ps i).Zt=v at *;generalize Un ps b i=w at *;have hi:=dd h0 (show i<4 by omega);by_cases hv:v= -1
 ·subst hv;rcases hi with rfl|rfl|rfl|rfl <;> simp <;> omega
 ·have ZT:=dd (show 0<=v by omega) (show v<4 by omega);rcases hi with rfl|rfl|rfl|rfl <;> rcases ZT with rfl|rfl|rfl|rfl <;> simp <;> omega
theorem B6{ps:List Qf}{b:F4}(hp:PW ps):∀k:Nat,k<=ps.length->MJ ps b k=b.sum-Xt 0 k (ZK ps b)
 |0,_=>by
  rw[show((0:Nat):Int)=0 from rfl,Yw (by omega)];unfold MJ;rw[iR (by omega),iR (by omega),iR (by omega),iR (by omega)];have e:b.sum=b.at 0+b.at 1+b.at 2+b.at 3:=rfl;omega
 |k+1,h=>by
  rw[show((k+1:Nat):Int)=(k:Int)+1 by omega,H5 hp (by omega) (by omega),B6 hp k (by omega),XM (by omega)];omega
end Go.Proofs.Ytncjjangllkokaa
