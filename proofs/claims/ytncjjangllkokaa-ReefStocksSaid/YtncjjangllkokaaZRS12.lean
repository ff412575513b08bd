/- Reef: counts, growth, and how spans are made. -/
import Derived.Test.YtncjjangllkokaaZRS11
set_option linter.all false
open Int renaming tdiv_eq_ediv_of_nonneg->LP,le_refl->LS,tdiv->Lc,toNat->Lb
open Nat renaming strongRecOn->LB,lt_of_lt_of_eq->Ls
open List renaming set->LC,replicate->Lz,range->Ll,length->Ld,length_set->LJ,length_replicate->Lv,getElem?_map->LF,getD_eq_getElem?_getD->Ly,getElem?_eq_none->LG,getElem?_eq_getElem->L4,map_append->LZ
open Array renaming size->LA,extract->Lj
open Inhabited renaming default->La
namespace Go.Proofs.Ytncjjangllkokaa
open Go Go.CE Go.RowKit
noncomputable section
set_option maxRecDepth 100000
def Rl(p:Int->Bool)(q:Int->Int)(a b u:Int):Int×Int:=
 if h:0<=a/\a<b then(if p ((a+b).tdiv 2)=true then Rl p q a ((a+b).tdiv 2) (q ((a+b).tdiv 2))else Rl p q ((a+b).tdiv 2+1) b (q ((a+b).tdiv 2)))else(a,u)
termination_by (b-a).toNat
decreasing_by all_goals (have:=LP (a:=a+b) (b:=2) (by omega);omega)
theorem bd{a b:Int}(h0:0<=a)(h1:a<b):a<=(a+b).tdiv 2/\(a+b).tdiv 2<b:=by
 have:=LP (a:=a+b) (b:=2) (by omega);omega
theorem m7{p:Int->Bool}{q:Int->Int}{a b u:Int}(h:a=b):Rl p q a b u=(a,u):=by
 rw[Rl,dif_neg (by omega)]
theorem fL{p:Int->Bool}{q:Int->Int}{a b u:Int}(h0:0<=a)(h1:a<b)(hp:p ((a+b).tdiv 2)=true):Rl p q a b u=Rl p q a ((a+b).tdiv 2) (q ((a+b).tdiv 2)):=by
 rw[Rl,dif_pos ⟨h0,h1⟩,if_pos hp]
theorem jJ{p:Int->Bool}{q:Int->Int}{a b u:Int}(h0:0<=a)(h1:a<b)(hp:p ((a+b).tdiv 2)=false):Rl p q a b u=Rl p q ((a+b).tdiv 2+1) b (q ((a+b).tdiv 2)):=by
 rw[Rl,dif_pos ⟨h0,h1⟩,if_neg (by rw[hp];decide)]
theorem qc{p:Int->Bool}{q:Int->Int}:∀(n:Nat) (a b u:Int),(b-a).toNat=n->0<=a->a<=b->(∀r r',a<=r->r<=r'->r'<b->p r=true->p r'=true)->
 a<=(Rl p q a b u).1/\(Rl p q a b u).1<=b/\(∀r,a<=r->r<(Rl p q a b u).1->p r=false)/\(∀r,(Rl p q a b u).1<=r->r<b->p r=true):=by
 intro n;induction n using LB with
 |_ n ih=>
  intro a b u hn h0 h1 hm;by_cases e:a=b
  ·rw[m7 e];exact⟨LS _,h1,fun r h2 h3=>by omega,fun r h2 h3=>by omega⟩
  ·have hi:=bd h0 (show a<b by omega);cases hp:p ((a+b).tdiv 2)with
   |true=>
    rw[fL h0 (by omega) hp];have:=ih _ (by omega) a ((a+b).tdiv 2) (q ((a+b).tdiv 2)) rfl h0 hi.1 (fun r r' g1 g2 g3=>hm r r' g1 g2 (by omega));refine⟨this.1,by omega,this.2.2.1,fun r h2 h3=> ?_⟩;by_cases e2:r<(a+b).tdiv 2
    ·exact this.2.2.2 r h2 e2
    ·exact hm _ r hi.1 (by omega) h3 hp
   |false=>
    rw[jJ h0 (by omega) hp];have:=ih _ (by omega) ((a+b).tdiv 2+1) b (q ((a+b).tdiv 2)) rfl (by omega) (by omega) (fun r r' g1 g2 g3=>hm r r' (by omega) g2 g3);refine⟨by omega,this.2.1,fun r h2 h3=> ?_,this.2.2.2⟩;by_cases e2:(a+b).tdiv 2<r
    ·exact this.2.2.1 r (by omega) h3
    ·cases hr:p r with
     |false=>rfl
     |true=>have:=hm r _ h2 (by omega) hi.2 hr;rw[hp]at this;cases this
theorem GZ{a b:Int}(h0:0<=a)(h1:a<=b):a<=(a+b).tdiv 2/\(a+b).tdiv 2<=b:=by
 have:=LP (a:=a+b) (b:=2) (by omega);omega
theorem NK{a b:Int}(h0:0<=a)(h1:a<=b):a+(b-a).tdiv 2=(a+b).tdiv 2:=by
 rw[LP (by omega),LP (by omega)];omega
def Wg(Qc n:Int):Int:=n+(n*Qc).tdiv 1000
def Ww(room f g:Int):Int:=if room<=f then 0 else if(f*g).tdiv 1000<room-f then(f*g).tdiv 1000 else room-f
theorem Yy{a r:Int}(ha:0<=a/\a<=1000000000000)(hr:0<=r/\r<=2000):0<=a*r/\a*r<=2000000000000000/\0<=(a*r).tdiv 1000/\(a*r).tdiv 1000<=2000000000000:=by
 have e0:0<=a*r:=Int.mul_nonneg ha.1 hr.1;have e1:a*r<=1000000000000*2000:=Int.mul_le_mul ha.2 hr.2 hr.1 (by omega);have e2:(a*r).tdiv 1000=(a*r) / 1000:=LP e0;omega
def ZD(Qc n c:Int):Bool:=decide (n<=Wg Qc c)
def X6(Qc n:Int):Int:=(Rl (ZD Qc n) (fun _=>0) 0 n 0).1
theorem Fv(B:Lo)(r:Qo)(n:Int):let a:=n*r.Qc;let b:=n+Lc a 1000;Xq (Qq YP (Q6 YP) J0 B 6 1 (Qx YP 60 12 (([.agg (Q1 r).toArray,YI n]).map (Q7 0 4))) Zb 1
 [(6,Z4 a),(7,Z4 (Lc a 1000)),(8,Z4 b)] 0 [] []) []=some (YI b,
 [wq b=n+Lc a 1000,IntKind.wrap .i64 (Lc a 1000)=Lc a 1000,wq a=n*r.Qc]):=by intro a b;kernel_rfl
set_option maxHeartbeats 4000000 in
theorem IL(r:Qo)(n:Int)(hm:0<=r.Qc/\r.Qc<=2000)(hn:0<=n/\n<=1000000000000){B:Lo}(hJ:∀w,B.has w->J0 w):EndsT YP B (Qx YP 60 12 (([.agg (Q1 r).toArray,YI n]).map (Q7 0 4))) (YI (Wg r.Qc n)):=by
 have e0:=Yy hn hm;exact(GoE.endsT okF hJ Qf GoE.start (Fv B r n)
  ⟨(QP (by omega) (by omega)),⟨(Jf (by omega) (by omega)),⟨(QP (by omega) (by omega)),trivial⟩⟩⟩).cast (by rfl)
theorem Fw(r:Qo)(n:Int)(hm:0<=r.Qc/\r.Qc<=2000)(hn:0<=n/\n<=1000000000000):Qr YP J0 60 #[.agg (Q1 r).toArray,YI n] (YI (Wg r.Qc n)):=
 Xi (ts:=[.agg (Q1 r).toArray,YI n]) Za (c0:=Qx YP 60 12 (([.agg (Q1 r).toArray,YI n]).map (Q7 0 4))) (by kernel_rfl) (by kernel_rfl) fun B hJ=>IL r n hm hn hJ
theorem Cc(B:Lo)(x:Qg)  :Xq (Qq YP (Q6 YP) J0 B 10 1 (Qx YP 61 10 (([.agg (Qi x).toArray,.bool true]).map (Q7 0 4))) Zb 1
 [] 0 [] []) []=some (.agg #[YI x.VP,YI x.VQ],
 []):=by kernel_rfl
theorem Cb(B:Lo)(x:Qg)  :Xq (Qq YP (Q6 YP) J0 B 11 1 (Qx YP 61 10 (([.agg (Qi x).toArray,.bool false]).map (Q7 0 4))) Zb 1
 [] 0 [] []) []=some (.agg #[YI x.VW,YI x.VX],
 []):=by kernel_rfl
set_option maxHeartbeats 4000000 in
theorem E6(x:Qg)(b:Bool)  {B:Lo}(hJ:∀w,B.has w->J0 w):EndsT YP B (Qx YP 61 10 (([.agg (Qi x).toArray,.bool b]).map (Q7 0 4))) (.agg #[YI (if b then x.VP else x.VW),YI (if b then x.VQ else x.VX)]):=by
 cases b with
 |true=>
  exact(GoE.endsT okF hJ Qf GoE.start (Cc B x)
   trivial).cast (by rfl)
 |false=>
  exact(GoE.endsT okF hJ Qf GoE.start (Cb B x)
   trivial).cast (by rfl)
theorem Wk(x:Qg)(b:Bool)  :Qr YP J0 61 #[.agg (Qi x).toArray,.bool b] (.agg #[YI (if b then x.VP else x.VW),YI (if b then x.VQ else x.VX)]):=
 Xi (ts:=[.agg (Qi x).toArray,.bool b]) Za (c0:=Qx YP 61 10 (([.agg (Qi x).toArray,.bool b]).map (Q7 0 4))) (by kernel_rfl) (by kernel_rfl) fun B hJ=>E6 x b  hJ
theorem Cu(B:Lo)(x:Qg)(f g:Int):Xq (Qq YP (Q6 YP) J0 B 10 1 (Qx YP 62 20 (([.agg (Qi x).toArray,YI f,YI g]).map (Q7 0 4))) Zb 1
 [(5,ZC)] 0 [] []) []=some (YI 0,
 [(!XA f x.room)=true]):=by kernel_rfl
theorem Ct(B:Lo)(x:Qg)(f g:Int):Xq (Qq YP (Q6 YP) J0 B 11 1 (Qx YP 62 20 (([.agg (Qi x).toArray,YI f,YI g]).map (Q7 0 4))) Zb 1
 [(5,Wi),(9,Z4 (x.room-f)),(12,Z4 (f*g)),(13,Z4 (Lc (f*g) 1000))] 0 [] []) []=some (YI (if Lc (f*g) 1000<x.room-f then Lc (f*g) 1000 else x.room-f),
 [IntKind.wrap .i64 (Lc (f*g) 1000)=Lc (f*g) 1000,wq (f*g)=f*g,wq (x.room-f)=x.room-f,(!XA f x.room)=false]):=by kernel_rfl
set_option maxHeartbeats 4000000 in
theorem Fy(x:Qg)(f g:Int)(hf:0<=f/\f<=1000000000000)(hg:0<=g/\g<=2000)(hx:0<=x.room/\x.room<=1000000){B:Lo}(hJ:∀w,B.has w->J0 w):EndsT YP B (Qx YP 62 20 (([.agg (Qi x).toArray,YI f,YI g]).map (Q7 0 4))) (YI (Ww x.room f g)):=by
 have e0:=Yy hf hg;by_cases q0:(x.room:Int)<=(f)
 ·exact(GoE.endsT okF hJ Qf GoE.start (Cu B x f g)
   ⟨(VS q0),trivial⟩).cast (by(simp only[Ww];rw[if_pos q0];done))
 ·exact(GoE.endsT okF hJ Qf GoE.start (Ct B x f g)
   ⟨(Jf (by omega) (by omega)),⟨(QP (by omega) (by omega)),⟨(QP (by omega) (by omega)),⟨(VT (Int.not_le.1 q0)),trivial⟩⟩⟩⟩).cast (by(simp only[Ww];rw[if_neg q0];done))
theorem F0(x:Qg)(f g:Int)(hf:0<=f/\f<=1000000000000)(hg:0<=g/\g<=2000)(hx:0<=x.room/\x.room<=1000000):Qr YP J0 62 #[.agg (Qi x).toArray,YI f,YI g] (YI (Ww x.room f g)):=
 Xi (ts:=[.agg (Qi x).toArray,YI f,YI g]) Za (c0:=Qx YP 62 20 (([.agg (Qi x).toArray,YI f,YI g]).map (Q7 0 4))) (by kernel_rfl) (by kernel_rfl) fun B hJ=>Fy x f g hf hg hx hJ
section
variable (B:Lo)(c0:CF)(r:Qo)(n a b:Int)(Qp:Nat->Value)
def YH(r:Qo)(n:Int)(a b:Int):List Value:=[YI n,pA 2 0,YI a,YI b]
def WX(n:Int)(a b:Int):List Obj:=[Obj.cells #[Q2 1 (QH r.Qb.length (Qe Qi r.Qb)),YI r.Qc,YI r.Qd] 24]
def YJ:List Item:=([.code [1,1,0,0,0],.inLoop [1,1,0,0,0],.inBlock 0,.code [1,1,1]]).map (it (QG YP 57))
def Cs:Prop:=∃dJ:Nat->Value,(∀t,Xe (dJ t))/\GoE YP B c0 Zb 1 (Q9 57 27 (([1,2,5,6]:List Nat).zip (YH r n a b)) dJ YJ) (Q8 (WX r n a b)) (2+(WX r n a b).length) []
def g8(B:Lo)(r:Qo)(n:Int)(a b:Int)(Qp:Nat->Value):List Prop:=let c:=a+Lc (b-a) 2;[Q3 []/\Qr YP J0 60 #[.agg #[QH r.Qb.length (Qe Qi r.Qb),YI r.Qc,YI r.Qd],YI c] (YI (Wg r.Qc c)),wq c=a+Lc (b-a) 2,IntKind.wrap .i64 (Lc (b-a) 2)=Lc (b-a) 2,wq (b-a)=b-a,XA a b=true]++([]:List Prop)
def pn(n:Int)(a b:Int)(Qp:Nat->Value):QI:=[(2,ZC),(6,Z4 (b-a)),(7,Z4 (Lc (b-a) 2)),(8,Z4 (a+Lc (b-a) 2)),(12,Qh.pure (YI (Wg r.Qc (a+Lc (b-a) 2))) [])]
theorem Cq(B:Lo)(r:Qo)(n:Int)(a b:Int)(Qp:Nat->Value):let c:=a+Lc (b-a) 2;landM (Qq YP (Q6 YP) J0 B 14 1 (Q9 57 27 (([1,2,5,6]:List Nat).zip (YH r n a b)) Qp YJ) (Q8 (WX r n a b)) (2+(WX r n a b).length)
 (pn r n a b Qp++[(14,ZC)]) 0 [] []) [1,2,5,6] [(2,KS.auto)] []=some ⟨57,27,YJ,[],.run,none,YH r n (a) c,WX r n (a) c,
 [(!XA (Wg r.Qc c) n)=true]++g8 B r n a b Qp⟩:=by intro c;kernel_rfl
theorem Cp(B:Lo)(r:Qo)(n:Int)(a b:Int)(Qp:Nat->Value):let c:=a+Lc (b-a) 2+1;landM (Qq YP (Q6 YP) J0 B 14 1 (Q9 57 27 (([1,2,5,6]:List Nat).zip (YH r n a b)) Qp YJ) (Q8 (WX r n a b)) (2+(WX r n a b).length)
 (pn r n a b Qp++[(14,Wi),(16,Z4 c)]) 0 [] []) [1,2,5,6] [(2,KS.auto)] []=some ⟨57,27,YJ,[],.run,none,YH r n c (b),WX r n c (b),
 [wq c=a+Lc (b-a) 2+1,(!XA (Wg r.Qc (a+Lc (b-a) 2)) n)=false]++g8 B r n a b Qp⟩:=by intro c;kernel_rfl
theorem Co:Xq (Qq YP (Q6 YP) J0 B 9 1 (Q9 57 27 (([1,2,5,6]:List Nat).zip (YH r n a b)) Qp YJ) (Q8 (WX r n a b)) (2+(WX r n a b).length)
 [(2,Wi)] 0 [] []) []=some (YI a,
 [XA a b=false]):=by kernel_rfl
theorem Cn:landM (Qq YP (Q6 YP) J0 B 7 1 (Qx YP 57 27 (([.agg (Q1 r).toArray,YI n]).map (Q7 0 4))) Zb 1
 [] 0 [] []) [1,2,5,6] [(1,KS.auto)] []=some ⟨57,27,YJ,[],.run,none,YH r n (0) (n),WX r n (0) (n),
 []⟩:=by kernel_rfl
end
set_option maxHeartbeats 4000000 in
theorem Cr(r:Qo)(n:Int)(hm:0<=r.Qc/\r.Qc<=2000)(hn:0<=n/\n<=1000000000000){B:Lo}(hJ:∀w,B.has w->J0 w){c0:CF}:∀m:Nat,(∀(a b:Int),(b-a).toNat=m->∀(a0:0<=a) (ab:a<=b) (b1:b<=n),Cs B c0 r n a b->EndsT YP B c0 (YI (Rl (ZD r.Qc n) (fun _=>0) a b 0).1)):=by
 intro m0;induction m0 using LB with
 |_ m0 ih0=>
  intro a b UX a0 ab b1 ⟨Qp,Zr,Xo⟩;have hl:=GZ a0 ab;have hmid:=NK a0 ab;by_cases q0:(a:Int)<(b)
  ·have Uc:Q3 (g8 B r n a b Qp):=by
    have hm1:=bd a0 (show a<b by omega);exact⟨⟨trivial,Fw (r) (a+Lc (b-a) 2) (by with_reducible assumption) (by omega)⟩,⟨(QP (by omega) (by omega)),⟨(Jf (by omega) (by omega)),⟨(QP (by omega) (by omega)),⟨(Xh q0),trivial⟩⟩⟩⟩⟩
   by_cases q1:(n:Int)<=(Wg r.Qc (a+Lc (b-a) 2))
   ·have hm1:=bd a0 (show a<b by omega);have s2:=fL (p:=ZD r.Qc n) (q:=fun _=>0) (u:=0) a0 (show a<b by omega) (by rw[<-hmid];exact decide_eq_true (by omega));exact((ih0 _ (by omega)) (a) (a+Lc (b-a) 2) rfl (by with_reducible assumption) (by omega) (by omega)
     (Xo.landM okF hJ Qf (Cq B r n a b Qp)
     ⟨(VS q1),Uc⟩ (by kernel_rfl) (by kernel_rfl))).cast (by(rw[s2,hmid];done))
   ·have hm1:=bd a0 (show a<b by omega);have s3:=jJ (p:=ZD r.Qc n) (q:=fun _=>0) (u:=0) a0 (show a<b by omega) (by rw[<-hmid];exact decide_eq_false (by omega));exact((ih0 _ (by omega)) (a+Lc (b-a) 2+1) (b) rfl (by omega) (by omega) (by with_reducible assumption)
     (Xo.landM okF hJ Qf (Cp B r n a b Qp)
     ⟨(QP (by omega) (by omega)),⟨(VT (Int.not_le.1 q1)),Uc⟩⟩ (by kernel_rfl) (by kernel_rfl))).cast (by(rw[s3,hmid];done))
  ·exact(GoE.endsT okF hJ Qf Xo (Co B r n a b Qp)
    ⟨(X7 (Int.not_lt.1 q0)),trivial⟩).cast (by(rw[m7 (by omega)];done))
set_option maxHeartbeats 4000000 in
theorem Fx(r:Qo)(n:Int)(hm:0<=r.Qc/\r.Qc<=2000)(hn:0<=n/\n<=1000000000000){B:Lo}(hJ:∀w,B.has w->J0 w):EndsT YP B (Qx YP 57 27 (([.agg (Q1 r).toArray,YI n]).map (Q7 0 4))) (YI (X6 r.Qc n)):=by
 exact((Cr r n hm hn hJ _) (0) (n) rfl (by omega) (by omega) (by omega)
  (GoE.start.landM okF hJ Qf (Cn B r n)
  trivial (by kernel_rfl) (by kernel_rfl))).cast (by rfl)
theorem Nw(r:Qo)(n:Int)(hm:0<=r.Qc/\r.Qc<=2000)(hn:0<=n/\n<=1000000000000):Qr YP J0 57 #[.agg (Q1 r).toArray,YI n] (YI (X6 r.Qc n)):=
 Xi (ts:=[.agg (Q1 r).toArray,YI n]) Za (c0:=Qx YP 57 27 (([.agg (Q1 r).toArray,YI n]).map (Q7 0 4))) (by kernel_rfl) (by kernel_rfl) fun B hJ=>Fx r n hm hn hJ
def Zc(x:Qg):Span:=⟨x.Yj,x.Yk⟩
def Yx(x:Qg):Span:=⟨x.VW,x.VX⟩
def Ze(Qc:Int)(x:Qg):Span:=⟨x.count,Wg Qc x.count⟩
section
variable (x_:Qg)(B:Lo)(c0:CF)(xs:List Qg)(i:Int)(ys:List Span)(Qp:Nat->Value)
def bV:Array Value:=#[YI x_.count,YI x_.room,YI x_.Yj,YI x_.Yk,YI x_.QN,YI x_.X9,YI x_.VW,YI x_.VX,YI x_.VP,YI x_.VQ,YI x_.goal,YI x_.Vt]
def SS:=(xs.getD i.toNat La)
def pT:Value:=(.agg #[YI (Qg.Yj (SS xs i)),YI (Qg.Yk (SS xs i))])
def Du:Array Value:=(Qe Qk (LC ys i.toNat {lo:=Qg.Yj (SS xs i),hi:=Qg.Yk (SS xs i)}))
def pS:Array Value:=(Qe (KE [YI 0,YI 0]) (Lz xs.length ()))
def SU(ys:List Span):List Value:=[Value.func (Fn.func 104) #[] #[],.slice (some {block:=2,off:=0}) xs.length 2,Q2 1 (QH xs.length (Qe Qi xs)),YI (↑xs.length:Int),YI i]
def KY(xs:List Qg)(i:Int)(ys:List Span):List Obj:=[.cells (Qe Qk ys) 38 (0,0)]
def SV:List Item:=([.code [1,1,0,1,0,0],.inLoop [1,1,0,1,0,0],.inBlock 0,.code [1,1,1]]).map (it (QG YP 102))
def D0:Prop:=∃dJ:Nat->Value,(∀t,Xe (dJ t))/\GoE YP B c0 Zb 1 (Q9 102 26 (([1,5,11,12,13]:List Nat).zip (SU xs i ys)) dJ SV) (Q8 (KY xs i ys)) (2+(KY xs i ys).length) []
def SW(Qp:Nat->Value):Qt:=[(3,Obj.cells (bV (xs.getD i.toNat La)) 54),(0,Obj.coro none),(1,Obj.coro none),(2,Obj.cells (Qe Qk ys) 38)]
def bW(ys:List Span)(Qp:Nat->Value):CF:=⟨104,ofList 5 [.agg (bV (xs.getD i.toNat La))],[Item.code (QG YP 104)],[],.run,none⟩
theorem Dy:CE.finK 4 (Qq YP (Q6 YP) J0 B 6 4 (bW xs i ys Qp) (SW xs i ys Qp) 4
 [] 0 [] []) [] [] []=some (OO.ret (pT xs i),[],[],
 []):=by kernel_rfl
theorem Dx(B:Lo)(xs:List Qg)(i:Int)(ys:List Span)(Qp:Nat->Value):let f:=pT xs i;let e:=SS xs i;let c:=Du xs i ys;let b:=Lb i;let d:=xs.getD b La;let a:=LC ys b {lo:=e.Yj,hi:=e.Yk};landM (Qq YP (Q6 YP) J0 B 13 1 (Q9 102 26 (([1,5,11,12,13]:List Nat).zip (SU xs i ys)) Qp SV) (Q8 (KY xs i ys)) (2+(KY xs i ys).length)
 [(0,ZC),(2,Qh.tidx b (bV e)),(11,Qh.call (Ll 4) (OO.ret f) ([]++(4,X8)::X0 5 []) 5 []),(12,Qh.Xs (Hint.idx b)),(13,Qh.Xs (Hint.st c)),(14,Z4 (i+1))] 0 [] []) [1,5,11,12,13] [(2,KS.cells [] c)] []=some ⟨102,26,SV,[],.run,none,SU xs (i+1) a,KY xs (i+1) a,
 [Qv 1 [] c c,wq (i+1)=i+1,0+Lb i*2+TypeInfo.size Try.t38<=LA (Qe Qk ys)/\splice (Qe Qk ys) (0+Lb i*2) (Value.cells (XT {len:=16000,tr:=Tri.set 14 (Tri.set 14 Tri.lf 22 f) 23 (.pointer (some {block:=2,off:=0+Lb i*2}))} 22))=Qe Qk (LC ys b {lo:=d.Yj,hi:=d.Yk}),i=(↑b:Int)/\Lb i<Ld xs,FJ YP B (bW xs i ys Qp) (SW xs i ys Qp) 4 (OO.ret f) (([]++((4,X8)::X0 (4+1) []))++SW xs i ys Qp) 5 (Ll 4) [],Vr i xs.length (Qe Qi xs) Try.t54.size (bV d),XA i (↑xs.length:Int)=true]⟩:=by intro f e c b d a;kernel_rfl
theorem Dw(B:Lo)(xs:List Qg)(i:Int)(ys:List Span)(Qp:Nat->Value):let a:=Fz.cs {k:=2,rs:=[],cs:=Qe Qk ys};Xq (Qq YP (Q6 YP) J0 B 9 1 (Q9 102 26 (([1,5,11,12,13]:List Nat).zip (SU xs i ys)) Qp SV) (Q8 (KY xs i ys)) (2+(KY xs i ys).length)
 [(0,Wi)] 0 [] []) [{k:=2,rs:=[],cs:=Qe Qk ys}]=some (QH xs.length a,
 [X4 (Fz.rs {k:=2,rs:=[],cs:=Qe Qk ys}) (Qe Qk ys) a,XA i (↑xs.length:Int)=false]):=by intro a;kernel_rfl
theorem Dv(B:Lo)(xs:List Qg):let c:=Ld xs;let b:=XT {len:=16000,tr:=Tri.set 14 Tri.lf 9 (YI (↑c:Int))} 9;let a:=Lz c {lo:=0,hi:=0};landM (Qq YP (Q6 YP) J0 B 9 1 (Qx YP 102 26 (([Yh xs,.func (.func 104) #[] #[]]).map (Q7 0 4))) Zb 1
 [(3,Qh.Xs (Hint.mk c (pS xs)))] 0 [] []) [1,5,11,12,13] [(1,KS.rows [] [] [] (Qe Qk a))] []=some ⟨102,26,SV,[],.run,none,SU xs (0) a,KY xs (0) a,
 [QX 1 [] [] [] (pS xs) (Qe Qk a),Tg YP 36 b b=some (38,Qe (KE [YI 0,YI 0]) (Lz c ()),Ld xs,TypeInfo.size Try.t38)]⟩:=by intro c b a;kernel_rfl
end
set_option maxHeartbeats 4000000 in
theorem Dz(xs:List Qg)(hn:xs.length<=1000000){B:Lo}(hJ:∀w,B.has w->J0 w){c0:CF}:∀m:Nat,(∀(i:Int) (ys:List Span),(xs.length-i.toNat)=m->∀(h0:0<=i) (hy:ys=RY Zc ⟨0,0⟩ xs i),D0 B c0 xs i ys->EndsT YP B c0 (Sf (xs.map Zc))):=by
 intro m0;induction m0 using LB with
 |_ m0 ih0=>
  intro i ys UX h0 hy ⟨Qp,Zr,Xo⟩;have hyl:ys.length=xs.length:=by rw[hy];exact Tb
  by_cases q0:(i:Int)<((↑xs.length:Int))
  ·have rj0:FJ YP B (bW xs i ys Qp) (SW xs i ys Qp) 4 (OO.ret (.agg #[YI (Qg.Yj (xs.getD i.toNat La)),YI (Qg.Yk (xs.getD i.toNat La))])) (([]++((4,X8)::X0 (4+1) []))++SW xs i ys Qp) 5 (Ll 4) []:=by
    exact FinK.fjB (GoE.finK okF hJ Qf (QA (by kernel_rfl)) (Q4 (by kernel_rfl)) ((GoE.refl (P:=YP) (B:=B) (c0:=bW xs i ys Qp) (QA (by kernel_rfl))).widen (Wf:=((([]):List (Nat×KS)).map (·.1))) (by simp) (Q4 (by kernel_rfl))) (Dy B xs i ys Qp)
     trivial) (ex:=[2]) (by kernel_rfl) ⟨trivial,⟨trivial,⟨trivial,⟨(Ro (t:=38) (fl:=(0,0)) (fun x=>List.all_eq_true.1 (by rfl))),trivial⟩⟩⟩⟩
   exact((ih0 _ (by omega)) (i+1) (LC ys i.toNat {lo:=Qg.Yj (xs.getD i.toNat La),hi:=Qg.Yk (xs.getD i.toNat La)}) rfl (by omega) (by(subst hy;exact Ta (f:=Zc) h0 q0))
    (Xo.landM okF hJ Qf (Dx B xs i ys Qp)
    (by exact⟨(XI fun _=>by rfl),⟨(QP (by omega) (by omega)),⟨(by exact WC (z:=2) (k:=Lb i) (fun _=>rfl) (by first|omega|(rw[LJ];omega)|(rw[Lv];omega)) rfl rfl),⟨⟨by omega,by omega⟩,⟨rj0,⟨⟨by omega,by omega,(Qu (z:=12) (fun _=>rfl) (by omega))⟩,⟨(Xh q0),trivial⟩⟩⟩⟩⟩⟩⟩) (by kernel_rfl) (by kernel_rfl))).cast (by rfl)
  ·exact(GoE.endsT okF hJ Qf Xo (Dw B xs i ys Qp)
    ⟨(Xg (fun x=>List.all_eq_true.1 (by rfl))),⟨(X7 (Int.not_lt.1 q0)),trivial⟩⟩).cast (by exact dO (hy.trans (Tc (by omega))) (by simp))
set_option maxHeartbeats 4000000 in
theorem GM(xs:List Qg)(hn:xs.length<=1000000){B:Lo}(hJ:∀w,B.has w->J0 w):EndsT YP B (Qx YP 102 26 (([Yh xs,.func (.func 104) #[] #[]]).map (Q7 0 4))) (Sf (xs.map Zc)):=by
 exact((Dz xs hn hJ _) (0) (Lz xs.length {lo:=0,hi:=0}) rfl (by omega) (by exact fW)
  (GoE.start.landM okF hJ Qf (Dv B xs)
  (by exact⟨(by exact(UM (by exact⟨(.simple rfl),⟨(.simple rfl),trivial⟩⟩) _)),⟨(gX (bytes:=16) (by kernel_rfl) (by omega) (by omega) (by omega)),trivial⟩⟩) (by kernel_rfl) (by kernel_rfl))).cast (by rfl)
theorem NF(xs:List Qg)(hn:xs.length<=1000000):Qr YP J0 102 #[Yh xs,.func (.func 104) #[] #[]] (Sf (xs.map Zc)):=
 Xi (ts:=[Yh xs,.func (.func 104) #[] #[]]) Za (c0:=Qx YP 102 26 (([Yh xs,.func (.func 104) #[] #[]]).map (Q7 0 4))) (by kernel_rfl) (by kernel_rfl) fun B hJ=>GM xs hn hJ
def bO(rf:Qo):=(List.map Zc rf.Qb)
def pJ(rf:Qo):Value:=(QH (Ld (bO rf)) (Qe Qk (bO rf)))
theorem CU(B:Lo)(rf:Qo)(Qa:List Int):Xq (Qq YP (Q6 YP) J0 B 6 1 (Qx YP 83 7 (([.agg (QQ rf Qa).toArray]).map (Q7 0 4))) Zb 1
 [(5,Qh.pure (pJ rf) [])] 0 [] []) []=some (QH (Ld (bO rf)) (Qe Qk (bO rf)),
 [Q3 []/\Qr YP J0 102 #[QH rf.Qb.length (Qe Qi rf.Qb),Value.func (Fn.func 104) #[] #[]] (pJ rf)]):=by kernel_rfl
set_option maxHeartbeats 4000000 in
theorem Gy(rf:Qo)(Qa:List Int)(hn:rf.Qb.length<=1000000){B:Lo}(hJ:∀w,B.has w->J0 w):EndsT YP B (Qx YP 83 7 (([.agg (QQ rf Qa).toArray]).map (Q7 0 4))) (Sf (rf.Qb.map Zc)):=by
 exact(GoE.endsT okF hJ Qf GoE.start (CU B rf Qa)
  ⟨⟨trivial,NF rf.Qb (by with_reducible assumption)⟩,trivial⟩).cast (by rfl)
theorem Gz(rf:Qo)(Qa:List Int)(hn:rf.Qb.length<=1000000):Qr YP J0 83 #[.agg (QQ rf Qa).toArray] (Sf (rf.Qb.map Zc)):=
 Xi (ts:=[.agg (QQ rf Qa).toArray]) Za (c0:=Qx YP 83 7 (([.agg (QQ rf Qa).toArray]).map (Q7 0 4))) (by kernel_rfl) (by kernel_rfl) fun B hJ=>Gy rf Qa hn hJ
section
variable (x_:Qg)(rf:Qo)(Qa:List Int)(i:Int)(ys:List Span)
def TA:Array Value:=#[YI x_.count,YI x_.room,YI x_.Yj,YI x_.Yk,YI x_.QN,YI x_.X9,YI x_.VW,YI x_.VX,YI x_.VP,YI x_.VQ,YI x_.goal,YI x_.Vt]
def K6:=(rf.Qb.getD i.toNat La)
def K7:=(K6 rf i)
def lH:Value:=(.agg #[YI (Qg.count (K6 rf i)),YI (Qg.count (K6 rf i)+Lc (Qg.count (K6 rf i)*rf.Qc) 1000)])
def T9:=(Qg.count (K7 rf i)*rf.Qc)
def lG:Array Value:=(Qe Qk (LC ys i.toNat {lo:=Qg.count (K6 rf i),hi:=Qg.count (K6 rf i)+Lc (Qg.count (K6 rf i)*rf.Qc) 1000}))
def T8:=(List.map (Ze rf.Qc) rf.Qb)
def zd:Value:=(Q2 2 (QH (Ld (T8 rf)) (Qe Qk (T8 rf))))
def lF:Value:=(.agg #[YI (Qg.count (K7 rf i)),YI (Qg.count (K7 rf i)+Lc (T9 rf i) 1000)])
def lE:Array Value:=(Qe (KE [YI 0,YI 0]) (Lz rf.Qb.length ()))
def lD:Array Value:=(Qe Qk (LC ys i.toNat {lo:=Qg.count (K7 rf i),hi:=Qg.count (K7 rf i)+Lc (T9 rf i) 1000}))
def iq:Array Value:=(Qe Qk (Lz rf.Qb.length {lo:=0,hi:=0}))
def WM:Qt:=[(1,Obj.cells #[Q2 0 (QH rf.Qb.length (Qe Qi rf.Qb)),YI rf.Qc,YI rf.Qd,YI (Qa.getD 0 0),YI (Qa.getD 1 0),YI (Qa.getD 2 0),YI (Qa.getD 3 0)] 84),(0,Obj.coro none)]
def YQ(Qa:List Int):CF:=⟨102,ofList 26 [Q2 0 (QH rf.Qb.length (Qe Qi rf.Qb)),Value.func (Fn.func 103) #[] #[pA 1 0]],[Item.code (QG YP 102)],[],.run,none⟩
def Kf(Qa:List Int)(i:Int)(ys:List Span):List Value:=[Value.func (Fn.func 103) #[] #[pA 1 0],.slice (some {block:=3,off:=0}) rf.Qb.length 2,Q2 0 (QH rf.Qb.length (Qe Qi rf.Qb)),YI (↑rf.Qb.length:Int),YI i]
def Ke(rf:Qo)(Qa:List Int)(i:Int)(ys:List Span):List Obj:=[]
def VJ(rf:Qo)(Qa:List Int)(i:Int)(ys:List Span):List Obj:=[.cells (Qe Qk ys) 38 (0,0)]
def Kg:List Item:=([.code [1,1,0,1,0,0],.inLoop [1,1,0,1,0,0],.inBlock 0,.code [1,1,1]]).map (it (QG YP 102))
def Rh(Qp:Nat->Value):Qt:=[(4,Obj.cells (TA (rf.Qb.getD i.toNat La)) 54),(2,Obj.coro none),(3,Obj.cells (Qe Qk ys) 38),(1,Obj.cells #[Q2 0 (QH rf.Qb.length (Qe Qi rf.Qb)),YI rf.Qc,YI rf.Qd,YI (Qa.getD 0 0),YI (Qa.getD 1 0),YI (Qa.getD 2 0),YI (Qa.getD 3 0)] 84),(0,Obj.coro none)]
def TB(Qa:List Int)(i:Int)(ys:List Span)(Qp:Nat->Value):CF:=⟨103,ofList 13 [.agg (TA (rf.Qb.getD i.toNat La)),pA 1 0],[Item.code (QG YP 103)],[],.run,none⟩
theorem zh(B:Lo)(rf:Qo)(Qa:List Int)(i:Int)(ys:List Span)(Qp:Nat->Value):let a:=rf.Qb.getD i.toNat La;CE.finK 5 (Qq YP (Q6 YP) J0 B 6 5 (TB rf Qa i ys Qp) (Rh rf Qa i ys Qp) 5
 [(9,Qh.pure (YI (Qg.count (K7 rf i)+Lc (T9 rf i) 1000)) [])] 0 [] []) [] [] []=some (OO.ret (lF rf i),[],[],
 [Q3 []/\Qr YP J0 100 #[YI a.count,YI rf.Qc] (YI (a.count+Lc (a.count*rf.Qc) 1000))]):=by intro a;kernel_rfl
theorem zg(B:Lo)(rf:Qo)(Qa:List Int)(i:Int)(ys:List Span)(Qp:Nat->Value):let f:=VJ rf Qa i ys;let e:=K7 rf i;let d:=Lb i;let c:=rf.Qb;let b:=c.getD d La;let a:=LC ys d {lo:=e.count,hi:=e.count+Lc (T9 rf i) 1000};CE.landA 2 (Qq YP (Q6 YP) J0 B 13 2 (XR (none) 102 26 (([1,5,11,12,13]:List Nat).zip (Kf rf Qa i ys)) Qp Kg) (XC (WM rf Qa) 2 (([]:List Nat).zip (Ke rf Qa i ys)) f) (2+1+f.length)
 [(0,ZC),(2,Qh.tidx d (TA e)),(11,Qh.call (Ll 5) (OO.ret (lF rf i)) ([]++(5,X8)::X0 6 []) 6 []),(12,Qh.Xs (Hint.idx d)),(13,Qh.Xs (Hint.st (lD rf i ys))),(14,Z4 (i+1))] 0 [] []) [1,5,11,12,13] [] [(3,KS.cells [] (lD rf i ys))] []=some ⟨102,26,Kg,[],.run,none,Kf rf Qa (i+1) a,([]:List Nat).zip (Ke rf Qa (i+1) a),VJ rf Qa (i+1) a,
 [Qv 2 [] (lG rf i ys) (lG rf i ys),wq (i+1)=i+1,0+Lb i*2+TypeInfo.size Try.t38<=LA (Qe Qk ys)/\splice (Qe Qk ys) (0+Lb i*2) (Value.cells (XT {len:=16000,tr:=Tri.set 14 (Tri.set 14 Tri.lf 22 (lH rf i)) 23 (.pointer (some {block:=3,off:=0+Lb i*2}))} 22))=Qe Qk (LC ys d {lo:=b.count,hi:=b.count+Lc (b.count*rf.Qc) 1000}),i=(↑d:Int)/\Lb i<Ld c,FJ YP B (TB rf Qa i ys Qp) (Rh rf Qa i ys Qp) 5 (OO.ret (lH rf i)) (([]++((5,X8)::X0 (5+1) []))++Rh rf Qa i ys Qp) 6 (Ll 5) [],Vr i c.length (Qe Qi c) Try.t54.size (TA b),XA i (↑c.length:Int)=true]⟩:=by intro f e d c b a;kernel_rfl
theorem zf(B:Lo)(rf:Qo)(Qa:List Int)(i:Int)(ys:List Span)(Qp:Nat->Value):let c:=VJ rf Qa i ys;let b:=Ld rf.Qb;let a:=Fz.cs {k:=3,rs:=[],cs:=Qe Qk ys};CE.finK 2 (Qq YP (Q6 YP) J0 B 9 2 (XR (none) 102 26 (([1,5,11,12,13]:List Nat).zip (Kf rf Qa i ys)) Qp Kg) (XC (WM rf Qa) 2 (([]:List Nat).zip (Ke rf Qa i ys)) c) (2+1+c.length)
 [(0,Wi)] 0 [] []) [] [] [{k:=3,rs:=[],cs:=Qe Qk ys}]=some (OO.ret (Q2 2 (QH b a)),[],[],
 [X4 (Fz.rs {k:=3,rs:=[],cs:=Qe Qk ys}) (Qe Qk ys) a,XA i (↑b:Int)=false]):=by intro c b a;kernel_rfl
end
set_option maxHeartbeats 4000000 in
theorem oE(rf:Qo)(Qa:List Int)(hn:rf.Qb.length<=1000000)(hm:0<=rf.Qc/\rf.Qc<=2000)(hc:∀k:Int,0<=k->k<rf.Qb.length->0<=(rf.Qb.getD k.toNat La).count/\(rf.Qb.getD k.toNat La).count<=1000000){B:Lo}(hJ:∀w,B.has w->J0 w):∀m:Nat,(∀(i:Int) (ys:List Span),(rf.Qb.length-i.toNat)=m->∀(h0:0<=i) (hy:ys=RY (Ze rf.Qc) ⟨0,0⟩ rf.Qb i),(∃Qp:Nat->Value,(∀t,Xe (Qp t))/\GoE YP B (YQ rf Qa) (WM rf Qa) 2 (XR (none) 102 26 (([1,5,11,12,13]:List Nat).zip (Kf rf Qa i ys)) Qp Kg) (XC (WM rf Qa) 2 (([]:List Nat).zip (Ke rf Qa i ys)) (VJ rf Qa i ys)) (2+1+(VJ rf Qa i ys).length) ([]:List Nat))->FinK YP B (YQ rf Qa) (WM rf Qa) 2 (.ret (Q2 2 (Sf (rf.Qb.map (Ze rf.Qc))))) (([]:List Nat).zip ([])) ([]) ([]:List Nat)):=by
 intro m0;induction m0 using LB with
 |_ m0 ih0=>
  intro i ys UX h0 hy ⟨Qp,Zr,Xo⟩;have hyl:ys.length=rf.Qb.length:=by rw[hy];exact Tb
  by_cases q0:(i:Int)<((↑rf.Qb.length:Int))
  ·have rj1:FJ YP B (TB rf Qa i ys Qp) (Rh rf Qa i ys Qp) 5 (OO.ret (.agg #[YI (Qg.count (rf.Qb.getD i.toNat La)),YI (Qg.count (rf.Qb.getD i.toNat La)+Lc (Qg.count (rf.Qb.getD i.toNat La)*rf.Qc) 1000)])) (([]++((5,X8)::X0 (5+1) []))++Rh rf Qa i ys Qp) 6 (Ll 5) []:=by
    have hc1:=hc i h0 q0;exact FinK.fjB (GoE.finK okF hJ Qf (QA (by kernel_rfl)) (Q4 (by kernel_rfl)) ((GoE.refl (P:=YP) (B:=B) (c0:=TB rf Qa i ys Qp) (QA (by kernel_rfl))).widen (Wf:=((([]):List (Nat×KS)).map (·.1))) (by simp) (Q4 (by kernel_rfl))) (zh B rf Qa i ys Qp)
     ⟨⟨trivial,cV (Qg.count (rf.Qb.getD i.toNat La)) rf.Qc (by omega) (by omega)⟩,trivial⟩) (ex:=[3]) (by kernel_rfl) ⟨trivial,⟨trivial,⟨(Ro (t:=38) (fl:=(0,0)) (fun x=>List.all_eq_true.1 (by rfl))),⟨trivial,⟨trivial,trivial⟩⟩⟩⟩⟩
   have hc1:=hc i h0 q0;exact((ih0 _ (by omega)) (i+1) (LC ys i.toNat {lo:=Qg.count (rf.Qb.getD i.toNat La),hi:=Qg.count (rf.Qb.getD i.toNat La)+Lc (Qg.count (rf.Qb.getD i.toNat La)*rf.Qc) 1000}) rfl (by omega) (by(subst hy;exact Ta (f:=Ze rf.Qc) h0 q0))
    (GoE.landA okF hJ Qf (QA (by kernel_rfl)) (Q4 (by kernel_rfl)) Xo (zg B rf Qa i ys Qp)
    (by exact⟨(XI fun _=>by rfl),⟨(QP (by omega) (by omega)),⟨(by exact WC (z:=2) (k:=Lb i) (fun _=>rfl) (by first|omega|(rw[LJ];omega)|(rw[Lv];omega)) rfl rfl),⟨⟨by omega,by omega⟩,⟨rj1,⟨⟨by omega,by omega,(Qu (z:=12) (fun _=>rfl) (by omega))⟩,⟨(Xh q0),trivial⟩⟩⟩⟩⟩⟩⟩) (by kernel_rfl) (by kernel_rfl) (fun l hl=>by cases hl <;> decide))).cast (by rfl) (by rfl) (by rfl)
  ·exact(GoE.finK okF hJ Qf (QA (by kernel_rfl)) (Q4 (by kernel_rfl)) Xo (zf B rf Qa i ys Qp)
    ⟨(Xg (fun x=>List.all_eq_true.1 (by rfl))),⟨(X7 (Int.not_lt.1 q0)),trivial⟩⟩).cast (by exact congrArg (fun v=>OO.ret (Q2 _ v)) (dO (hy.trans (Tc (by omega))) (by simp))) (by rfl) (by rfl)

theorem zi(B:Lo)(rf:Qo)(Qa:List Int):let a:=Ld rf.Qb;let c:=Lz a {lo:=0,hi:=0};let b:=XT {len:=16000,tr:=Tri.set 14 Tri.lf 9 (YI (↑a:Int))} 9;CE.landA 2 (Qq YP (Q6 YP) J0 B 9 2 (YQ rf Qa) (WM rf Qa) 2
 [(3,Qh.Xs (Hint.mk a (lE rf)))] 0 [] []) [1,5,11,12,13] [] [(2,KS.rows [] [] [] (iq rf))] []=some ⟨102,26,Kg,[],.run,none,Kf rf Qa (0) c,([]:List Nat).zip (Ke rf Qa (0) c),VJ rf Qa (0) c,
 [QX 2 [] [] [] (lE rf) (iq rf),Tg YP 36 b b=some (38,Qe (KE [YI 0,YI 0]) (Lz a ()),Ld rf.Qb,TypeInfo.size Try.t38)]⟩:=by intro a c b;kernel_rfl
theorem ze(B:Lo)(rf:Qo)(Qa:List Int):let a:=OO.ret (zd rf);Xq (Qq YP (Q6 YP) J0 B 6 1 (Qx YP 82 8 (([.agg (QQ rf Qa).toArray]).map (Q7 0 4))) Zb 1
 [(6,Qh.call (Ll 2) a ([]++(2,X8)::X0 3 []) 3 [])] 0 [] []) []=some (QH (Ld (T8 rf)) (Qe Qk (T8 rf)),
 [FJ YP B (YQ rf Qa) (WM rf Qa) 2 a (([]++((2,X8)::X0 (2+1) []))++WM rf Qa) 3 (Ll 2) []]):=by intro a;kernel_rfl
set_option maxHeartbeats 4000000 in
theorem CD(rf:Qo)(Qa:List Int)(hn:rf.Qb.length<=1000000)(hm:0<=rf.Qc/\rf.Qc<=2000)(hc:∀k:Int,0<=k->k<rf.Qb.length->0<=(rf.Qb.getD k.toNat La).count/\(rf.Qb.getD k.toNat La).count<=1000000){B:Lo}(hJ:∀w,B.has w->J0 w):EndsT YP B (Qx YP 82 8 (([.agg (QQ rf Qa).toArray]).map (Q7 0 4))) (Sf (rf.Qb.map (Ze rf.Qc))):=by
 have rj0:FJ YP B (YQ rf Qa) (WM rf Qa) 2 (OO.ret (Q2 2 (QH (Ld (List.map (Ze rf.Qc) rf.Qb)) (Qe Qk (List.map (Ze rf.Qc) rf.Qb))))) (([]++((2,X8)::X0 (2+1) []))++WM rf Qa) 3 (Ll 2) []:=by
  exact FinK.fjB ((oE rf Qa hn hm hc hJ _) (0) (Lz rf.Qb.length {lo:=0,hi:=0}) rfl (by omega) (by exact fW)
   (GoE.landA okF hJ Qf (QA (by kernel_rfl)) (Q4 (by kernel_rfl)) ((GoE.refl (P:=YP) (B:=B) (c0:=YQ rf Qa) (QA (by kernel_rfl))).widen (Wf:=((([]):List (Nat×KS)).map (·.1))) (by simp) (Q4 (by kernel_rfl))) (zi B rf Qa)
   ⟨(by exact(UM (by exact⟨(.simple rfl),⟨(.simple rfl),trivial⟩⟩) _)),⟨(gX (bytes:=16) (by kernel_rfl) (by omega) (by omega) (by omega)),trivial⟩⟩ (by kernel_rfl) (by kernel_rfl) (fun l hl=>by cases hl <;> decide))) (ex:=[]) (by kernel_rfl) (VG _)
 exact(GoE.endsT okF hJ Qf GoE.start (ze B rf Qa)
  ⟨rj0,trivial⟩).cast (by rfl)
theorem Bt(rf:Qo)(Qa:List Int)(hn:rf.Qb.length<=1000000)(hm:0<=rf.Qc/\rf.Qc<=2000)(hc:∀k:Int,0<=k->k<rf.Qb.length->0<=(rf.Qb.getD k.toNat La).count/\(rf.Qb.getD k.toNat La).count<=1000000):Qr YP J0 82 #[.agg (QQ rf Qa).toArray] (Sf (rf.Qb.map (Ze rf.Qc))):=
 Xi (ts:=[.agg (QQ rf Qa).toArray]) Za (c0:=Qx YP 82 8 (([.agg (QQ rf Qa).toArray]).map (Q7 0 4))) (by kernel_rfl) (by kernel_rfl) fun B hJ=>CD rf Qa hn hm hc hJ
end
end Go.Proofs.Ytncjjangllkokaa

namespace Go.Proofs.Ytncjjangllkokaa
open Go Go.CE Go.RowKit
noncomputable section
set_option maxRecDepth 100000
def Zn{β:Type}(n:Int)(f:Int->β):List β:=(UZ 0 n).map f
theorem Xd{β:Type}{n:Int}{f:Int->β}:(Zn n f).length=n.toNat:=by simp[Zn,UZ]
theorem PD{β:Type}{n:Int}{f:Int->β}{k:Nat}(h:k<n.toNat):(Zn n f)[k]? =some (f k):=by
 unfold Zn UZ;rw[LF,LF,List.getElem?_range (by omega)];simp
theorem Xf{β:Type}[Inhabited β]{n k:Int}{f:Int->β}(h0:0<=k)(h:k<n):(Zn n f).getD k.toNat La=f k:=by
 rw[Ly,PD (by omega),show((k.toNat:Nat):Int)=k by omega];rfl
theorem XQ{β:Type}{n:Int}{f g:Int->β}(h:∀k,0<=k->k<n->f k=g k):Zn n f=Zn n g:=by
 refine List.ext_getElem? fun k=> ?_
 by_cases hk:k<n.toNat
 ·rw[PD hk,PD hk,h k (by omega) (by omega)]
 ·rw[LG (by rw[Xd];omega),LG (by rw[Xd];omega)]
theorem Sz{β:Type}{n i:Int}{f:Int->β}{v:β}(h0:0<=i)(h:i<n):(Zn n f).set i.toNat v=Zn n (fun k=>if k=i then v else f k):=by
 refine List.ext_getElem? fun k=> ?_
 by_cases hk:k<n.toNat
 ·rw[List.getElem?_set,Xd,PD hk,PD hk];by_cases e:i.toNat=k
  ·rw[if_pos e,if_pos (by omega),if_pos (by omega)]
  ·rw[if_neg e,if_neg (by omega)]
 ·rw[LG (by rw[LJ,Xd];omega),LG (by rw[Xd];omega)]
theorem bY{α β:Type}[Inhabited α]{xs:List α}{f:α->β}:xs.map f=Zn xs.length (fun k=>f (xs.getD k.toNat La)):=by
 refine List.ext_getElem? fun k=> ?_
 by_cases hk:k<xs.length
 ·rw[PD (by omega),LF,L4 hk];simp[Ly,hk]
 ·rw[LG (by simp;omega),LG (by rw[Xd];omega)]
def Ez(x:Qg):Span:=⟨x.VP,x.VQ⟩
def UY(p k:Int)(x:Qg):Span:=if hasB p k then Ez x else Yx x
def XU(ps:List Qg)(p:Int):List Span:=Zn ps.length fun k=>UY p k (ps.getD k.toNat La)
def To(ps:List Qg)(p i:Int):List Span:=Zn ps.length fun k=>if k<i then UY p k (ps.getD k.toNat La)else Yx (ps.getD k.toNat La)
theorem Es{ps:List Qg}{p:Int}:ps.map Yx=To ps p 0:=by
 rw[bY];exact XQ fun k h0 _=>by rw[if_neg (by omega)]
theorem yy{ps:List Qg}{p i:Int}(h:ps.length<=i):To ps p i=XU ps p:=XQ fun k h0 h1=>by rw[if_pos (by omega)]
theorem BS{ps:List Qg}{p i:Int}(h0:0<=i)(h:hasB p i=false):To ps p i=To ps p (i+1):=XQ fun k g0 g1=>by
 by_cases e:k=i
 ·subst e;rw[if_neg (by omega),if_pos (by omega),UY,h];rfl
 ·by_cases e2:k<i
  ·rw[if_pos e2,if_pos (by omega)]
  ·rw[if_neg e2,if_neg (by omega)]
theorem kB{ps:List Qg}{p i:Int}(h0:0<=i)(h1:i<ps.length)(h:hasB p i=true):(To ps p i).set i.toNat (Ez (ps.getD i.toNat La))=To ps p (i+1):=by
 unfold To;rw[Sz h0 h1];refine XQ fun k g0 g1=> ?_
 by_cases e:k=i
 ·subst e;rw[if_pos rfl,if_pos (by omega),UY,h];rfl
 ·rw[if_neg e];by_cases e2:k<i
  ·rw[if_pos e2,if_pos (by omega)]
  ·rw[if_neg e2,if_neg (by omega)]
theorem Nn{n k:Int}(hn:0<=n):0<=((cK n k:Nat):Int)/\((cK n k:Nat):Int)<=n:=by
 have:=Ip (a:=n) (n:=k);omega
section
variable (x_:Qg)(rf:Qo)(Qa:List Int)(k i:Int)
def P4:Array Value:=#[YI x_.count,YI x_.room,YI x_.Yj,YI x_.Yk,YI x_.QN,YI x_.X9,YI x_.VW,YI x_.VX,YI x_.VP,YI x_.VQ,YI x_.goal,YI x_.Vt]
def bJ:Array Value:=let i:=rf.Qc;let g:=rf.Qd;let f:=Qa.getD 3 0;let e:=Qa.getD 2 0;let d:=Qa.getD 1 0;let c:=Qa.getD 0 0;let b:=rf.Qb;let h:=Ld b;let a:=QH h (Qe Qi b);#[.agg #[Q2 0 a,YI i,YI g,YI c,YI d,YI e,YI f],YI k,pA 1 0,.tuple #[],.slice none 0 0,pA 4 0,.tuple #[],pA 1 0,pA 1 0,Q2 0 a,.slice (some {block:=3,off:=0}) h 2,.agg #[Q2 0 a,YI i,YI g,YI c,YI d,YI e,YI f],YI k,Value.func (Fn.func 112) #[] #[Q2 5 (SK 0 #[QH h (Qe Qi b),YI i,YI g,YI c,YI d,YI e,YI f]),Q2 5 (SK 0 #[YI k])],.tuple #[],.tuple #[],.tuple #[],.tuple #[],.tuple #[],.tuple #[],.tuple #[],.tuple #[],.tuple #[],.tuple #[],.tuple #[],.tuple #[]]
def bI:Array Value:=#[QH rf.Qb.length (Qe Qi rf.Qb),YI rf.Qc,YI rf.Qd,YI (Qa.getD 0 0),YI (Qa.getD 1 0),YI (Qa.getD 2 0),YI (Qa.getD 3 0)]
def C1:Value:=(.agg #[YI (Qg.VW (rf.Qb.getD i.toNat La)),YI (Qg.VX (rf.Qb.getD i.toNat La))])
def VI(k:Int):Qt:=[(1,Obj.cells #[Q2 0 (QH rf.Qb.length (Qe Qi rf.Qb)),YI rf.Qc,YI rf.Qd,YI (Qa.getD 0 0),YI (Qa.getD 1 0),YI (Qa.getD 2 0),YI (Qa.getD 3 0)] 84),(0,Obj.coro none)]
def P6(Qa:List Int)(k:Int):CF:=⟨102,ofList 26 [Q2 0 (QH rf.Qb.length (Qe Qi rf.Qb)),Value.func (Fn.func 105) #[] #[]],[Item.code (QG YP 102)],[],.run,none⟩
def Yu(Qa:List Int)(k:Int)(i:Int)(ys:List Span):List Value:=[Value.func (Fn.func 105) #[] #[],.slice (some {block:=3,off:=0}) rf.Qb.length 2,Q2 0 (QH rf.Qb.length (Qe Qi rf.Qb)),YI (↑rf.Qb.length:Int),YI i]
def Yt(rf:Qo)(Qa:List Int)(k:Int)(i:Int)(ys:List Span):List Obj:=[]
def UR(rf:Qo)(Qa:List Int)(k:Int)(i:Int)(ys:List Span):List Obj:=[.cells (Qe Qk ys) 38 (0,0)]
def Yv:List Item:=([.code [1,1,0,1,0,0],.inLoop [1,1,0,1,0,0],.inBlock 0,.code [1,1,1]]).map (it (QG YP 102))
def SI(k:Int)(i:Int)(ys:List Span)(Qp:Nat->Value):Qt:=[(4,Obj.cells (P4 (rf.Qb.getD i.toNat La)) 54),(2,Obj.coro none),(3,Obj.cells (Qe Qk ys) 38),(1,Obj.cells #[Q2 0 (QH rf.Qb.length (Qe Qi rf.Qb)),YI rf.Qc,YI rf.Qd,YI (Qa.getD 0 0),YI (Qa.getD 1 0),YI (Qa.getD 2 0),YI (Qa.getD 3 0)] 84),(0,Obj.coro none)]
def bM(Qa:List Int)(k:Int)(i:Int)(ys:List Span)(Qp:Nat->Value):CF:=⟨105,ofList 5 [.agg (P4 (rf.Qb.getD i.toNat La))],[Item.code (QG YP 105)],[],.run,none⟩
theorem CA(B:Lo)(rf:Qo)(Qa:List Int)(k:Int)(i:Int)(ys:List Span)(Qp:Nat->Value):let a:=rf.Qb.getD i.toNat La;CE.finK 5 (Qq YP (Q6 YP) J0 B 6 5 (bM rf Qa k i ys Qp) (SI rf Qa k i ys Qp) 5
 [] 0 [] []) [] [] []=some (OO.ret (.agg #[YI a.VW,YI a.VX]),[],[],
 []):=by intro a;kernel_rfl
theorem C9(B:Lo)(rf:Qo)(Qa:List Int)(k:Int)(i:Int)(ys:List Span)(Qp:Nat->Value):let g:=UR rf Qa k i ys;let f:=C1 rf i;let d:=Lb i;let c:=rf.Qb;let b:=c.getD d La;let a:=LC ys d {lo:=b.VW,hi:=b.VX};let e:=Qe Qk a;CE.landA 2 (Qq YP (Q6 YP) J0 B 13 2 (XR (none) 102 26 (([1,5,11,12,13]:List Nat).zip (Yu rf Qa k i ys)) Qp Yv) (XC (VI rf Qa k) 2 (([]:List Nat).zip (Yt rf Qa k i ys)) g) (2+1+g.length)
 [(0,ZC),(2,Qh.tidx d (P4 b)),(11,Qh.call (Ll 5) (OO.ret f) ([]++(5,X8)::X0 6 []) 6 []),(12,Qh.Xs (Hint.idx d)),(13,Qh.Xs (Hint.st e)),(14,Z4 (i+1))] 0 [] []) [1,5,11,12,13] [] [(3,KS.cells [] e)] []=some ⟨102,26,Yv,[],.run,none,Yu rf Qa k (i+1) a,([]:List Nat).zip (Yt rf Qa k (i+1) a),UR rf Qa k (i+1) a,
 [Qv 2 [] e e,wq (i+1)=i+1,0+Lb i*2+TypeInfo.size Try.t38<=LA (Qe Qk ys)/\splice (Qe Qk ys) (0+Lb i*2) (Value.cells (XT {len:=16000,tr:=Tri.set 14 (Tri.set 14 Tri.lf 22 f) 23 (.pointer (some {block:=3,off:=0+Lb i*2}))} 22))=Qe Qk a,i=(↑d:Int)/\Lb i<Ld c,FJ YP B (bM rf Qa k i ys Qp) (SI rf Qa k i ys Qp) 5 (OO.ret f) (([]++((5,X8)::X0 (5+1) []))++SI rf Qa k i ys Qp) 6 (Ll 5) [],i=(↑d:Int)/\Lb i<Ld c/\Lj (Qe Qi c) (Lb i*TypeInfo.size Try.t54) (Lb i*TypeInfo.size Try.t54+TypeInfo.size Try.t54)=(P4 b),XA i (↑c.length:Int)=true]⟩:=by intro g f d c b a e;kernel_rfl
theorem C8(B:Lo)(rf:Qo)(Qa:List Int)(k:Int)(i:Int)(ys:List Span)(Qp:Nat->Value):let c:=UR rf Qa k i ys;let b:=Ld rf.Qb;let a:=Qe Qk ys;CE.finK 2 (Qq YP (Q6 YP) J0 B 9 2 (XR (none) 102 26 (([1,5,11,12,13]:List Nat).zip (Yu rf Qa k i ys)) Qp Yv) (XC (VI rf Qa k) 2 (([]:List Nat).zip (Yt rf Qa k i ys)) c) (2+1+c.length)
 [(0,Wi)] 0 [] []) [] [(3,KS.cells [] a)] []=some (OO.ret (.slice (some {block:=3,off:=0}) b 2),[],[Obj.cells a 38],
 [Qv 2 [] a a,XA i (↑b:Int)=false]):=by intro c b a;kernel_rfl
end
set_option maxHeartbeats 4000000 in
theorem qS(rf:Qo)(Qa:List Int)(k:Int)(hn:rf.Qb.length<=4)(hl:Qa.length<=4)(k0:0<=k)(k1:k<4)(hp:∀j:Nat,0<=Qa.getD j 0/\Qa.getD j 0<=1000000){B:Lo}(hJ:∀w,B.has w->J0 w):∀m:Nat,(∀(i:Int) (ys:List Span),(rf.Qb.length-i.toNat)=m->∀(h0:0<=i) (hy:ys=RY Yx ⟨0,0⟩ rf.Qb i),(∃Qp:Nat->Value,(∀t,Xe (Qp t))/\GoE YP B (P6 rf Qa k) (VI rf Qa k) 2 (XR (none) 102 26 (([1,5,11,12,13]:List Nat).zip (Yu rf Qa k i ys)) Qp Yv) (XC (VI rf Qa k) 2 (([]:List Nat).zip (Yt rf Qa k i ys)) (UR rf Qa k i ys)) (2+1+(UR rf Qa k i ys).length) ([]:List Nat))->FinK YP B (P6 rf Qa k) (VI rf Qa k) 2 (.ret (.slice (some ⟨3,0,none⟩) rf.Qb.length 2)) (([]:List Nat).zip ([])) ([.cells (Qe Qk (rf.Qb.map Yx)) 38 (0,0)]) ([]:List Nat)):=by
 intro m0;induction m0 using LB with
 |_ m0 ih0=>
  intro i ys UX h0 hy ⟨Qp,Zr,Xo⟩;have hyl:ys.length=rf.Qb.length:=by rw[hy];exact Tb
  by_cases q0:(i:Int)<((↑rf.Qb.length:Int))
  ·have rj1:FJ YP B (bM rf Qa k i ys Qp) (SI rf Qa k i ys Qp) 5 (OO.ret (.agg #[YI (Qg.VW (rf.Qb.getD i.toNat La)),YI (Qg.VX (rf.Qb.getD i.toNat La))])) (([]++((5,X8)::X0 (5+1) []))++SI rf Qa k i ys Qp) 6 (Ll 5) []:=by
    exact FinK.fjB (GoE.finK okF hJ Qf (QA (by kernel_rfl)) (Q4 (by kernel_rfl)) ((GoE.refl (P:=YP) (B:=B) (c0:=bM rf Qa k i ys Qp) (QA (by kernel_rfl))).widen (Wf:=((([]):List (Nat×KS)).map (·.1))) (by simp) (Q4 (by kernel_rfl))) (CA B rf Qa k i ys Qp)
     trivial) (ex:=[3]) (by kernel_rfl) ⟨trivial,⟨trivial,⟨(Ro (t:=38) (fl:=(0,0)) (fun x=>List.all_eq_true.1 (by rfl))),⟨trivial,⟨trivial,trivial⟩⟩⟩⟩⟩
   exact((ih0 _ (by omega)) (i+1) (LC ys i.toNat {lo:=Qg.VW (rf.Qb.getD i.toNat La),hi:=Qg.VX (rf.Qb.getD i.toNat La)}) rfl (by omega) (by(subst hy;exact Ta (f:=Yx) h0 q0))
    (GoE.landA okF hJ Qf (QA (by kernel_rfl)) (Q4 (by kernel_rfl)) Xo (C9 B rf Qa k i ys Qp)
    (by exact⟨(XI fun _=>by rfl),⟨(QP (by omega) (by omega)),⟨(by exact WC (z:=2) (k:=Lb i) (fun _=>rfl) (by first|omega|(rw[LJ];omega)|(rw[Lv];omega)) rfl rfl),⟨⟨by omega,by omega⟩,⟨rj1,⟨⟨by omega,by omega,(Qu (z:=12) (fun _=>rfl) (by omega))⟩,⟨(Xh q0),trivial⟩⟩⟩⟩⟩⟩⟩) (by kernel_rfl) (by kernel_rfl) (fun l hl=>by cases hl <;> decide))).cast (by rfl) (by rfl) (by rfl)
  ·exact(GoE.finK okF hJ Qf (QA (by kernel_rfl)) (Q4 (by kernel_rfl)) Xo (C8 B rf Qa k i ys Qp)
    ⟨(XI fun _=>by rfl),⟨(X7 (Int.not_lt.1 q0)),trivial⟩⟩).cast (by rfl) (by rfl) (by(rw[hy,Tc (by omega)];done))

section
variable (rf:Qo)(Qa:List Int)(k i:Int)
theorem CB(B:Lo)(rf:Qo)(Qa:List Int)(k:Int):let c:=KE [YI 0,YI 0];let a:=Ld rf.Qb;let e:=Lz a ();let d:=XT {len:=16000,tr:=Tri.set 14 Tri.lf 9 (YI (↑a:Int))} 9;let b:=Lz a {lo:=0,hi:=0};CE.landA 2 (Qq YP (Q6 YP) J0 B 9 2 (P6 rf Qa k) (VI rf Qa k) 2
 [(3,Qh.Xs (Hint.mk a (Qe c e)))] 0 [] []) [1,5,11,12,13] [] [(2,KS.rows [] [] [] (Qe Qk b))] []=some ⟨102,26,Yv,[],.run,none,Yu rf Qa k (0) b,([]:List Nat).zip (Yt rf Qa k (0) b),UR rf Qa k (0) b,
 [QX 2 [] [] [] (Qe c e) (Qe Qk b),Tg YP 36 d d=some (38,Qe c e,Ld rf.Qb,TypeInfo.size Try.t38)]⟩:=by intro c a e d b;kernel_rfl
def SH(k:Int):Qt:=[(4,Obj.cells #[.slice (some {block:=3,off:=0}) rf.Qb.length 2] 36),(2,Obj.coro none),(3,Obj.cells (Qe Qk (List.map Yx rf.Qb)) 38),(1,Obj.cells #[Q2 0 (QH rf.Qb.length (Qe Qi rf.Qb)),YI rf.Qc,YI rf.Qd,YI (Qa.getD 0 0),YI (Qa.getD 1 0),YI (Qa.getD 2 0),YI (Qa.getD 3 0)] 84),(0,Obj.coro none)]
def bL:CF:=⟨91,ofList 6 [.agg #[Q2 0 (QH rf.Qb.length (Qe Qi rf.Qb)),YI rf.Qc,YI rf.Qd,YI (Qa.getD 0 0),YI (Qa.getD 1 0),YI (Qa.getD 2 0),YI (Qa.getD 3 0)],YI k],[Item.code (QG YP 91)],[],.run,none⟩
theorem C7(B:Lo)(rf:Qo)(Qa:List Int)(k:Int):let i:=rf.Qc;let g:=rf.Qd;let e:=Qa.getD 3 0;let d:=Qa.getD 2 0;let c:=Qa.getD 1 0;let b:=Qa.getD 0 0;let a:=rf.Qb;let h:=Ld a;let f:=Qe Qi a;CE.finK 5 (Qq YP (Q6 YP) J0 B 6 5 (bL rf Qa k) (SH rf Qa k) 5
 [] 0 [] []) [] [] [{k:=5,rs:=[0],cs:=#[QH h f,YI i,YI g,YI b,YI c,YI d,YI e]},{k:=6,rs:=[],cs:=#[YI k]}]=some (OO.ret (Value.func (Fn.func 112) #[] #[Q2 5 (SK 0 #[QH h f,YI i,YI g,YI b,YI c,YI d,YI e]),Q2 5 (SK 0 #[YI k])]),[],[],
 [X4 (Fz.rs {k:=5,rs:=[0],cs:=(bI rf Qa)}) #[Q2 0 (QH h f),YI i,YI g,YI b,YI c,YI d,YI e] (Fz.cs {k:=5,rs:=[0],cs:=(bI rf Qa)}),X4 (Fz.rs {k:=6,rs:=[],cs:=#[YI k]}) #[YI k] (Fz.cs {k:=6,rs:=[],cs:=#[YI k]})]):=by intro i g e d c b a h f;kernel_rfl
def WZ:Qt:=[(7,Obj.loop {state:=LoopState.ready,pending:=none,fn:=84,tmps:=#[.agg #[Q2 0 (QH rf.Qb.length (Qe Qi rf.Qb)),YI rf.Qc,YI rf.Qd,YI (Qa.getD 0 0),YI (Qa.getD 1 0),YI (Qa.getD 2 0),YI (Qa.getD 3 0)],YI k,pA 1 0,.tuple #[],.slice none 0 0,pA 4 0,.tuple #[],pA 1 0,pA 1 0,Q2 0 (QH rf.Qb.length (Qe Qi rf.Qb)),.slice (some {block:=3,off:=0}) rf.Qb.length 2,.agg #[Q2 0 (QH rf.Qb.length (Qe Qi rf.Qb)),YI rf.Qc,YI rf.Qd,YI (Qa.getD 0 0),YI (Qa.getD 1 0),YI (Qa.getD 2 0),YI (Qa.getD 3 0)],YI k,Value.func (Fn.func 112) #[] #[Q2 5 (SK 0 #[QH rf.Qb.length (Qe Qi rf.Qb),YI rf.Qc,YI rf.Qd,YI (Qa.getD 0 0),YI (Qa.getD 1 0),YI (Qa.getD 2 0),YI (Qa.getD 3 0)]),Q2 5 (SK 0 #[YI k])],.tuple #[],.tuple #[],.tuple #[],.tuple #[],.tuple #[],.tuple #[],.tuple #[],.tuple #[],.tuple #[],.tuple #[],.tuple #[],.tuple #[]],params:=#[14],assign:=Tl (QG YP 84) [1,1,0,1,0,0],body:=Tl (QG YP 84) [1,1,0,1,0,1],defers:=6}),(6,Obj.deferred (some [])),(5,Obj.coro none),(4,Obj.cells #[.slice (some {block:=3,off:=0}) rf.Qb.length 2] 36),(2,Obj.coro none),(3,Obj.cells (Qe Qk (List.map Yx rf.Qb)) 38),(1,Obj.cells #[Q2 0 (QH rf.Qb.length (Qe Qi rf.Qb)),YI rf.Qc,YI rf.Qd,YI (Qa.getD 0 0),YI (Qa.getD 1 0),YI (Qa.getD 2 0),YI (Qa.getD 3 0)] 84),(0,Obj.coro none)]
def P5:CF:=⟨112,ofList 27 [Value.func (Fn.yield 7) #[] #[],Q2 5 (SK 0 #[QH rf.Qb.length (Qe Qi rf.Qb),YI rf.Qc,YI rf.Qd,YI (Qa.getD 0 0),YI (Qa.getD 1 0),YI (Qa.getD 2 0),YI (Qa.getD 3 0)]),Q2 5 (SK 0 #[YI k])],[Item.code (QG YP 112)],[],.run,none⟩
def V0(ys:List Span):List Value:=let a:=rf.Qb;[Value.func (Fn.yield 7) #[] #[],Q2 5 (SK 0 #[QH a.length (Qe Qi a),YI rf.Qc,YI rf.Qd,YI (Qa.getD 0 0),YI (Qa.getD 1 0),YI (Qa.getD 2 0),YI (Qa.getD 3 0)]),Q2 5 (SK 0 #[YI k]),YI (↑a.length:Int),YI i]
def Vz(i:Int)(ys:List Span):List Obj:=let j:=rf.Qc;let g:=rf.Qd;let f:=Qa.getD 3 0;let e:=Qa.getD 2 0;let d:=Qa.getD 1 0;let c:=Qa.getD 0 0;let b:=rf.Qb;let h:=Ld b;let a:=QH h (Qe Qi b);[Obj.loop {state:=LoopState.ready,pending:=none,fn:=84,tmps:=#[.agg #[Q2 0 a,YI j,YI g,YI c,YI d,YI e,YI f],YI k,pA 1 0,.tuple #[],.slice none 0 0,pA 4 0,.tuple #[],pA 1 0,pA 1 0,Q2 0 a,.slice (some {block:=3,off:=0}) h 2,.agg #[Q2 0 a,YI j,YI g,YI c,YI d,YI e,YI f],YI k,Value.func (Fn.func 112) #[] #[Q2 5 (SK 0 #[QH h (Qe Qi b),YI j,YI g,YI c,YI d,YI e,YI f]),Q2 5 (SK 0 #[YI k])],.tuple #[],.tuple #[],.tuple #[],.tuple #[],.tuple #[],.tuple #[],.tuple #[],.tuple #[],.tuple #[],.tuple #[],.tuple #[],.tuple #[]],params:=#[14],assign:=Tl (QG YP 84) [1,1,0,1,0,0],body:=Tl (QG YP 84) [1,1,0,1,0,1],defers:=6},.cells (Qe Qk ys) 38 (0,0)]
def WE(rf:Qo)(Qa:List Int)(k:Int)(i:Int)(ys:List Span):List Obj:=[]
def V1:List Item:=([.code [1,0,0],.inLoop [1,0,0],.inBlock 0]).map (it (QG YP 112))
def g9(B:Lo)(rf:Qo)(Qa:List Int)(k:Int)(i:Int)(ys:List Span)(Qp:Nat->Value):List Prop:=let b:=Tri.set 14 Tri.lf 16 (YI i);let a:=Ql [Qa.getD 0 0,Qa.getD 1 0,Qa.getD 2 0,Qa.getD 3 0] k.toNat;let d:=YI a;let c:=YI (↑(cK a i):Int);[oB YP BinOp.and 3 (XT {len:=16000,tr:=Tri.set 14 Tri.lf 17 c} 17) (YI 1) (YI (↑(sC (↑(cK a i):Int) 1):Int)),oB YP BinOp.shr 3 (XT {len:=16000,tr:=Tri.set 14 b 15 d} 15) (XT {len:=16000,tr:=Tri.set 14 b 15 d} 16) c,k=(↑k.toNat:Int)/\Lb k<4/\Lj (bI rf Qa) (3+Lb k*TypeInfo.size Try.t3) (3+Lb k*TypeInfo.size Try.t3+TypeInfo.size Try.t3)=#[YI a],XA i (↑rf.Qb.length:Int)=true]++([]:List Prop)
def pE(rf:Qo)(Qa:List Int)(k:Int)(i:Int)(ys:List Span)(Qp:Nat->Value):QI:=let a:=Ql [Qa.getD 0 0,Qa.getD 1 0,Qa.getD 2 0,Qa.getD 3 0] k.toNat;[(0,ZC),(5,Qh.tarr k.toNat #[YI a]),(8,Qh.bin (YI (↑(cK a i):Int))),(9,Qh.bin (YI (↑(sC (↑(cK a i):Int) 1):Int)))]
def SG(i:Int)(ys:List Span)(Qp:Nat->Value):Qt:=[(7,Obj.loop {state:=LoopState.ready,pending:=none,fn:=84,tmps:=#[.agg #[Q2 0 (QH rf.Qb.length (Qe Qi rf.Qb)),YI rf.Qc,YI rf.Qd,YI (Qa.getD 0 0),YI (Qa.getD 1 0),YI (Qa.getD 2 0),YI (Qa.getD 3 0)],YI k,pA 1 0,.tuple #[],.slice none 0 0,pA 4 0,.tuple #[],pA 1 0,pA 1 0,Q2 0 (QH rf.Qb.length (Qe Qi rf.Qb)),.slice (some {block:=3,off:=0}) rf.Qb.length 2,.agg #[Q2 0 (QH rf.Qb.length (Qe Qi rf.Qb)),YI rf.Qc,YI rf.Qd,YI (Qa.getD 0 0),YI (Qa.getD 1 0),YI (Qa.getD 2 0),YI (Qa.getD 3 0)],YI k,Value.func (Fn.func 112) #[] #[Q2 5 (SK 0 #[QH rf.Qb.length (Qe Qi rf.Qb),YI rf.Qc,YI rf.Qd,YI (Qa.getD 0 0),YI (Qa.getD 1 0),YI (Qa.getD 2 0),YI (Qa.getD 3 0)]),Q2 5 (SK 0 #[YI k])],.tuple #[],.tuple #[],.tuple #[],.tuple #[],.tuple #[],.tuple #[],.tuple #[],.tuple #[],.tuple #[],.tuple #[],.tuple #[],.tuple #[]],params:=#[14],assign:=Tl (QG YP 84) [1,1,0,1,0,0],body:=Tl (QG YP 84) [1,1,0,1,0,1],defers:=6}),(3,Obj.cells (Qe Qk ys) 38),(8,Obj.coro none),(7,Obj.loop {state:=LoopState.ready,pending:=none,fn:=84,tmps:=#[.agg #[Q2 0 (QH rf.Qb.length (Qe Qi rf.Qb)),YI rf.Qc,YI rf.Qd,YI (Qa.getD 0 0),YI (Qa.getD 1 0),YI (Qa.getD 2 0),YI (Qa.getD 3 0)],YI k,pA 1 0,.tuple #[],.slice none 0 0,pA 4 0,.tuple #[],pA 1 0,pA 1 0,Q2 0 (QH rf.Qb.length (Qe Qi rf.Qb)),.slice (some {block:=3,off:=0}) rf.Qb.length 2,.agg #[Q2 0 (QH rf.Qb.length (Qe Qi rf.Qb)),YI rf.Qc,YI rf.Qd,YI (Qa.getD 0 0),YI (Qa.getD 1 0),YI (Qa.getD 2 0),YI (Qa.getD 3 0)],YI k,Value.func (Fn.func 112) #[] #[Q2 5 (SK 0 #[QH rf.Qb.length (Qe Qi rf.Qb),YI rf.Qc,YI rf.Qd,YI (Qa.getD 0 0),YI (Qa.getD 1 0),YI (Qa.getD 2 0),YI (Qa.getD 3 0)]),Q2 5 (SK 0 #[YI k])],.tuple #[],.tuple #[],.tuple #[],.tuple #[],.tuple #[],.tuple #[],.tuple #[],.tuple #[],.tuple #[],.tuple #[],.tuple #[],.tuple #[]],params:=#[14],assign:=Tl (QG YP 84) [1,1,0,1,0,0],body:=Tl (QG YP 84) [1,1,0,1,0,1],defers:=6}),(6,Obj.deferred (some [])),(5,Obj.coro none),(4,Obj.cells #[.slice (some {block:=3,off:=0}) rf.Qb.length 2] 36),(2,Obj.coro none),(3,Obj.cells (Qe Qk (List.map Yx rf.Qb)) 38),(1,Obj.cells #[Q2 0 (QH rf.Qb.length (Qe Qi rf.Qb)),YI rf.Qc,YI rf.Qd,YI (Qa.getD 0 0),YI (Qa.getD 1 0),YI (Qa.getD 2 0),YI (Qa.getD 3 0)] 84),(0,Obj.coro none)]
def bK(ys:List Span)(Qp:Nat->Value):CF:=⟨84,ofList 26 [.agg #[Q2 0 (QH rf.Qb.length (Qe Qi rf.Qb)),YI rf.Qc,YI rf.Qd,YI (Qa.getD 0 0),YI (Qa.getD 1 0),YI (Qa.getD 2 0),YI (Qa.getD 3 0)],YI k,pA 1 0,.tuple #[],.slice none 0 0,pA 4 0,.tuple #[],pA 1 0,pA 1 0,Q2 0 (QH rf.Qb.length (Qe Qi rf.Qb)),.slice (some {block:=3,off:=0}) rf.Qb.length 2,.agg #[Q2 0 (QH rf.Qb.length (Qe Qi rf.Qb)),YI rf.Qc,YI rf.Qd,YI (Qa.getD 0 0),YI (Qa.getD 1 0),YI (Qa.getD 2 0),YI (Qa.getD 3 0)],YI k,Value.func (Fn.func 112) #[] #[Q2 5 (SK 0 #[QH rf.Qb.length (Qe Qi rf.Qb),YI rf.Qc,YI rf.Qd,YI (Qa.getD 0 0),YI (Qa.getD 1 0),YI (Qa.getD 2 0),YI (Qa.getD 3 0)]),Q2 5 (SK 0 #[YI k])],YI i,.tuple #[],.tuple #[],.tuple #[],.tuple #[],.tuple #[],.tuple #[],.tuple #[],.tuple #[],.tuple #[],.tuple #[],.tuple #[]],[Item.code (Tl (QG YP 84) [1,1,0,1,0,0]),Item.beginRound,Item.code (Tl (QG YP 84) [1,1,0,1,0,1])],[],.run,some 7⟩
theorem C5(B:Lo)(rf:Qo)(Qa:List Int)(k:Int)(i:Int)(ys:List Span)(Qp:Nat->Value):let p:=rf.Qc;let n:=rf.Qd;let l:=Qa.getD 3 0;let j:=Qa.getD 2 0;let h:=Qa.getD 1 0;let g:=Qa.getD 0 0;let e:=Lb i;let b:=rf.Qb;let o:=Ld b;let m:=Qe Qi b;let d:=QH o m;let c:=b.getD e La;let a:=LC ys e {lo:=c.VP,hi:=c.VQ};let f:=Qe Qk a;CE.finK 9 (Qq YP (Q6 YP) J0 B 6 9 (bK rf Qa k i ys Qp) (SG rf Qa k i ys Qp) 9
 [(7,Qh.tidx e (P4 c)),(10,Qh.Xs (Hint.idx e)),(11,Qh.Xs (Hint.st f))] 0 [] []) [(7,KS.auto),(3,KS.cells [] f)] [] []=some (OO.ret (.bool true),[(7,Obj.loop {state:=LoopState.ready,pending:=none,fn:=84,tmps:=#[.agg #[Q2 0 d,YI p,YI n,YI g,YI h,YI j,YI l],YI k,pA 1 0,.tuple #[],.slice none 0 0,pA 4 0,.tuple #[],pA 1 0,pA 1 0,Q2 0 d,.slice (some {block:=3,off:=0}) o 2,.agg #[Q2 0 d,YI p,YI n,YI g,YI h,YI j,YI l],YI k,Value.func (Fn.func 112) #[] #[Q2 5 (SK 0 #[QH o m,YI p,YI n,YI g,YI h,YI j,YI l]),Q2 5 (SK 0 #[YI k])],.tuple #[],.tuple #[],.tuple #[],.tuple #[],.tuple #[],.tuple #[],.tuple #[],.tuple #[],.tuple #[],.tuple #[],.tuple #[],.tuple #[]],params:=#[14],assign:=Tl (QG YP 84) [1,1,0,1,0,0],body:=Tl (QG YP 84) [1,1,0,1,0,1],defers:=6}),(3,Obj.cells f 38)],[],
 [Qv 9 [] f f,0+Lb i*2+TypeInfo.size Try.t38<=LA (Qe Qk ys)/\splice (Qe Qk ys) (0+Lb i*2) (Value.cells (XT {len:=16000,tr:=Tri.set 14 (Tri.set 14 Tri.lf 23 (.agg #[YI c.VP,YI c.VQ])) 24 (.pointer (some {block:=3,off:=0+Lb i*2}))} 23))=Qe Qk a,i=(↑e:Int)/\Lb i<Ld b,i=(↑e:Int)/\Lb i<Ld b/\Lj m (Lb i*TypeInfo.size Try.t54) (Lb i*TypeInfo.size Try.t54+TypeInfo.size Try.t54)=(P4 c)]):=by intro p n l j h g e b o m d c a f;kernel_rfl
theorem C4(B:Lo)(rf:Qo)(Qa:List Int)(k:Int)(i:Int)(ys:List Span)(Qp:Nat->Value):let f:=OO.ret (.bool true);let e:=WE rf Qa k i ys;let d:=rf.Qb.getD i.toNat La;let b:=QG YP 84;let a:=LC ys i.toNat {lo:=d.VP,hi:=d.VQ};let c:=Qe Qk a;CE.landA 8 (Qq YP (Q6 YP) J0 B 16 8 (XR (none) 112 27 (([0,1,2,8,9]:List Nat).zip (V0 rf Qa k i ys)) Qp V1) (XC (WZ rf Qa k) 8 (([7,3]:List Nat).zip (Vz rf Qa k i ys)) e) (8+1+e.length)
 (pE rf Qa k i ys Qp++[(10,ZC),(14,Qh.call (Ll 9) f ([(7,Obj.loop {state:=LoopState.ready,pending:=none,fn:=84,tmps:=(bJ rf Qa k),params:=#[14],assign:=Tl b [1,1,0,1,0,0],body:=Tl b [1,1,0,1,0,1],defers:=6}),(3,Obj.cells c 38)]++(9,X8)::X0 10 []) 10 [7,3]),(17,Z4 (i+1))]) 0 [] []) [0,1,2,8,9] [(7,KS.auto),(3,KS.cells [] c)] [] []=some ⟨112,27,V1,[],.run,none,V0 rf Qa k (i+1) a,([7,3]:List Nat).zip (Vz rf Qa k (i+1) a),WE rf Qa k (i+1) a,
 [Qv 8 [] c c,wq (i+1)=i+1,FJ YP B (bK rf Qa k i ys Qp) (SG rf Qa k i ys Qp) 9 f (([(7,Obj.loop {state:=LoopState.ready,pending:=none,fn:=84,tmps:=(bJ rf Qa k),params:=#[14],assign:=Tl b [1,1,0,1,0,0],body:=Tl b [1,1,0,1,0,1],defers:=6}),(3,Obj.cells c 38)]++((9,X8)::X0 (9+1) []))++SG rf Qa k i ys Qp) 10 (Ll 9) [7,3],Rx (↑(sC (↑(cK (Ql [Qa.getD 0 0,Qa.getD 1 0,Qa.getD 2 0,Qa.getD 3 0] k.toNat) i):Int) 1):Int) 1=true]++g9 B rf Qa k i ys Qp⟩:=by intro f e d b a c;kernel_rfl
theorem C3(B:Lo)(rf:Qo)(Qa:List Int)(k:Int)(i:Int)(ys:List Span)(Qp:Nat->Value):let b:=Qe Qk ys;let a:=WE rf Qa k i ys;CE.landA 8 (Qq YP (Q6 YP) J0 B 16 8 (XR (none) 112 27 (([0,1,2,8,9]:List Nat).zip (V0 rf Qa k i ys)) Qp V1) (XC (WZ rf Qa k) 8 (([7,3]:List Nat).zip (Vz rf Qa k i ys)) a) (8+1+a.length)
 (pE rf Qa k i ys Qp++[(10,Wi),(17,Z4 (i+1))]) 0 [] []) [0,1,2,8,9] [(7,KS.auto),(3,KS.cells [] b)] [] []=some ⟨112,27,V1,[],.run,none,V0 rf Qa k (i+1) (ys),([7,3]:List Nat).zip (Vz rf Qa k (i+1) (ys)),WE rf Qa k (i+1) (ys),
 [Qv 8 [] b b,wq (i+1)=i+1,Rx (↑(sC (↑(cK (Ql [Qa.getD 0 0,Qa.getD 1 0,Qa.getD 2 0,Qa.getD 3 0] k.toNat) i):Int) 1):Int) 1=false]++g9 B rf Qa k i ys Qp⟩:=by intro b a;kernel_rfl
theorem C2(B:Lo)(rf:Qo)(Qa:List Int)(k:Int)(i:Int)(ys:List Span)(Qp:Nat->Value):let l:=rf.Qc;let j:=WE rf Qa k i ys;let h:=rf.Qd;let g:=Qa.getD 3 0;let f:=Qa.getD 2 0;let e:=Qa.getD 1 0;let d:=Qa.getD 0 0;let c:=Qe Qk ys;let b:=Qe Qi rf.Qb;let a:=Ld rf.Qb;CE.finK 8 (Qq YP (Q6 YP) J0 B 7 8 (XR (none) 112 27 (([0,1,2,8,9]:List Nat).zip (V0 rf Qa k i ys)) Qp V1) (XC (WZ rf Qa k) 8 (([7,3]:List Nat).zip (Vz rf Qa k i ys)) j) (8+1+j.length)
 [(0,Wi)] 0 [] []) [(7,KS.auto),(3,KS.cells [] c)] [] []=some (OO.ret (.tuple #[]),[(7,Obj.loop {state:=LoopState.ready,pending:=none,fn:=84,tmps:=#[.agg #[Q2 0 (QH a b),YI l,YI h,YI d,YI e,YI f,YI g],YI k,pA 1 0,.tuple #[],.slice none 0 0,pA 4 0,.tuple #[],pA 1 0,pA 1 0,Q2 0 (QH a b),.slice (some {block:=3,off:=0}) a 2,.agg #[Q2 0 (QH a b),YI l,YI h,YI d,YI e,YI f,YI g],YI k,Value.func (Fn.func 112) #[] #[Q2 5 (SK 0 #[QH a b,YI l,YI h,YI d,YI e,YI f,YI g]),Q2 5 (SK 0 #[YI k])],.tuple #[],.tuple #[],.tuple #[],.tuple #[],.tuple #[],.tuple #[],.tuple #[],.tuple #[],.tuple #[],.tuple #[],.tuple #[],.tuple #[]],params:=#[14],assign:=Tl (QG YP 84) [1,1,0,1,0,0],body:=Tl (QG YP 84) [1,1,0,1,0,1],defers:=6}),(3,Obj.cells c 38)],[],
 [Qv 8 [] c c,XA i (↑a:Int)=false]):=by intro l j h g f e d c b a;kernel_rfl
end
set_option maxHeartbeats 4000000 in
theorem qQ(rf:Qo)(Qa:List Int)(k:Int)(hn:rf.Qb.length<=4)(hl:Qa.length<=4)(k0:0<=k)(k1:k<4)(hp:∀j:Nat,0<=Qa.getD j 0/\Qa.getD j 0<=1000000){B:Lo}(hJ:∀w,B.has w->J0 w):∀m:Nat,(∀(i:Int) (ys:List Span),rf.Qb.length-i.toNat=m->∀(i0:0<=i) (hy:ys=To rf.Qb (Qa.getD k.toNat 0) i),(∃Qp:Nat->Value,(∀t,Xe (Qp t))/\GoE YP B (P5 rf Qa k) (WZ rf Qa k) 8 (XR (none) 112 27 (([0,1,2,8,9]:List Nat).zip (V0 rf Qa k i ys)) Qp V1) (XC (WZ rf Qa k) 8 (([7,3]:List Nat).zip (Vz rf Qa k i ys)) (WE rf Qa k i ys)) (8+1+(WE rf Qa k i ys).length) ([7,3]:List Nat))->FinK YP B (P5 rf Qa k) (WZ rf Qa k) 8 (.ret (.tuple #[])) (([7,3]:List Nat).zip ([Obj.loop {state:=LoopState.ready,pending:=none,fn:=84,tmps:=#[.agg #[Q2 0 (QH rf.Qb.length (Qe Qi rf.Qb)),YI rf.Qc,YI rf.Qd,YI (Qa.getD 0 0),YI (Qa.getD 1 0),YI (Qa.getD 2 0),YI (Qa.getD 3 0)],YI k,pA 1 0,.tuple #[],.slice none 0 0,pA 4 0,.tuple #[],pA 1 0,pA 1 0,Q2 0 (QH rf.Qb.length (Qe Qi rf.Qb)),.slice (some {block:=3,off:=0}) rf.Qb.length 2,.agg #[Q2 0 (QH rf.Qb.length (Qe Qi rf.Qb)),YI rf.Qc,YI rf.Qd,YI (Qa.getD 0 0),YI (Qa.getD 1 0),YI (Qa.getD 2 0),YI (Qa.getD 3 0)],YI k,Value.func (Fn.func 112) #[] #[Q2 5 (SK 0 #[QH rf.Qb.length (Qe Qi rf.Qb),YI rf.Qc,YI rf.Qd,YI (Qa.getD 0 0),YI (Qa.getD 1 0),YI (Qa.getD 2 0),YI (Qa.getD 3 0)]),Q2 5 (SK 0 #[YI k])],.tuple #[],.tuple #[],.tuple #[],.tuple #[],.tuple #[],.tuple #[],.tuple #[],.tuple #[],.tuple #[],.tuple #[],.tuple #[],.tuple #[]],params:=#[14],assign:=Tl (QG YP 84) [1,1,0,1,0,0],body:=Tl (QG YP 84) [1,1,0,1,0,1],defers:=6},.cells (Qe Qk (XU rf.Qb (Qa.getD k.toNat 0))) 38 (0,0)])) ([]) ([7,3]:List Nat)):=by
 intro m0;induction m0 using LB with
 |_ m0 ih0=>
  intro i ys UX i0 hy ⟨Qp,Zr,Xo⟩;have hyl:ys.length=rf.Qb.length:=by rw[hy];simp[To,Xd]
  have hpk:=hp k.toNat;have hse:=Ot (k:=k.toNat) hl;have RU:=Nn (n:=Ql [Qa.getD 0 0,Qa.getD 1 0,Qa.getD 2 0,Qa.getD 3 0] k.toNat) (k:=i) (by omega);by_cases q0:(i:Int)<((↑rf.Qb.length:Int))
  ·have Uc:Q3 (g9 B rf Qa k i ys Qp):=by
    exact⟨(MC (by omega) (by omega) (by omega) (by omega)),⟨(MB (by omega) (by omega) (by omega)),⟨⟨by omega,by omega,HU (fs:=[Qa.getD 0 0,Qa.getD 1 0,Qa.getD 2 0,Qa.getD 3 0]) rfl (Ls (m:=4) (by omega) rfl)⟩,⟨(Xh q0),trivial⟩⟩⟩⟩
   by_cases q1:((↑(sC (↑(cK (Ql [Qa.getD 0 0,Qa.getD 1 0,Qa.getD 2 0,Qa.getD 3 0] k.toNat) i):Int) 1):Int):Int)=(1)
   ·have rj3:FJ YP B (bK rf Qa k i ys Qp) (SG rf Qa k i ys Qp) 9 (OO.ret (.bool true)) (([(7,Obj.loop {state:=LoopState.ready,pending:=none,fn:=84,tmps:=#[.agg #[Q2 0 (QH rf.Qb.length (Qe Qi rf.Qb)),YI rf.Qc,YI rf.Qd,YI (Qa.getD 0 0),YI (Qa.getD 1 0),YI (Qa.getD 2 0),YI (Qa.getD 3 0)],YI k,pA 1 0,.tuple #[],.slice none 0 0,pA 4 0,.tuple #[],pA 1 0,pA 1 0,Q2 0 (QH rf.Qb.length (Qe Qi rf.Qb)),.slice (some {block:=3,off:=0}) rf.Qb.length 2,.agg #[Q2 0 (QH rf.Qb.length (Qe Qi rf.Qb)),YI rf.Qc,YI rf.Qd,YI (Qa.getD 0 0),YI (Qa.getD 1 0),YI (Qa.getD 2 0),YI (Qa.getD 3 0)],YI k,Value.func (Fn.func 112) #[] #[Q2 5 (SK 0 #[QH rf.Qb.length (Qe Qi rf.Qb),YI rf.Qc,YI rf.Qd,YI (Qa.getD 0 0),YI (Qa.getD 1 0),YI (Qa.getD 2 0),YI (Qa.getD 3 0)]),Q2 5 (SK 0 #[YI k])],.tuple #[],.tuple #[],.tuple #[],.tuple #[],.tuple #[],.tuple #[],.tuple #[],.tuple #[],.tuple #[],.tuple #[],.tuple #[],.tuple #[]],params:=#[14],assign:=Tl (QG YP 84) [1,1,0,1,0,0],body:=Tl (QG YP 84) [1,1,0,1,0,1],defers:=6}),(3,Obj.cells (Qe Qk (LC ys i.toNat {lo:=Qg.VP (rf.Qb.getD i.toNat La),hi:=Qg.VQ (rf.Qb.getD i.toNat La)})) 38)]++((9,X8)::X0 (9+1) []))++SG rf Qa k i ys Qp) 10 (Ll 9) [7,3]:=by
     have hyes:=kB (ps:=rf.Qb) (p:=Qa.getD k.toNat 0) i0 q0 (by rw[<-qD,<-hse];exact decide_eq_true q1);exact FinK.fjB (GoE.finK okF hJ Qf (QA (by kernel_rfl)) (Q4 (by kernel_rfl)) ((GoE.refl (P:=YP) (B:=B) (c0:=bK rf Qa k i ys Qp) (QA (by kernel_rfl))).widen (Wf:=((([(7,KS.auto),(3,KS.cells [] (Qe Qk (LC ys i.toNat {lo:=Qg.VP (rf.Qb.getD i.toNat La),hi:=Qg.VQ (rf.Qb.getD i.toNat La)})))]):List (Nat×KS)).map (·.1))) (by simp) (Q4 (by kernel_rfl))) (C5 B rf Qa k i ys Qp)
      ⟨(XI fun _=>by rfl),⟨(by exact WC (z:=2) (k:=Lb i) (fun _=>rfl) (by first|omega|(rw[LJ];omega)|(rw[Lv];omega)) rfl rfl),⟨⟨by omega,by omega⟩,⟨⟨by omega,by omega,(Qu (z:=12) (fun _=>rfl) (by omega))⟩,trivial⟩⟩⟩⟩) (ex:=[3]) (by kernel_rfl) ⟨trivial,⟨(Ro (t:=38) (fl:=(0,0)) (fun x=>List.all_eq_true.1 (by rfl))),⟨trivial,⟨trivial,⟨trivial,⟨trivial,⟨trivial,⟨trivial,⟨(Ro (t:=38) (fl:=(0,0)) (fun x=>List.all_eq_true.1 (by rfl))),⟨trivial,⟨trivial,trivial⟩⟩⟩⟩⟩⟩⟩⟩⟩⟩⟩
    have hyes:=kB (ps:=rf.Qb) (p:=Qa.getD k.toNat 0) i0 q0 (by rw[<-qD,<-hse];exact decide_eq_true q1);exact((ih0 _ (by omega)) (i+1) (LC ys i.toNat {lo:=Qg.VP (rf.Qb.getD i.toNat La),hi:=Qg.VQ (rf.Qb.getD i.toNat La)}) rfl (by omega) (by(rw[hy];exact hyes))
     (GoE.landA okF hJ Qf (QA (by kernel_rfl)) (Q4 (by kernel_rfl)) Xo (C4 B rf Qa k i ys Qp)
     (by exact⟨(XI fun _=>by rfl),⟨(QP (by omega) (by omega)),⟨rj3,⟨(bl q1),Uc⟩⟩⟩⟩) (by kernel_rfl) (by kernel_rfl) (fun l hl=>by cases hl <;> decide))).cast (by rfl) (by rfl) (by rfl)
   ·have hno:=BS (ps:=rf.Qb) (p:=Qa.getD k.toNat 0) i0 (by rw[<-qD,<-hse];exact decide_eq_false q1);exact((ih0 _ (by omega)) (i+1) (ys) rfl (by omega) (by(rw[hy];exact hno))
     (GoE.landA okF hJ Qf (QA (by kernel_rfl)) (Q4 (by kernel_rfl)) Xo (C3 B rf Qa k i ys Qp)
     ⟨(XI fun _=>by rfl),⟨(QP (by omega) (by omega)),⟨(cu q1),Uc⟩⟩⟩ (by kernel_rfl) (by kernel_rfl) (fun l hl=>by cases hl <;> decide))).cast (by rfl) (by rfl) (by rfl)
  ·exact(GoE.finK okF hJ Qf (QA (by kernel_rfl)) (Q4 (by kernel_rfl)) Xo (C2 B rf Qa k i ys Qp)
    ⟨(XI fun _=>by rfl),⟨(X7 (Int.not_lt.1 q0)),trivial⟩⟩).cast (by rfl) (by(rw[hy,yy (by omega)];rfl)) (by rfl)

theorem C6(B:Lo)(rf:Qo)(Qa:List Int)(k:Int):let a:=List.map Yx rf.Qb;let b:=Qe Qk a;CE.landA 8 (Qq YP (Q6 YP) J0 B 4 8 (P5 rf Qa k) (WZ rf Qa k) 8
 [] 0 [] []) [0,1,2,8,9] [(7,KS.auto),(3,KS.cells [] b)] [] []=some ⟨112,27,V1,[],.run,none,V0 rf Qa k (0) a,([7,3]:List Nat).zip (Vz rf Qa k (0) a),WE rf Qa k (0) a,
 [Qv 8 [] b b]⟩:=by intro a b;kernel_rfl
theorem yQ(B:Lo)(rf:Qo)(Qa:List Int)(k:Int):let i:=OO.ret (.tuple #[]);let e:=QG YP 84;let d:=rf.Qb;let g:=Qe Qk (List.map Yx d);let c:=OO.ret (.slice (some {block:=3,off:=0}) d.length 2);let b:=OO.ret (Value.func (Fn.func 112) #[] #[Q2 5 (SK 0 (bI rf Qa)),Q2 5 (SK 0 #[YI k])]);let a:=XU d (Qa.getD k.toNat 0);let h:=Qe Qk a;let f:=Fz.cs {k:=3,rs:=[],cs:=Qe Qk a};Xq (Qq YP (Q6 YP) J0 B 16 1 (Qx YP 84 26 (([.agg (QQ rf Qa).toArray,YI k]).map (Q7 0 4))) Zb 1
 [(5,Qh.call (Ll 2) c ([]++(2,X8)::X0 3 [Obj.cells g 38]) 4 []),(10,Qh.call (Ll 5) b ([]++(5,X8)::X0 6 []) 6 []),(11,Qh.call (Ll 8) i ([(7,Obj.loop {state:=LoopState.ready,pending:=none,fn:=84,tmps:=(bJ rf Qa k),params:=#[14],assign:=Tl e [1,1,0,1,0,0],body:=Tl e [1,1,0,1,0,1],defers:=6}),(3,Obj.cells h 38)]++(8,X8)::X0 9 []) 9 [7,3])] 0 [] []) [{k:=3,rs:=[],cs:=Qe Qk a}]=some (QH d.length f,
 [X4 (Fz.rs {k:=3,rs:=[],cs:=Qe Qk a}) h f,FJ YP B (P5 rf Qa k) (WZ rf Qa k) 8 i (([(7,Obj.loop {state:=LoopState.ready,pending:=none,fn:=84,tmps:=(bJ rf Qa k),params:=#[14],assign:=Tl e [1,1,0,1,0,0],body:=Tl e [1,1,0,1,0,1],defers:=6}),(3,Obj.cells h 38)]++((8,X8)::X0 (8+1) []))++WZ rf Qa k) 9 (Ll 8) [7,3],FJ YP B (bL rf Qa k) (SH rf Qa k) 5 b (([]++((5,X8)::X0 (5+1) []))++SH rf Qa k) 6 (Ll 5) [],FJ YP B (P6 rf Qa k) (VI rf Qa k) 2 c (([]++((2,X8)::X0 (2+1) [Obj.cells g 38]))++VI rf Qa k) 4 (Ll 2) []]):=by intro i e d g c b a h f;kernel_rfl
set_option maxHeartbeats 4000000 in
theorem Gl(rf:Qo)(Qa:List Int)(k:Int)(hn:rf.Qb.length<=4)(hl:Qa.length<=4)(k0:0<=k)(k1:k<4)(hp:∀j:Nat,0<=Qa.getD j 0/\Qa.getD j 0<=1000000){B:Lo}(hJ:∀w,B.has w->J0 w):EndsT YP B (Qx YP 84 26 (([.agg (QQ rf Qa).toArray,YI k]).map (Q7 0 4))) (Sf (XU rf.Qb (Qa.getD k.toNat 0))):=by
 have rj0:FJ YP B (P6 rf Qa k) (VI rf Qa k) 2 (OO.ret (.slice (some {block:=3,off:=0}) rf.Qb.length 2)) (([]++((2,X8)::X0 (2+1) [Obj.cells (Qe Qk (List.map Yx rf.Qb)) 38]))++VI rf Qa k) 4 (Ll 2) []:=by
  exact FinK.fjB ((qS rf Qa k hn hl k0 k1 hp hJ _) (0) (Lz rf.Qb.length {lo:=0,hi:=0}) rfl (by omega) (by exact fW)
   (GoE.landA okF hJ Qf (QA (by kernel_rfl)) (Q4 (by kernel_rfl)) ((GoE.refl (P:=YP) (B:=B) (c0:=P6 rf Qa k) (QA (by kernel_rfl))).widen (Wf:=((([]):List (Nat×KS)).map (·.1))) (by simp) (Q4 (by kernel_rfl))) (CB B rf Qa k)
   ⟨(by exact(UM (by exact⟨(.simple rfl),⟨(.simple rfl),trivial⟩⟩) _)),⟨(gX (bytes:=16) (by kernel_rfl) (by omega) (by omega) (by omega)),trivial⟩⟩ (by kernel_rfl) (by kernel_rfl) (fun l hl=>by cases hl <;> decide))) (ex:=[]) (by kernel_rfl) (VG _)
 have rj1:FJ YP B (bL rf Qa k) (SH rf Qa k) 5 (OO.ret (Value.func (Fn.func 112) #[] #[Q2 5 (SK 0 #[QH rf.Qb.length (Qe Qi rf.Qb),YI rf.Qc,YI rf.Qd,YI (Qa.getD 0 0),YI (Qa.getD 1 0),YI (Qa.getD 2 0),YI (Qa.getD 3 0)]),Q2 5 (SK 0 #[YI k])])) (([]++((5,X8)::X0 (5+1) []))++SH rf Qa k) 6 (Ll 5) []:=by
  exact FinK.fjB (GoE.finK okF hJ Qf (QA (by kernel_rfl)) (Q4 (by kernel_rfl)) ((GoE.refl (P:=YP) (B:=B) (c0:=bL rf Qa k) (QA (by kernel_rfl))).widen (Wf:=((([]):List (Nat×KS)).map (·.1))) (by simp) (Q4 (by kernel_rfl))) (C7 B rf Qa k)
   ⟨(DX (by kernel_rfl)),⟨(cz (by kernel_rfl)),trivial⟩⟩) (ex:=[3]) (by kernel_rfl) ⟨trivial,⟨trivial,⟨(Ro (t:=38) (fl:=(0,0)) (fun x=>List.all_eq_true.1 (by rfl))),⟨trivial,⟨trivial,trivial⟩⟩⟩⟩⟩
 have rj2:FJ YP B (P5 rf Qa k) (WZ rf Qa k) 8 (OO.ret (.tuple #[])) (([(7,Obj.loop {state:=LoopState.ready,pending:=none,fn:=84,tmps:=#[.agg #[Q2 0 (QH rf.Qb.length (Qe Qi rf.Qb)),YI rf.Qc,YI rf.Qd,YI (Qa.getD 0 0),YI (Qa.getD 1 0),YI (Qa.getD 2 0),YI (Qa.getD 3 0)],YI k,pA 1 0,.tuple #[],.slice none 0 0,pA 4 0,.tuple #[],pA 1 0,pA 1 0,Q2 0 (QH rf.Qb.length (Qe Qi rf.Qb)),.slice (some {block:=3,off:=0}) rf.Qb.length 2,.agg #[Q2 0 (QH rf.Qb.length (Qe Qi rf.Qb)),YI rf.Qc,YI rf.Qd,YI (Qa.getD 0 0),YI (Qa.getD 1 0),YI (Qa.getD 2 0),YI (Qa.getD 3 0)],YI k,Value.func (Fn.func 112) #[] #[Q2 5 (SK 0 #[QH rf.Qb.length (Qe Qi rf.Qb),YI rf.Qc,YI rf.Qd,YI (Qa.getD 0 0),YI (Qa.getD 1 0),YI (Qa.getD 2 0),YI (Qa.getD 3 0)]),Q2 5 (SK 0 #[YI k])],.tuple #[],.tuple #[],.tuple #[],.tuple #[],.tuple #[],.tuple #[],.tuple #[],.tuple #[],.tuple #[],.tuple #[],.tuple #[],.tuple #[]],params:=#[14],assign:=Tl (QG YP 84) [1,1,0,1,0,0],body:=Tl (QG YP 84) [1,1,0,1,0,1],defers:=6}),(3,Obj.cells (Qe Qk (XU rf.Qb (Qa.getD k.toNat 0))) 38)]++((8,X8)::X0 (8+1) []))++WZ rf Qa k) 9 (Ll 8) [7,3]:=by
  exact FinK.fjB ((qQ rf Qa k hn hl k0 k1 hp hJ _) (0) (List.map Yx rf.Qb) rfl (by omega) (by exact Es)
   (GoE.landA okF hJ Qf (QA (by kernel_rfl)) (Q4 (by kernel_rfl)) ((GoE.refl (P:=YP) (B:=B) (c0:=P5 rf Qa k) (QA (by kernel_rfl))).widen (Wf:=((([(7,KS.auto),(3,KS.cells [] (Qe Qk (List.map Yx rf.Qb)))]):List (Nat×KS)).map (·.1))) (by simp) (Q4 (by kernel_rfl))) (C6 B rf Qa k)
   ⟨(XI fun _=>by rfl),trivial⟩ (by kernel_rfl) (by kernel_rfl) (fun l hl=>by cases hl <;> decide))) (ex:=[3]) (by kernel_rfl) ⟨trivial,⟨trivial,⟨trivial,⟨trivial,⟨trivial,⟨(Ro (t:=38) (fl:=(0,0)) (fun x=>List.all_eq_true.1 (by rfl))),⟨trivial,⟨trivial,trivial⟩⟩⟩⟩⟩⟩⟩⟩
 exact(GoE.endsT okF hJ Qf GoE.start (yQ B rf Qa k)
  ⟨(Xg (fun x=>List.all_eq_true.1 (by rfl))),⟨rj2,⟨rj1,⟨rj0,trivial⟩⟩⟩⟩).cast (by exact dO rfl (by rw[XU,Xd];omega))
theorem Gm(rf:Qo)(Qa:List Int)(k:Int)(hn:rf.Qb.length<=4)(hl:Qa.length<=4)(k0:0<=k)(k1:k<4)(hp:∀j:Nat,0<=Qa.getD j 0/\Qa.getD j 0<=1000000):Qr YP J0 84 #[.agg (QQ rf Qa).toArray,YI k] (Sf (XU rf.Qb (Qa.getD k.toNat 0))):=
 Xi (ts:=[.agg (QQ rf Qa).toArray,YI k]) Za (c0:=Qx YP 84 26 (([.agg (QQ rf Qa).toArray,YI k]).map (Q7 0 4))) (by kernel_rfl) (by kernel_rfl) fun B hJ=>Gl rf Qa k hn hl k0 k1 hp hJ
end
end Go.Proofs.Ytncjjangllkokaa

namespace Go.Proofs.Ytncjjangllkokaa
open Go Go.CE Go.RowKit
def Xt(a b:Int)(g:Int->Int):Int:=sW ((UZ a b).map g)
theorem W8{a b:Int}{g:Int->Int}(h:b<=a):Xt a b g=0:=by
 unfold Xt;rw[Bc h];rfl
theorem sU:∀(l m:List Int),sW (l++m)=sW l+sW m
 |[],m=>by simp[sW]
 |x::l,m=>by simp only[List.cons_append,sW,sU l m];omega
theorem QO{i:Int}{g:Int->Int}(h:0<=i):Xt 0 (i+1) g=Xt 0 i g+g i:=by
 have e:UZ 0 (i+1)=UZ 0 i++[i]:=by
  unfold UZ;rw[show(i+1-0).toNat=(i-0).toNat+1 by omega,List.range_succ,LZ];congr 1;simp;omega
 unfold Xt;rw[e,LZ,sU];simp[sW]
theorem ZS{g:Int->Int}{K:Int}:∀(k:Nat),(∀m:Int,0<=m->m<k->0<=g m/\g m<=K)->0<=Xt 0 k g/\Xt 0 k g<=K*k
 |0,_=>by rw[W8 (by omega)];omega
 |k+1,h=>by
  have ih:=ZS k fun m h0 h1=>h m h0 (by omega)
  have h2:=h k (by omega) (by omega);rw[show((k+1:Nat):Int)=(k:Int)+1 by omega,QO (by omega),Int.mul_add,Int.mul_one];omega
structure F4 where
 a:Int
 b:Int
 c:Int
 d:Int
deriving Inhabited
def F4.at(f:F4)(k:Int):Int:=Ql [f.a,f.b,f.c,f.d] k.toNat
def F4.sum(f:F4):Int:=f.a+f.b+f.c+f.d
def Ik(g:Int->Int):F4:=⟨g 0,g 1,g 2,g 3⟩
theorem dz{i:Int}(h0:0<=i)(h:i<4):i=0\/i=1\/i=2\/i=3:=by omega
theorem bu{g:Int->Int}{k:Int}(h0:0<=k)(h:k<4):(Ik g).at k=g k:=by
 rcases dz h0 h with rfl|rfl|rfl|rfl <;> rfl
def Sr(f:F4):Prop:=(0<=f.a/\0<=f.b/\0<=f.c/\0<=f.d)/\f.sum<=100000000000
theorem W4{f:F4}(hf:Sr f){i:Int}(h0:0<=i)(h:i<4):0<=f.at i/\f.at i<=f.sum/\f.sum<=100000000000:=by
 obtain⟨⟨h1,h2,h3,h4⟩,h5⟩:=hf;have e:f.sum=f.a+f.b+f.c+f.d:=rfl;have h5':=h5;rw[e]at h5' ⊢;rcases dz h0 h with rfl|rfl|rfl|rfl
 ·have:f.at 0=f.a:=rfl;omega
 ·have:f.at 1=f.b:=rfl;omega
 ·have:f.at 2=f.c:=rfl;omega
 ·have:f.at 3=f.d:=rfl;omega
abbrev Sk(ps:List Qg)(k:Int):Qg:=ps.getD k.toNat La
abbrev nth(xs:List Int)(k:Int):Int:=xs.getD k.toNat La
def Ri(ps:List Qg):Prop:=ps.length<=4/\∀k:Int,0<=k->k<ps.length->(0<=(Sk ps k).room/\(Sk ps k).room<=1000000)/\(0<=(Sk ps k).QN/\(Sk ps k).QN<=1000)/\Pc ps.length (Sk ps k).X9=true/\(Sk ps k).X9≠k
def K9(n:Nat)(xs:List Int)(m:Int):Prop:=xs.length=n/\∀k:Int,0<=k->k<n->0<=nth xs k/\nth xs k<=m
def ZR(gs:List Int)(ps:List Qg)(f:F4)(k:Int):Int:=Ww (Sk ps k).room (f.at k) (nth gs k)
def XB(gs:List Int)(ps:List Qg)(f:F4)(i j:Int):Int:=if j<i then f.at j+ZR gs ps f j else f.at j
def Vn(gs:List Int)(ps:List Qg)(f:F4):F4:=Ik (XB gs ps f ps.length)
def Vq(ps:List Qg)(b:F4)(k:Int):Int:=(b.at k*(Sk ps k).QN).tdiv 1000
def Wh(ps:List Qg)(b:F4)(i j:Int):Int:=b.at j-(if j<i then Vq ps b j else 0)+Xt 0 i (fun m=>if(Sk ps m).X9=j then Vq ps b m else 0)
def dv(ps:List Qg)(b:F4):F4:=Ik (Wh ps b ps.length)
def Zw(ps:List Qg)(b:F4)(j:Int):Int:=if(Sk ps j).X9= -1 then Vq ps b j else 0
def Zo(ts:List Int)(b:F4)(k:Int):Int:=if nth ts k<b.at k then nth ts k else b.at k
def Pg(ts:List Int)(b:F4)(i j:Int):Int:=if j<i then b.at j-Zo ts b j else b.at j
def Ij(ts:List Int)(ps:List Qg)(b:F4):F4:=Ik (Pg ts b ps.length)
def QW(gs ts:List Int)(ps:List Qg)(f:F4):F4:=Ij ts ps (dv ps (Vn gs ps f))
theorem dM{g:Int->Int}{i:Int}(h0:0<=i)(h:i<4):Ql [g 0,g 1,g 2,g 3] i.toNat=g i:=by
 rcases dz h0 h with rfl|rfl|rfl|rfl <;> rfl
theorem A0{gs:List Int}{ps:List Qg}{f:F4}{i:Int}:XB gs ps f i i=f.at i:=by
 unfold XB;rw[if_neg (by omega)]
theorem Hr{gs:List Int}{ps:List Qg}{f:F4}{i:Int}{j:Nat}:(if i.toNat=j then f.at i+ZR gs ps f i else XB gs ps f i j)=XB gs ps f (i+1) j\/i<0:=by
 by_cases h0:0<=i
 ·refine .inl ?_;unfold XB;by_cases h:i.toNat=j
  ·have e1:i=(j:Int):=by omega
   rw[if_pos h,if_pos (by omega),e1]
  ·rw[if_neg h];by_cases h2:(j:Int)<i
   ·rw[if_pos h2,if_pos (by omega)]
   ·rw[if_neg h2,if_neg (by omega)]
 ·exact .inr (by omega)
theorem jP{gs:List Int}{ps:List Qg}{f:F4}{i:Int}{j:Nat}(h0:0<=i):(if i.toNat=j then f.at i+ZR gs ps f i else XB gs ps f i j)=XB gs ps f (i+1) j:=Hr.resolve_right (by omega)
theorem HP{room s t:Int}{w:Int}(ht:t=w.tdiv 1000)(h:0<=t):(if(if room-s > 0 then room-s else 0)<t then(if room-s > 0 then room-s else 0)else t)=if room<=s then 0 else if t<room-s then t else room-s:=by
 by_cases h1:room<=s
 ·rw[if_pos h1,if_neg (show ¬room-s > 0 by omega)];by_cases h2:0<t
  ·rw[if_pos h2]
  ·rw[if_neg h2];omega
 ·rw[if_neg h1,if_pos (show room-s > 0 by omega)];by_cases h2:room-s<t
  ·rw[if_pos h2,if_neg (by omega)]
  ·by_cases h3:t<room-s
   ·rw[if_neg h2,if_pos h3]
   ·rw[if_neg h2,if_neg h3];omega
theorem Sc{gs:List Int}{ps:List Qg}{f:F4}{i:Int}(hp:Ri ps)(hg:K9 ps.length gs 2000)(hf:Sr f)(h0:0<=i)(h:i<ps.length):0<=ZR gs ps f i/\ZR gs ps f i<=1000000:=by
 have h1:=hp.2 i h0 h;have h2:=hg.2 i h0 h;have ha:=W4 hf h0 (by have:=hp.1;omega);have hm:=Yy (a:=f.at i) (r:=nth gs i) (by omega) (by omega);unfold ZR Ww;split
 ·omega
 ·split <;> omega
theorem JW{ps:List Qg}{b:F4}{i j:Int}(h:0<=i):Wh ps b (i+1) j=Wh ps b i j-(if j=i then Vq ps b i else 0)+(if(Sk ps i).X9=j then Vq ps b i else 0):=by
 unfold Wh;rw[QO h];by_cases e:j=i
 ·subst e;rw[if_pos (show j<j+1 by omega),if_neg (show ¬j<j by omega),if_pos rfl];omega
 ·rw[if_neg e];by_cases e2:j<i
  ·rw[if_pos e2,if_pos (by omega)];omega
  ·rw[if_neg e2,if_neg (by omega)];omega
theorem cw{ps:List Qg}{b:F4}{j:Int}(h:0<=j):Wh ps b 0 j=b.at j:=by
 unfold Wh;rw[if_neg (by omega),W8 (by omega)];omega
theorem yx{ts:List Int}{b:F4}{i:Int}:Pg ts b i i=b.at i:=by
 unfold Pg;rw[if_neg (by omega)]
theorem j7{ts:List Int}{b:F4}{i:Int}{j:Nat}(h0:0<=i):(if i.toNat=j then b.at i-Zo ts b i else Pg ts b i j)=Pg ts b (i+1) j:=by
 unfold Pg;by_cases h:i.toNat=j
 ·have e1:i=(j:Int):=by omega
  rw[if_pos h,if_pos (by omega),e1]
 ·rw[if_neg h];by_cases h2:(j:Int)<i
  ·rw[if_pos h2,if_pos (by omega)]
  ·rw[if_neg h2,if_neg (by omega)]
theorem jU{ps:List Qg}{b:F4}{i:Int}{j:Nat}(h0:0<=i)(h:(Sk ps i).X9= -1):(if i.toNat=j then Wh ps b i i-Vq ps b i else Wh ps b i j)=Wh ps b (i+1) j:=by
 rw[JW h0,h,if_neg (show ¬(-1:Int)=(j:Int)by omega)];by_cases h1:i.toNat=j
 ·have e1:i=(j:Int):=by omega
  rw[if_pos h1,if_pos (by omega),e1];omega
 ·rw[if_neg h1,if_neg (by omega)];omega
theorem jV{ps:List Qg}{b:F4}{i v:Int}{j:Nat}(h0:0<=i)(hv:(Sk ps i).X9=v)(v0:0<=v)(hn:v≠i):(if v.toNat=j then Wh ps b i v+Vq ps b i else if i.toNat=j then Wh ps b i i-Vq ps b i else Wh ps b i j)=Wh ps b (i+1) j:=by
 rw[JW h0,hv];by_cases h1:v.toNat=j
 ·have e1:v=(j:Int):=by omega
  rw[if_pos h1,if_neg (show ¬(j:Int)=i by omega),if_pos e1,e1];omega
 ·rw[if_neg h1,if_neg (show ¬v=(j:Int)by omega)];by_cases h2:i.toNat=j
  ·have e1:i=(j:Int):=by omega
   rw[if_pos h2,if_pos (by omega),e1];omega
  ·rw[if_neg h2,if_neg (by omega)];omega
theorem Kw{ps:List Qg}{b:F4}{i:Int}(hp:Ri ps)(hf:Sr b)(h0:0<=i)(h:i<ps.length):0<=Vq ps b i/\Vq ps b i<=b.at i:=by
 have h1:=hp.2 i h0 h;have ha:=W4 hf h0 (by have:=hp.1;omega);have e0:0<=b.at i*(Sk ps i).QN:=Int.mul_nonneg ha.1 h1.2.1.1;have e1:b.at i*(Sk ps i).QN<=b.at i*1000:=Int.mul_le_mul_of_nonneg_left h1.2.1.2 ha.1;have e2:(b.at i*(Sk ps i).QN).tdiv 1000=(b.at i*(Sk ps i).QN) / 1000:=LP e0;unfold Vq;rw[e2];omega
theorem Y3{ps:List Qg}{b:F4}{i j:Int}(hp:Ri ps)(hf:Sr b)(h0:0<=i)(h:i<=ps.length)(j0:0<=j)(j1:j<4):0<=Wh ps b i j/\Wh ps b i j<=500000000000:=by
 have ha:=W4 hf j0 j1;have hs:=ZS (g:=fun m=>if(Sk ps m).X9=j then Vq ps b m else 0) (K:=100000000000) i.toNat fun m m0 m1=>by
  have h9:=hp.1;have:=Kw hp hf (i:=m) m0 (by omega);have hm:=W4 hf (i:=m) m0 (by omega);split <;> omega
 rw[show((i.toNat:Nat):Int)=i by omega]at hs;have h4:=hp.1;unfold Wh;split
 ·have:=Kw hp hf j0 (by omega);omega
 ·omega
theorem Jn{ts:List Int}{b:F4}{n:Nat}{m i:Int}(ht:K9 n ts m)(hf:Sr b)(h0:0<=i)(h:i<n)(h4:n<=4):0<=Zo ts b i/\Zo ts b i<=b.at i/\Zo ts b i<=m:=by
 have ha:=W4 hf h0 (by omega);have h1:=ht.2 i h0 h;unfold Zo;split <;> omega
theorem B9{gs:List Int}{ps:List Qg}{f:F4}{i j:Int}(hp:Ri ps)(hg:K9 ps.length gs 2000)(hf:Sr f)(h:i<=ps.length)(j0:0<=j)(j1:j<4):0<=XB gs ps f i j/\XB gs ps f i j<=f.at j+1000000:=by
 have ha:=W4 hf j0 j1;unfold XB;split
 ·have:=Sc hp hg hf j0 (show j<ps.length by omega);omega
 ·omega
theorem Hp{gs:List Int}{ps:List Qg}{f:F4}(hp:Ri ps)(hg:K9 ps.length gs 2000)(hf:Sr f):(0<=(Vn gs ps f).a/\0<=(Vn gs ps f).b/\0<=(Vn gs ps f).c/\0<=(Vn gs ps f).d)/\(Vn gs ps f).sum<=f.sum+4000000:=by
 have h0:=B9 hp hg hf (LS _) (j:=0) (by omega) (by omega);have h1:=B9 hp hg hf (LS _) (j:=1) (by omega) (by omega);have h2:=B9 hp hg hf (LS _) (j:=2) (by omega) (by omega);have h3:=B9 hp hg hf (LS _) (j:=3) (by omega) (by omega);refine⟨⟨h0.1,h1.1,h2.1,h3.1⟩, ?_⟩;show XB gs ps f ps.length 0+XB gs ps f ps.length 1+XB gs ps f ps.length 2+XB gs ps f ps.length 3<=f.a+f.b+f.c+f.d+4000000;have e0:f.at 0=f.a:=rfl;have e1:f.at 1=f.b:=rfl;have e2:f.at 2=f.c:=rfl;have e3:f.at 3=f.d:=rfl;omega
def Oj(ps:List Qg)(b:F4)(i:Int):Int:=Wh ps b i 0+Wh ps b i 1+Wh ps b i 2+Wh ps b i 3
theorem HB{ps:List Qg}{b:F4}{i:Int}(hp:Ri ps)(h0:0<=i)(h:i<ps.length):Oj ps b (i+1)=Oj ps b i-Zw ps b i:=by
 have h1:=hp.1;have h2:=(hp.2 i h0 h).2.2.1;unfold Oj Zw;rw[JW h0,JW h0,JW h0,JW h0];simp only[Pc,Bool.or_eq_true,decide_eq_true_iff,cb]at h2;generalize (Sk ps i).X9=v at *;generalize Vq ps b i=w at *;have hi:=dz h0 (show i<4 by omega);by_cases hv:v= -1
 ·subst hv;rcases hi with rfl|rfl|rfl|rfl <;> simp <;> omega
 ·have ZQ:=dz (show 0<=v by omega) (show v<4 by omega);rcases hi with rfl|rfl|rfl|rfl <;> rcases ZQ with rfl|rfl|rfl|rfl <;> simp <;> omega
theorem BD{ps:List Qg}{b:F4}(hp:Ri ps):∀k:Nat,k<=ps.length->Oj ps b k=b.sum-Xt 0 k (Zw ps b)
 |0,_=>by
  rw[show((0:Nat):Int)=0 from rfl,W8 (by omega)];unfold Oj;rw[cw (by omega),cw (by omega),cw (by omega),cw (by omega)];have e:b.sum=b.at 0+b.at 1+b.at 2+b.at 3:=rfl;omega
 |k+1,h=>by
  rw[show((k+1:Nat):Int)=(k:Int)+1 by omega,HB hp (by omega) (by omega),BD hp k (by omega),QO (by omega)];omega
end Go.Proofs.Ytncjjangllkokaa
