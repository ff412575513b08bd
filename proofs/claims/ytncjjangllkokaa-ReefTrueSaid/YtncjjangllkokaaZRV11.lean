import Derived.Test.YtncjjangllkokaaZRV10
set_option linter.all false
open List renaming getD_eq_getElem?_getD->Ol,replicate->Oi,append_assoc->OZ,length->Oc
open Nat renaming strongRecOn->Ox,min->OU
open Int renaming tdiv->Od,tdiv_eq_ediv_of_nonneg->OI
open Array renaming extract->Oy,size->OD
open Inhabited renaming default->NZ
namespace Go.Proofs.Ytncjjangllkokaa
open Go Go.CE Go.RowKit
noncomputable section
set_option maxRecDepth 100000
def V0(x lo hi:Int):Bool:=decide (lo<=x) && decide (x<=hi)
theorem R9{x lo hi:Int}:V0 x lo hi=true<->lo<=x/\x<=hi:=by simp[V0]
theorem L7{x lo hi:Int}(q:V0 x lo hi=false):¬(lo<=x/\x<=hi):=fun h=>by rw[R9.2 h]at q;cases q
structure Span where
 lo:Int
 hi:Int
deriving Inhabited
def Qo(s:Span):List Value:=[.int .i64 s.lo,.int .i64 s.hi]
abbrev YI(xs:List Span):Value:=QI xs.length (Qh Qo xs)
def WO(a b lo hi:Int):Bool:=decide (lo<=a) && (decide (a<=b) && decide (b<=hi))
theorem oX{a b lo hi:Int}:WO a b lo hi=true<->lo<=a/\a<=b/\b<=hi:=by simp[WO]
theorem Kl{α:Type}[Inhabited α]{l:List α}{i:Int}{p:α->Bool}(h0:0<=i)(h:i<l.length):(l.drop i.toNat).all p=(p (l.getD i.toNat NZ) && (l.drop (i+1).toNat).all p):=by
 obtain⟨k,rfl⟩:∃k:Nat,i=k:=⟨i.toNat,by omega⟩
 have hk:k<l.length:=by omega
 have e1:((k:Int)).toNat=k:=by omega
 have e2:((k:Int)+1).toNat=k+1:=by omega
 rw[e1,e2,List.drop_eq_getElem_cons hk,List.all_cons];simp[Ol,hk]
theorem bT{α:Type}{l:List α}{i:Int}{p:α->Bool}(h:l.length<=i):(l.drop i.toNat).all p=true:=by
 rw[List.drop_eq_nil_of_le (by omega)];rfl
theorem jY{p:Int->Bool}{a b:Int}(h:(Rj a b).all p=true){k:Int}(h1:a<=k)(h2:k<b):p k=true:=by
 refine List.all_eq_true.1 h k ?_;unfold Rj;exact List.mem_map.2 ⟨(k-a).toNat,List.mem_range.2 (by omega),by omega⟩
def RE{α β:Type}(f:α->β)(x0:β)(xs:List α)(i:Int):List β:=(xs.take i.toNat).map f++Oi (xs.length-i.toNat) x0
theorem fh{α β:Type}{f:α->β}{x0:β}{xs:List α}:Oi xs.length x0=RE f x0 xs 0:=by simp[RE]
theorem SL{α β:Type}{f:α->β}{x0:β}{xs:List α}{i:Int}:(RE f x0 xs i).length=xs.length:=by simp[RE];omega
theorem SK{α β:Type}[Inhabited α]{f:α->β}{x0:β}{xs:List α}{i:Int}(h0:0<=i)(h:i<xs.length):(RE f x0 xs i).set i.toNat (f (xs.getD i.toNat NZ))=RE f x0 xs (i+1):=by
 obtain⟨k,rfl⟩:∃k:Nat,i=k:=⟨i.toNat,by omega⟩
 have hk:k<xs.length:=by omega
 have e1:((k:Int)).toNat=k:=by omega
 have e2:((k:Int)+1).toNat=k+1:=by omega
 unfold RE;rw[e1,e2];have hl:((xs.take k).map f).length=k:=by simp;omega
 rw[List.set_append_right _ _ (by omega),hl,Nat.sub_self];have er:xs.length-k=(xs.length-(k+1))+1:=by omega
 rw[er,List.replicate_succ,List.set_cons_zero];have et:xs.take (k+1)=xs.take k++[xs[k]]:=by rw[List.take_succ_eq_append_getElem hk]
 rw[et,List.map_append,OZ];simp[Ol,hk]
theorem SM{α β:Type}{f:α->β}{x0:β}{xs:List α}{i:Int}(h:xs.length<=i):RE f x0 xs i=xs.map f:=by
 unfold RE;rw[List.take_of_length_le (by omega),show xs.length-i.toNat=0 by omega];simp
theorem dE{β:Type}{e:β->List Value}{ys zs:List β}{n:Nat}(h:ys=zs)(hn:n=zs.length):QI n (Qh e ys)=QI zs.length (Qh e zs):=by subst h hn;rfl
def tn:List Int->Int
 |[]=>0
 |x::l=>x+tn l
def yA(B:Lo)(x lo hi:Int):List Prop:=[(!XS x lo)=true]++([]:List Prop)
def Fe(x lo hi:Int):QD:=[(3,ZF)]
theorem LU(B:Lo)(x lo hi:Int):QW (Qu YP (Q9 YP) J0 B 6 1 (Qx YP 55 15 (([.int .i64 x,.int .i64 lo,.int .i64 hi]).map (Q8 0 4))) Zf 1
 (Fe x lo hi++[(7,ZF)]) 0 [] []) []=some (.bool true,
 [(!XS hi x)=true]++yA B x lo hi):=by kernel_rfl
theorem LS(B:Lo)(x lo hi:Int):QW (Qu YP (Q9 YP) J0 B 6 1 (Qx YP 55 15 (([.int .i64 x,.int .i64 lo,.int .i64 hi]).map (Q8 0 4))) Zf 1
 (Fe x lo hi++[(7,Wm)]) 0 [] []) []=some (.bool false,
 [(!XS hi x)=false]++yA B x lo hi):=by kernel_rfl
theorem LR(B:Lo)(x lo hi:Int):QW (Qu YP (Q9 YP) J0 B 6 1 (Qx YP 55 15 (([.int .i64 x,.int .i64 lo,.int .i64 hi]).map (Q8 0 4))) Zf 1
 [(3,Wm)] 0 [] []) []=some (.bool false,
 [(!XS x lo)=false]):=by kernel_rfl
set_option maxHeartbeats 4000000 in
theorem MT(x lo hi:Int)  {B:Lo}(hJ:∀w,B.has w->J0 w):EndsT YP B (Qx YP 55 15 (([.int .i64 x,.int .i64 lo,.int .i64 hi]).map (Q8 0 4))) (.bool (V0 x lo hi)):=by
 by_cases q0:(lo:Int)<=(x)
 ·have V5:Q6 (yA B x lo hi):=by
   exact⟨(WZ q0),trivial⟩
  by_cases q1:(x:Int)<=(hi)
  ·exact(GoE.endsT okF hJ Qg GoE.start (LU B x lo hi)
    ⟨(WZ q1),V5⟩).cast (by(simp[V0, *];done))
  ·exact(GoE.endsT okF hJ Qg GoE.start (LS B x lo hi)
    ⟨(UX (Int.not_le.1 q1)),V5⟩).cast (by(simp[V0, *];done))
 ·exact(GoE.endsT okF hJ Qg GoE.start (LR B x lo hi)
   ⟨(UX (Int.not_le.1 q0)),trivial⟩).cast (by(simp[V0, *];done))
theorem jD(x lo hi:Int)  :Q0 YP J0 55 #[.int .i64 x,.int .i64 lo,.int .i64 hi] (.bool (V0 x lo hi)):=
 Xo (ts:=[.int .i64 x,.int .i64 lo,.int .i64 hi]) Zh (c0:=Qx YP 55 15 (([.int .i64 x,.int .i64 lo,.int .i64 hi]).map (Q8 0 4))) (by kernel_rfl) (by kernel_rfl) fun B hJ=>MT x lo hi  hJ
def kR(B:Lo)(a b ZA:Int):List Prop:=[(!XS a 0)=true]++([]:List Prop)
def tI(a b ZA:Int):QD:=[(4,ZF)]
def kQ(B:Lo)(a b ZA:Int):List Prop:=[(!XS b a)=true]++kR B a b ZA
def tH(a b ZA:Int):QD:=tI a b ZA++[(10,ZF)]
theorem Fo(B:Lo)(a b ZA:Int):QW (Qu YP (Q9 YP) J0 B 6 1 (Qx YP 56 21 (([.agg #[.int .i64 a,.int .i64 b],.int .i64 ZA]).map (Q8 0 4))) Zf 1
 (tH a b ZA++[(16,ZF)]) 0 [] []) []=some (.bool true,
 [(!XS ZA b)=true]++kQ B a b ZA):=by kernel_rfl
theorem Fm(B:Lo)(a b ZA:Int):QW (Qu YP (Q9 YP) J0 B 6 1 (Qx YP 56 21 (([.agg #[.int .i64 a,.int .i64 b],.int .i64 ZA]).map (Q8 0 4))) Zf 1
 (tH a b ZA++[(16,Wm)]) 0 [] []) []=some (.bool false,
 [(!XS ZA b)=false]++kQ B a b ZA):=by kernel_rfl
theorem Fl(B:Lo)(a b ZA:Int):QW (Qu YP (Q9 YP) J0 B 6 1 (Qx YP 56 21 (([.agg #[.int .i64 a,.int .i64 b],.int .i64 ZA]).map (Q8 0 4))) Zf 1
 (tI a b ZA++[(10,Wm)]) 0 [] []) []=some (.bool false,
 [(!XS b a)=false]++kR B a b ZA):=by kernel_rfl
theorem Fk(B:Lo)(a b ZA:Int):QW (Qu YP (Q9 YP) J0 B 6 1 (Qx YP 56 21 (([.agg #[.int .i64 a,.int .i64 b],.int .i64 ZA]).map (Q8 0 4))) Zf 1
 [(4,Wm)] 0 [] []) []=some (.bool false,
 [(!XS a 0)=false]):=by kernel_rfl
set_option maxHeartbeats 4000000 in
theorem Il(a b ZA:Int)  {B:Lo}(hJ:∀w,B.has w->J0 w):EndsT YP B (Qx YP 56 21 (([.agg #[.int .i64 a,.int .i64 b],.int .i64 ZA]).map (Q8 0 4))) (.bool (WO a b 0 ZA)):=by
 by_cases q0:(0:Int)<=(a)
 ·have V5:Q6 (kR B a b ZA):=by
   exact⟨(WZ q0),trivial⟩
  by_cases q1:(a:Int)<=(b)
  ·have Kj:Q6 (kQ B a b ZA):=by
    exact⟨(WZ q1),V5⟩
   by_cases q2:(b:Int)<=(ZA)
   ·exact(GoE.endsT okF hJ Qg GoE.start (Fo B a b ZA)
     ⟨(WZ q2),Kj⟩).cast (by(simp[WO, *];done))
   ·exact(GoE.endsT okF hJ Qg GoE.start (Fm B a b ZA)
     ⟨(UX (Int.not_le.1 q2)),Kj⟩).cast (by(simp[WO, *];done))
  ·exact(GoE.endsT okF hJ Qg GoE.start (Fl B a b ZA)
    ⟨(UX (Int.not_le.1 q1)),V5⟩).cast (by(simp[WO, *];done))
 ·exact(GoE.endsT okF hJ Qg GoE.start (Fk B a b ZA)
   ⟨(UX (Int.not_le.1 q0)),trivial⟩).cast (by(simp[WO, *];done))
theorem pt(a b ZA:Int)  :Q0 YP J0 56 #[.agg #[.int .i64 a,.int .i64 b],.int .i64 ZA] (.bool (WO a b 0 ZA)):=
 Xo (ts:=[.agg #[.int .i64 a,.int .i64 b],.int .i64 ZA]) Zh (c0:=Qx YP 56 21 (([.agg #[.int .i64 a,.int .i64 b],.int .i64 ZA]).map (Q8 0 4))) (by kernel_rfl) (by kernel_rfl) fun B hJ=>Il a b ZA  hJ
def zO(B:Lo)(n lo hi:Int):List Prop:=[(!XS n lo)=true]++([]:List Prop)
def GI(n lo hi:Int):QD:=[(3,ZF)]
theorem Mn(B:Lo)(n lo hi:Int):QW (Qu YP (Q9 YP) J0 B 6 1 (Qx YP 72 15 (([.int .i64 n,.int .i64 lo,.int .i64 hi]).map (Q8 0 4))) Zf 1
 (GI n lo hi++[(7,ZF)]) 0 [] []) []=some (.bool true,
 [(!XS hi n)=true]++zO B n lo hi):=by kernel_rfl
theorem Mm(B:Lo)(n lo hi:Int):QW (Qu YP (Q9 YP) J0 B 6 1 (Qx YP 72 15 (([.int .i64 n,.int .i64 lo,.int .i64 hi]).map (Q8 0 4))) Zf 1
 (GI n lo hi++[(7,Wm)]) 0 [] []) []=some (.bool false,
 [(!XS hi n)=false]++zO B n lo hi):=by kernel_rfl
theorem Ml(B:Lo)(n lo hi:Int):QW (Qu YP (Q9 YP) J0 B 6 1 (Qx YP 72 15 (([.int .i64 n,.int .i64 lo,.int .i64 hi]).map (Q8 0 4))) Zf 1
 [(3,Wm)] 0 [] []) []=some (.bool false,
 [(!XS n lo)=false]):=by kernel_rfl
set_option maxHeartbeats 4000000 in
theorem Nh(n lo hi:Int)  {B:Lo}(hJ:∀w,B.has w->J0 w):EndsT YP B (Qx YP 72 15 (([.int .i64 n,.int .i64 lo,.int .i64 hi]).map (Q8 0 4))) (.bool (V0 n lo hi)):=by
 by_cases q0:(lo:Int)<=(n)
 ·have V5:Q6 (zO B n lo hi):=by
   exact⟨(WZ q0),trivial⟩
  by_cases q1:(n:Int)<=(hi)
  ·exact(GoE.endsT okF hJ Qg GoE.start (Mn B n lo hi)
    ⟨(WZ q1),V5⟩).cast (by(simp[V0, *];done))
  ·exact(GoE.endsT okF hJ Qg GoE.start (Mm B n lo hi)
    ⟨(UX (Int.not_le.1 q1)),V5⟩).cast (by(simp[V0, *];done))
 ·exact(GoE.endsT okF hJ Qg GoE.start (Ml B n lo hi)
   ⟨(UX (Int.not_le.1 q0)),trivial⟩).cast (by(simp[V0, *];done))
theorem sQ(n lo hi:Int)  :Q0 YP J0 72 #[.int .i64 n,.int .i64 lo,.int .i64 hi] (.bool (V0 n lo hi)):=
 Xo (ts:=[.int .i64 n,.int .i64 lo,.int .i64 hi]) Zh (c0:=Qx YP 72 15 (([.int .i64 n,.int .i64 lo,.int .i64 hi]).map (Q8 0 4))) (by kernel_rfl) (by kernel_rfl) fun B hJ=>Nh n lo hi  hJ
def P7(xs:List Int)(lo hi:Int)(i:Int):List Value:=[.int .i64 lo,.int .i64 hi,Q2 1 (QI xs.length (Qh QR xs)),.int .i64 (↑xs.length:Int),.int .i64 i]
def Uc(xs:List Int)(lo hi:Int)(i:Int):List Obj:=[]
def P8:List Item:=([.code [1,0,1,0,0],.inLoop [1,0,1,0,0],.inBlock 0,.code [1,1]]).map (it (QP YP 74))
def DG(B:Lo)(c0:CF)(xs:List Int)(lo hi:Int)(i:Int):Prop:=∃dJ:Nat->Value,(∀t,Xy (dJ t))/\GoE YP B c0 Zf 1 (QK 74 21 (([1,2,9,10,11]:List Nat).zip (P7 xs lo hi i)) dJ P8) (QH (Uc xs lo hi i)) (2+(Uc xs lo hi i).length) []
def qc(xs:List Int)(lo hi:Int)(i:Int):Array Value:=#[.int .i64 (xs.getD i.toNat NZ),.int .i64 lo,.int .i64 hi]
def gv(B:Lo)(xs:List Int)(lo hi:Int)(i:Int)(Qs:Nat->Value):List Prop:=[Yr i xs.length (Qh QR xs) Try.t3.size #[.int .i64 (xs.getD i.toNat NZ)],XS i (↑xs.length:Int)=true]++([]:List Prop)
def qd(xs:List Int)(lo hi:Int)(i:Int)(Qs:Nat->Value):QD:=[(0,ZF),(1,Qk.tidx i.toNat #[.int .i64 (xs.getD i.toNat NZ)])]
theorem DE(B:Lo)(xs:List Int)(lo hi:Int)(i:Int)(Qs:Nat->Value):landM (Qu YP (Q9 YP) J0 B 16 1 (QK 74 21 (([1,2,9,10,11]:List Nat).zip (P7 xs lo hi i)) Qs P8) (QH (Uc xs lo hi i)) (2+(Uc xs lo hi i).length)
 (qd xs lo hi i Qs++[(7,Qk.pure (.bool true) []),(9,WV (i+1))]) 0 [] []) [1,2,9,10,11] [] []=some ⟨74,21,P8,[],.run,none,P7 xs lo hi (i+1),Uc xs lo hi (i+1),
 [wq (i+1)=i+1,Q6 []/\Q0 YP J0 72 (qc xs lo hi i) (.bool true)]++gv B xs lo hi i Qs⟩:=by kernel_rfl
theorem DD(B:Lo)(xs:List Int)(lo hi:Int)(i:Int)(Qs:Nat->Value):QW (Qu YP (Q9 YP) J0 B 16 1 (QK 74 21 (([1,2,9,10,11]:List Nat).zip (P7 xs lo hi i)) Qs P8) (QH (Uc xs lo hi i)) (2+(Uc xs lo hi i).length)
 (qd xs lo hi i Qs++[(7,Qk.pure (.bool false) [])]) 0 [] []) []=some (.bool false,
 [Q6 []/\Q0 YP J0 72 (qc xs lo hi i) (.bool false)]++gv B xs lo hi i Qs):=by kernel_rfl
theorem DC(B:Lo)(xs:List Int)(lo hi:Int)(i:Int)(Qs:Nat->Value):QW (Qu YP (Q9 YP) J0 B 9 1 (QK 74 21 (([1,2,9,10,11]:List Nat).zip (P7 xs lo hi i)) Qs P8) (QH (Uc xs lo hi i)) (2+(Uc xs lo hi i).length)
 [(0,Wm)] 0 [] []) []=some (.bool true,
 [XS i (↑xs.length:Int)=false]):=by kernel_rfl
theorem DB(B:Lo)(xs:List Int)(lo hi:Int):landM (Qu YP (Q9 YP) J0 B 7 1 (Qx YP 74 21 (([XI xs,.int .i64 lo,.int .i64 hi]).map (Q8 0 4))) Zf 1
 [] 0 [] []) [1,2,9,10,11] [] []=some ⟨74,21,P8,[],.run,none,P7 xs lo hi (0),Uc xs lo hi (0),
 []⟩:=by kernel_rfl
set_option maxHeartbeats 4000000 in
theorem DF(xs:List Int)(lo hi:Int)  (X8:xs.length<=9223372036854775807){B:Lo}(hJ:∀w,B.has w->J0 w){c0:CF}:∀m:Nat,(∀(i:Int),xs.length-i.toNat=m->∀(h0:0<=i),DG B c0 xs lo hi i->EndsT YP B c0 (.bool ((xs.drop i.toNat).all (fun x=>V0 x lo hi)))):=by
 intro m0;induction m0 using Ox with
 |_ m0 ih0=>
  intro i JP h0 ⟨Qs,ZV,XF⟩;by_cases q0:(i:Int)<((↑xs.length:Int))
  ·have V5:Q6 (gv B xs lo hi i Qs):=by
    exact⟨⟨by omega,by omega,(QB (z:=1) (fun _=>rfl) (by omega))⟩,⟨(XC q0),trivial⟩⟩
   cases q1:V0 (xs.getD i.toNat NZ) lo hi with
   |true=>
    exact((ih0 _ (by omega)) (i+1) rfl (by omega)
     (XF.landM okF hJ Qg (DE B xs lo hi i Qs)
     ⟨(Xq (by omega) (by omega)),⟨⟨trivial,(by have t_:=sQ (xs.getD i.toNat NZ) (lo) (hi);rw[q1]at t_;exact t_)⟩,V5⟩⟩ (by kernel_rfl) (by kernel_rfl))).cast (by(rw[yb (i:=i)];(· simp_all);(· omega);(· omega)))
   |false=>
    exact(GoE.endsT okF hJ Qg XF (DD B xs lo hi i Qs)
     ⟨⟨trivial,(by have t_:=sQ (xs.getD i.toNat NZ) (lo) (hi);rw[q1]at t_;exact t_)⟩,V5⟩).cast (by(rw[yb (i:=i)];(· simp_all);(· omega);(· omega)))
  ·exact(GoE.endsT okF hJ Qg XF (DC B xs lo hi i Qs)
    ⟨(XO (Int.not_lt.1 q0)),trivial⟩).cast (by(rw[H3 (i:=i)];(· simp_all);(· omega)))
set_option maxHeartbeats 4000000 in
theorem GN(xs:List Int)(lo hi:Int)  (X8:xs.length<=9223372036854775807){B:Lo}(hJ:∀w,B.has w->J0 w):EndsT YP B (Qx YP 74 21 (([XI xs,.int .i64 lo,.int .i64 hi]).map (Q8 0 4))) (.bool (xs.all (fun x=>V0 x lo hi))):=by
 exact((DF xs lo hi X8 hJ _) (0) rfl (by omega)
  (GoE.start.landM okF hJ Qg (DB B xs lo hi)
  trivial (by kernel_rfl) (by kernel_rfl))).cast (by rfl)
theorem GO(xs:List Int)(lo hi:Int)  :Q0 YP J0 74 #[XI xs,.int .i64 lo,.int .i64 hi] (.bool (xs.all (fun x=>V0 x lo hi))):=
 Vj (ts:=[XI xs,.int .i64 lo,.int .i64 hi]) (xs.length<=9223372036854775807) (fun _ _ ht=>ht.ln (i:=0) rfl) Zh (c0:=Qx YP 74 21 (([XI xs,.int .i64 lo,.int .i64 hi]).map (Q8 0 4))) (by kernel_rfl) (by kernel_rfl) fun X8 B hJ=>GN xs lo hi  X8 hJ
def m5(n a b:Int):Array Value:=#[.int .i64 n,.int .i64 a,.int .i64 b]
theorem zR(B:Lo)(n a b:Int):QW (Qu YP (Q9 YP) J0 B 6 1 (Qx YP 101 11 (([.int .i64 n,.agg #[.int .i64 a,.int .i64 b]]).map (Q8 0 4))) Zf 1
 [(7,Qk.pure (.bool true) [])] 0 [] []) []=some (.bool true,
 [Q6 []/\Q0 YP J0 72 (m5 n a b) (.bool true)]):=by kernel_rfl
theorem zQ(B:Lo)(n a b:Int):QW (Qu YP (Q9 YP) J0 B 6 1 (Qx YP 101 11 (([.int .i64 n,.agg #[.int .i64 a,.int .i64 b]]).map (Q8 0 4))) Zf 1
 [(7,Qk.pure (.bool false) [])] 0 [] []) []=some (.bool false,
 [Q6 []/\Q0 YP J0 72 (m5 n a b) (.bool false)]):=by kernel_rfl
set_option maxHeartbeats 4000000 in
theorem Dn(n a b:Int)  {B:Lo}(hJ:∀w,B.has w->J0 w):EndsT YP B (Qx YP 101 11 (([.int .i64 n,.agg #[.int .i64 a,.int .i64 b]]).map (Q8 0 4))) (.bool (V0 n a b)):=by
 cases q0:V0 n a b with
 |true=>
  exact(GoE.endsT okF hJ Qg GoE.start (zR B n a b)
   ⟨⟨trivial,(by have t_:=sQ (n) (a) (b);rw[q0]at t_;exact t_)⟩,trivial⟩).cast (by rfl)
 |false=>
  exact(GoE.endsT okF hJ Qg GoE.start (zQ B n a b)
   ⟨⟨trivial,(by have t_:=sQ (n) (a) (b);rw[q0]at t_;exact t_)⟩,trivial⟩).cast (by rfl)
theorem Bx(n a b:Int)  :Q0 YP J0 101 #[.int .i64 n,.agg #[.int .i64 a,.int .i64 b]] (.bool (V0 n a b)):=
 Xo (ts:=[.int .i64 n,.agg #[.int .i64 a,.int .i64 b]]) Zh (c0:=Qx YP 101 11 (([.int .i64 n,.agg #[.int .i64 a,.int .i64 b]]).map (Q8 0 4))) (by kernel_rfl) (by kernel_rfl) fun B hJ=>Dn n a b  hJ
def Tw(B:Lo)(a b lo hi:Int):List Prop:=[(!XS a lo)=true]++([]:List Prop)
def eo(a b lo hi:Int):QD:=[(5,ZF)]
def Tv(B:Lo)(a b lo hi:Int):List Prop:=[(!XS b a)=true]++Tw B a b lo hi
def ek(a b lo hi:Int):QD:=eo a b lo hi++[(11,ZF)]
theorem rK(B:Lo)(a b lo hi:Int):QW (Qu YP (Q9 YP) J0 B 6 1 (Qx YP 114 24 (([.agg #[.int .i64 a,.int .i64 b],.int .i64 lo,.int .i64 hi]).map (Q8 0 4))) Zf 1
 (ek a b lo hi++[(17,ZF)]) 0 [] []) []=some (.bool true,
 [(!XS hi b)=true]++Tv B a b lo hi):=by kernel_rfl
theorem rJ(B:Lo)(a b lo hi:Int):QW (Qu YP (Q9 YP) J0 B 6 1 (Qx YP 114 24 (([.agg #[.int .i64 a,.int .i64 b],.int .i64 lo,.int .i64 hi]).map (Q8 0 4))) Zf 1
 (ek a b lo hi++[(17,Wm)]) 0 [] []) []=some (.bool false,
 [(!XS hi b)=false]++Tv B a b lo hi):=by kernel_rfl
theorem rI(B:Lo)(a b lo hi:Int):QW (Qu YP (Q9 YP) J0 B 6 1 (Qx YP 114 24 (([.agg #[.int .i64 a,.int .i64 b],.int .i64 lo,.int .i64 hi]).map (Q8 0 4))) Zf 1
 (eo a b lo hi++[(11,Wm)]) 0 [] []) []=some (.bool false,
 [(!XS b a)=false]++Tw B a b lo hi):=by kernel_rfl
theorem rH(B:Lo)(a b lo hi:Int):QW (Qu YP (Q9 YP) J0 B 6 1 (Qx YP 114 24 (([.agg #[.int .i64 a,.int .i64 b],.int .i64 lo,.int .i64 hi]).map (Q8 0 4))) Zf 1
 [(5,Wm)] 0 [] []) []=some (.bool false,
 [(!XS a lo)=false]):=by kernel_rfl
set_option maxHeartbeats 4000000 in
theorem wj(a b lo hi:Int)  {B:Lo}(hJ:∀w,B.has w->J0 w):EndsT YP B (Qx YP 114 24 (([.agg #[.int .i64 a,.int .i64 b],.int .i64 lo,.int .i64 hi]).map (Q8 0 4))) (.bool (WO a b lo hi)):=by
 by_cases q0:(lo:Int)<=(a)
 ·have V5:Q6 (Tw B a b lo hi):=by
   exact⟨(WZ q0),trivial⟩
  by_cases q1:(a:Int)<=(b)
  ·have Kj:Q6 (Tv B a b lo hi):=by
    exact⟨(WZ q1),V5⟩
   by_cases q2:(b:Int)<=(hi)
   ·exact(GoE.endsT okF hJ Qg GoE.start (rK B a b lo hi)
     ⟨(WZ q2),Kj⟩).cast (by(simp[WO, *];done))
   ·exact(GoE.endsT okF hJ Qg GoE.start (rJ B a b lo hi)
     ⟨(UX (Int.not_le.1 q2)),Kj⟩).cast (by(simp[WO, *];done))
  ·exact(GoE.endsT okF hJ Qg GoE.start (rI B a b lo hi)
    ⟨(UX (Int.not_le.1 q1)),V5⟩).cast (by(simp[WO, *];done))
 ·exact(GoE.endsT okF hJ Qg GoE.start (rH B a b lo hi)
   ⟨(UX (Int.not_le.1 q0)),trivial⟩).cast (by(simp[WO, *];done))
theorem pX(a b lo hi:Int)  :Q0 YP J0 114 #[.agg #[.int .i64 a,.int .i64 b],.int .i64 lo,.int .i64 hi] (.bool (WO a b lo hi)):=
 Xo (ts:=[.agg #[.int .i64 a,.int .i64 b],.int .i64 lo,.int .i64 hi]) Zh (c0:=Qx YP 114 24 (([.agg #[.int .i64 a,.int .i64 b],.int .i64 lo,.int .i64 hi]).map (Q8 0 4))) (by kernel_rfl) (by kernel_rfl) fun B hJ=>wj a b lo hi  hJ
def m4(a b ZA:Int):Array Value:=#[.agg #[.int .i64 a,.int .i64 b],.int .i64 0,.int .i64 ZA]
theorem zN(B:Lo)(a b ZA:Int):QW (Qu YP (Q9 YP) J0 B 6 1 (Qx YP 96 8 (([.agg #[.int .i64 a,.int .i64 b],.int .i64 ZA]).map (Q8 0 4))) Zf 1
 [(4,Qk.pure (.bool true) [])] 0 [] []) []=some (.bool true,
 [Q6 []/\Q0 YP J0 114 (m4 a b ZA) (.bool true)]):=by kernel_rfl
theorem zM(B:Lo)(a b ZA:Int):QW (Qu YP (Q9 YP) J0 B 6 1 (Qx YP 96 8 (([.agg #[.int .i64 a,.int .i64 b],.int .i64 ZA]).map (Q8 0 4))) Zf 1
 [(4,Qk.pure (.bool false) [])] 0 [] []) []=some (.bool false,
 [Q6 []/\Q0 YP J0 114 (m4 a b ZA) (.bool false)]):=by kernel_rfl
set_option maxHeartbeats 4000000 in
theorem Dm(a b ZA:Int)  {B:Lo}(hJ:∀w,B.has w->J0 w):EndsT YP B (Qx YP 96 8 (([.agg #[.int .i64 a,.int .i64 b],.int .i64 ZA]).map (Q8 0 4))) (.bool (WO a b 0 ZA)):=by
 cases q0:WO a b 0 ZA with
 |true=>
  exact(GoE.endsT okF hJ Qg GoE.start (zN B a b ZA)
   ⟨⟨trivial,(by have t_:=pX (a) (b) (0) (ZA);rw[q0]at t_;exact t_)⟩,trivial⟩).cast (by rfl)
 |false=>
  exact(GoE.endsT okF hJ Qg GoE.start (zM B a b ZA)
   ⟨⟨trivial,(by have t_:=pX (a) (b) (0) (ZA);rw[q0]at t_;exact t_)⟩,trivial⟩).cast (by rfl)
theorem bK(a b ZA:Int)  :Q0 YP J0 96 #[.agg #[.int .i64 a,.int .i64 b],.int .i64 ZA] (.bool (WO a b 0 ZA)):=
 Xo (ts:=[.agg #[.int .i64 a,.int .i64 b],.int .i64 ZA]) Zh (c0:=Qx YP 96 8 (([.agg #[.int .i64 a,.int .i64 b],.int .i64 ZA]).map (Q8 0 4))) (by kernel_rfl) (by kernel_rfl) fun B hJ=>Dm a b ZA  hJ
theorem GJ(B:Lo)(a b:Int):QW (Qu YP (Q9 YP) J0 B 6 1 (Qx YP 77 5 (([.agg #[.int .i64 a,.int .i64 b]]).map (Q8 0 4))) Zf 1
 [] 0 [] []) []=some (.int .i64 b,
 []):=by kernel_rfl
set_option maxHeartbeats 4000000 in
theorem IG(a b:Int)  {B:Lo}(hJ:∀w,B.has w->J0 w):EndsT YP B (Qx YP 77 5 (([.agg #[.int .i64 a,.int .i64 b]]).map (Q8 0 4))) (.int .i64 b):=by
 exact(GoE.endsT okF hJ Qg GoE.start (GJ B a b)
  trivial).cast (by rfl)
theorem Ni(a b:Int)  :Q0 YP J0 77 #[.agg #[.int .i64 a,.int .i64 b]] (.int .i64 b):=
 Xo (ts:=[.agg #[.int .i64 a,.int .i64 b]]) Zh (c0:=Qx YP 77 5 (([.agg #[.int .i64 a,.int .i64 b]]).map (Q8 0 4))) (by kernel_rfl) (by kernel_rfl) fun B hJ=>IG a b  hJ
theorem IF(B:Lo)(a b:Int):QW (Qu YP (Q9 YP) J0 B 6 1 (Qx YP 76 5 (([.agg #[.int .i64 a,.int .i64 b]]).map (Q8 0 4))) Zf 1
 [] 0 [] []) []=some (.int .i64 a,
 []):=by kernel_rfl
set_option maxHeartbeats 4000000 in
theorem Mk(a b:Int)  {B:Lo}(hJ:∀w,B.has w->J0 w):EndsT YP B (Qx YP 76 5 (([.agg #[.int .i64 a,.int .i64 b]]).map (Q8 0 4))) (.int .i64 a):=by
 exact(GoE.endsT okF hJ Qg GoE.start (IF B a b)
  trivial).cast (by rfl)
theorem NC(a b:Int)  :Q0 YP J0 76 #[.agg #[.int .i64 a,.int .i64 b]] (.int .i64 a):=
 Xo (ts:=[.agg #[.int .i64 a,.int .i64 b]]) Zh (c0:=Qx YP 76 5 (([.agg #[.int .i64 a,.int .i64 b]]).map (Q8 0 4))) (by kernel_rfl) (by kernel_rfl) fun B hJ=>Mk a b  hJ
theorem GG(B:Lo)(a r:Int):let b:=Od (a*r) 1000;QW (Qu YP (Q9 YP) J0 B 6 1 (Qx YP 115 9 (([.int .i64 a,.int .i64 r]).map (Q8 0 4))) Zf 1
 [(3,WV (a*r)),(4,WV b)] 0 [] []) []=some (.int .i64 b,
 [IntKind.wrap .i64 b=Od (a*r) 1000,wq (a*r)=a*r]):=by intro b;kernel_rfl
set_option maxHeartbeats 4000000 in
theorem IE(a r:Int)(ha:0<=a/\a<=1000000000000)(hr:0<=r/\r<=1000000){B:Lo}(hJ:∀w,B.has w->J0 w):EndsT YP B (Qx YP 115 9 (([.int .i64 a,.int .i64 r]).map (Q8 0 4))) (.int .i64 ((a*r).tdiv 1000)):=by
 have e0:0<=a*r:=Int.mul_nonneg ha.1 hr.1;have e1:a*r<=1000000000000*1000000:=Int.mul_le_mul ha.2 hr.2 hr.1 (by omega);have e2:(a*r).tdiv 1000=(a*r) / 1000:=OI e0;exact(GoE.endsT okF hJ Qg GoE.start (GG B a r)
  ⟨(bg (by omega) (by omega)),⟨(Xq (by omega) (by omega)),trivial⟩⟩).cast (by rfl)
theorem GH(a r:Int)(ha:0<=a/\a<=1000000000000)(hr:0<=r/\r<=1000000):Q0 YP J0 115 #[.int .i64 a,.int .i64 r] (.int .i64 ((a*r).tdiv 1000)):=
 Xo (ts:=[.int .i64 a,.int .i64 r]) Zh (c0:=Qx YP 115 9 (([.int .i64 a,.int .i64 r]).map (Q8 0 4))) (by kernel_rfl) (by kernel_rfl) fun B hJ=>IE a r ha hr hJ
theorem oL(B:Lo)(a r:Int):let c:=.int .i64 (Od (a*r) 1000);let b:=a+Od (a*r) 1000;QW (Qu YP (Q9 YP) J0 B 6 1 (Qx YP 100 10 (([.int .i64 a,.int .i64 r]).map (Q8 0 4))) Zf 1
 [(4,Qk.pure c []),(5,WV b)] 0 [] []) []=some (.int .i64 b,
 [wq b=a+Od (a*r) 1000,Q6 []/\Q0 YP J0 115 #[.int .i64 a,.int .i64 r] c]):=by intro c b;kernel_rfl
set_option maxHeartbeats 4000000 in
theorem rk(a r:Int)(ha:0<=a/\a<=1000000000000)(hr:0<=r/\r<=1000000){B:Lo}(hJ:∀w,B.has w->J0 w):EndsT YP B (Qx YP 100 10 (([.int .i64 a,.int .i64 r]).map (Q8 0 4))) (.int .i64 (a+(a*r).tdiv 1000)):=by
 have e0:0<=a*r:=Int.mul_nonneg ha.1 hr.1;have e1:a*r<=1000000000000*1000000:=Int.mul_le_mul ha.2 hr.2 hr.1 (by omega);have e2:(a*r).tdiv 1000=(a*r) / 1000:=OI e0;exact(GoE.endsT okF hJ Qg GoE.start (oL B a r)
  ⟨(Xq (by omega) (by omega)),⟨⟨trivial,GH (a) (r) (by with_reducible assumption) (by with_reducible assumption)⟩,trivial⟩⟩).cast (by rfl)
theorem cD(a r:Int)(ha:0<=a/\a<=1000000000000)(hr:0<=r/\r<=1000000):Q0 YP J0 100 #[.int .i64 a,.int .i64 r] (.int .i64 (a+(a*r).tdiv 1000)):=
 Xo (ts:=[.int .i64 a,.int .i64 r]) Zh (c0:=Qx YP 100 10 (([.int .i64 a,.int .i64 r]).map (Q8 0 4))) (by kernel_rfl) (by kernel_rfl) fun B hJ=>rk a r ha hr hJ
def iG(n:Int):Array Value:=#[.int .i64 n,.int .i64 0,.int .i64 1000000]
theorem wg(B:Lo)(n:Int):QW (Qu YP (Q9 YP) J0 B 6 1 (Qx YP 95 5 (([.int .i64 n]).map (Q8 0 4))) Zf 1
 [(2,Qk.pure (.bool true) [])] 0 [] []) []=some (.bool true,
 [Q6 []/\Q0 YP J0 72 (iG n) (.bool true)]):=by kernel_rfl
theorem we(B:Lo)(n:Int):QW (Qu YP (Q9 YP) J0 B 6 1 (Qx YP 95 5 (([.int .i64 n]).map (Q8 0 4))) Zf 1
 [(2,Qk.pure (.bool false) [])] 0 [] []) []=some (.bool false,
 [Q6 []/\Q0 YP J0 72 (iG n) (.bool false)]):=by kernel_rfl
set_option maxHeartbeats 4000000 in
theorem zH(n:Int)  {B:Lo}(hJ:∀w,B.has w->J0 w):EndsT YP B (Qx YP 95 5 (([.int .i64 n]).map (Q8 0 4))) (.bool (V0 n 0 1000000)):=by
 cases q0:V0 n 0 1000000 with
 |true=>
  exact(GoE.endsT okF hJ Qg GoE.start (wg B n)
   ⟨⟨trivial,(by have t_:=sQ (n) (0) (1000000);rw[q0]at t_;exact t_)⟩,trivial⟩).cast (by rfl)
 |false=>
  exact(GoE.endsT okF hJ Qg GoE.start (we B n)
   ⟨⟨trivial,(by have t_:=sQ (n) (0) (1000000);rw[q0]at t_;exact t_)⟩,trivial⟩).cast (by rfl)
theorem S5(n:Int)  :Q0 YP J0 95 #[.int .i64 n] (.bool (V0 n 0 1000000)):=
 Xo (ts:=[.int .i64 n]) Zh (c0:=Qx YP 95 5 (([.int .i64 n]).map (Q8 0 4))) (by kernel_rfl) (by kernel_rfl) fun B hJ=>zH n  hJ
end
end Go.Proofs.Ytncjjangllkokaa

namespace Go.Proofs.Ytncjjangllkokaa
open Go Go.CE Go.RowKit
noncomputable section
set_option maxRecDepth 100000
structure Qf where
 count:Int
 room:Int
 glo:Int
 ghi:Int
 Xs:Int
 Zt:Int
 Pe:Int
 Pf:Int
 JU:Int
 JV:Int
 goal:Int
 Uk:Int
deriving Inhabited
structure Qi where
 Qb:List Qf
 Qc:Int
 Qd:Int
deriving Inhabited
structure Qv where
 Qe:List Int
 Qj:List (List Int)
 Ql:List (List Int)
deriving Inhabited
def Qm(c:Qf):List Value:=[.int .i64 c.count,.int .i64 c.room,.int .i64 c.glo,.int .i64 c.ghi,.int .i64 c.Xs,.int .i64 c.Zt,.int .i64 c.Pe,.int .i64 c.Pf,.int .i64 c.JU,.int .i64 c.JV,.int .i64 c.goal,.int .i64 c.Uk]
abbrev KN(xs:List Qf):Value:=QI xs.length (Qh Qm xs)
def Q5(r:Qi):List Value:=[KN r.Qb,.int .i64 r.Qc,.int .i64 r.Qd]
def Zy(x:Qf):Bool:=V0 x.count 0 1000000 && (V0 x.room 0 1000000 && (V0 x.goal 0 1000000 && (V0 x.Uk 0 1000000 && (WO x.glo x.ghi 0 2000 && (V0 x.Xs 0 1000 && (WO x.Pe x.Pf 0 1000000 && (WO x.JU x.JV 0 1000000 && (decide (x.JU<=x.Pe) && decide (x.JV<=x.Pf)))))))))
def JY(n v:Int):Bool:=decide (v= -1) || V0 v 0 (n-1)
theorem IV{n v:Int}(h:0<=n):V0 v (-1) (n-1)=JY n v:=by
 unfold JY V0;by_cases e:v= -1
 ·subst e;simp;omega
 ·simp[e];by_cases h1:0<=v
  ·simp[h1];omega
  ·have:¬(-1<=v):=by omega
   simp[this,h1]
def ZL(n i:Int)(x:Qf):Bool:=Zy x && (JY n x.Zt && !decide (x.Zt=i))
def Rp(ps:List Qf)(i:Int):Bool:=(Rj i ps.length).all fun k=>ZL ps.length k (ps.getD k.toNat NZ)
def PK(r:Qi):Bool:=V0 r.Qb.length 1 4 && (V0 r.Qc 0 2000 && V0 r.Qd 1 4)
def QC(r:Qi):Bool:=PK r && Rp r.Qb 0
def QV(r:Qi)(Qa:List Int):Bool:=decide (Qa.length=r.Qd) && Qa.all fun x=>V0 x 0 (((VO r.Qb.length:Nat):Int)-1)
theorem Xe{ps:List Qf}{i:Int}(h:i<ps.length):Rp ps i=(ZL ps.length i (ps.getD i.toNat NZ) && Rp ps (i+1)):=by
 unfold Rp;rw[kB h,List.all_cons]
theorem Ux{ps:List Qf}{i:Int}(h:ps.length<=i):Rp ps i=true:=by
 unfold Rp;rw[j9 h];rfl
theorem Ju{x:Qf}(h:Zy x=true):(0<=x.count/\x.count<=1000000)/\(0<=x.room/\x.room<=1000000)/\(0<=x.goal/\x.goal<=1000000)/\(0<=x.Uk/\x.Uk<=1000000)/\(0<=x.glo/\x.glo<=x.ghi/\x.ghi<=2000)/\(0<=x.Xs/\x.Xs<=1000)/\(0<=x.Pe/\x.Pe<=x.Pf/\x.Pf<=1000000)/\(0<=x.JU/\x.JU<=x.JV/\x.JV<=1000000)/\x.JU<=x.Pe/\x.JV<=x.Pf:=by
 simp only[Zy,YB,R9,oX,decide_eq_true_iff]at h;omega
theorem QA{r:Qi}(h:PK r=true):(1<=r.Qb.length/\r.Qb.length<=4)/\(0<=r.Qc/\r.Qc<=2000)/\(1<=r.Qd/\r.Qd<=4):=by
 simp only[PK,YB,R9]at h;omega
theorem QJ{r:Qi}(h:QC r=true):PK r=true/\∀k:Int,0<=k->k<r.Qb.length->Zy (r.Qb.getD k.toNat NZ)=true/\JY r.Qb.length (r.Qb.getD k.toNat NZ).Zt=true/\(r.Qb.getD k.toNat NZ).Zt≠k:=by
 simp only[QC,YB]at h;refine⟨h.1,fun k h0 h1=> ?_⟩;have:=jY h.2 h0 h1;simp only[ZL,YB,Bool.not_eq_true',decide_eq_false_iff_not]at this;exact⟨this.1,this.2.1,this.2.2⟩
def gm(x:Qf):Bool:=V0 x.count 0 1000000 && (V0 x.room 0 1000000 && (V0 x.goal 0 1000000 && (V0 x.Uk 0 1000000 && (WO x.glo x.ghi 0 2000 && (V0 x.Xs 0 1000 && (WO x.Pe x.Pf 0 1000000 && WO x.JU x.JV 0 1000000))))))
def Zd(r:Qi):Bool:=PK r && (Rj 0 r.Qb.length).all fun k=>gm (r.Qb.getD k.toNat NZ) && (JY r.Qb.length (r.Qb.getD k.toNat NZ).Zt && !decide ((r.Qb.getD k.toNat NZ).Zt=k))
theorem I8{x:Qf}(h:Zy x=true):gm x=true:=by
 simp only[Zy,gm,YB]at h ⊢;exact⟨h.1,h.2.1,h.2.2.1,h.2.2.2.1,h.2.2.2.2.1,h.2.2.2.2.2.1,h.2.2.2.2.2.2.1,h.2.2.2.2.2.2.2.1⟩
theorem QO{r:Qi}(h:QC r=true):Zd r=true:=by
 obtain⟨h1,h2⟩:=QJ h;unfold Zd;rw[YB];refine⟨h1,List.all_eq_true.2 fun k hk=> ?_⟩;unfold Rj at hk;obtain⟨m,hm,rfl⟩:=List.mem_map.1 hk;have hm':=List.mem_range.1 hm;have:=h2 (0+(m:Int)) (by omega) (by omega);simp only[YB,Bool.not_eq_true',decide_eq_false_iff_not];exact⟨I8 this.1,this.2.1,this.2.2⟩
theorem ZP{x:Qf}(h:gm x=true):(0<=x.count/\x.count<=1000000)/\(0<=x.room/\x.room<=1000000)/\(0<=x.goal/\x.goal<=1000000)/\(0<=x.Uk/\x.Uk<=1000000)/\(0<=x.glo/\x.glo<=x.ghi/\x.ghi<=2000)/\(0<=x.Xs/\x.Xs<=1000)/\(0<=x.Pe/\x.Pe<=x.Pf/\x.Pf<=1000000)/\(0<=x.JU/\x.JU<=x.JV/\x.JV<=1000000)/\True:=by
 simp only[gm,YB,R9,oX]at h;simp only[and_true];omega
theorem QQ{r:Qi}(h:Zd r=true):PK r=true/\∀k:Int,0<=k->k<r.Qb.length->gm (r.Qb.getD k.toNat NZ)=true/\JY r.Qb.length (r.Qb.getD k.toNat NZ).Zt=true/\(r.Qb.getD k.toNat NZ).Zt≠k:=by
 simp only[Zd,YB]at h;refine⟨h.1,fun k h0 h1=> ?_⟩;have:=jY h.2 h0 h1;simp only[YB,Bool.not_eq_true',decide_eq_false_iff_not]at this;exact⟨this.1,this.2.1,this.2.2⟩
instance {r:Qi}:Coe (QC r=true) (Zd r=true):=⟨QO⟩
def iv(x:Qf):Array Value:=#[.agg #[.int .i64 x.Pe,.int .i64 x.Pf],.int .i64 1000000]
def iu(x:Qf):Array Value:=#[.agg #[.int .i64 x.JU,.int .i64 x.JV],.int .i64 1000000]
def ir(x:Qf):Array Value:=#[.agg #[.int .i64 x.glo,.int .i64 x.ghi],.int .i64 2000]
def iq(x:Qf):Array Value:=#[.int .i64 x.Uk,.int .i64 0,.int .i64 1000000]
def il(x:Qf):Array Value:=#[.int .i64 x.Xs,.int .i64 0,.int .i64 1000]
def az(B:Lo)(x:Qf):List Prop:=[Q6 []/\Q0 YP J0 95 #[.int .i64 x.count] (.bool true)]++([]:List Prop)
def iE(x:Qf):QD:=[(4,Qk.pure (.bool true) [])]
def ay(B:Lo)(x:Qf):List Prop:=[Q6 []/\Q0 YP J0 95 #[.int .i64 x.room] (.bool true)]++az B x
def iD(x:Qf):QD:=iE x++[(8,Qk.pure (.bool true) [])]
def ax(B:Lo)(x:Qf):List Prop:=[Q6 []/\Q0 YP J0 95 #[.int .i64 x.goal] (.bool true)]++ay B x
def iC(x:Qf):QD:=iD x++[(13,Qk.pure (.bool true) [])]
def aw(B:Lo)(x:Qf):List Prop:=[Q6 []/\Q0 YP J0 72 (iq x) (.bool true)]++ax B x
def iB(x:Qf):QD:=iC x++[(18,Qk.pure (.bool true) [])]
def av(B:Lo)(x:Qf):List Prop:=[Q6 []/\Q0 YP J0 96 (ir x) (.bool true)]++aw B x
def iA(x:Qf):QD:=iB x++[(23,Qk.pure (.bool true) [])]
def au(B:Lo)(x:Qf):List Prop:=[Q6 []/\Q0 YP J0 72 (il x) (.bool true)]++av B x
def iz(x:Qf):QD:=iA x++[(28,Qk.pure (.bool true) [])]
def aq(B:Lo)(x:Qf):List Prop:=[Q6 []/\Q0 YP J0 96 (iv x) (.bool true)]++au B x
def iy(x:Qf):QD:=iz x++[(33,Qk.pure (.bool true) [])]
def ao(B:Lo)(x:Qf):List Prop:=[Q6 []/\Q0 YP J0 96 (iu x) (.bool true)]++aq B x
def ix(x:Qf):QD:=iy x++[(38,Qk.pure (.bool true) [])]
def al(B:Lo)(x:Qf):List Prop:=[(!XS x.Pe x.JU)=true]++ao B x
def iw(x:Qf):QD:=ix x++[(47,ZF)]
theorem uM(B:Lo)(x:Qf):QW (Qu YP (Q9 YP) J0 B 6 1 (Qx YP 73 59 (([.agg (Qm x).toArray]).map (Q8 0 4))) Zf 1
 (iw x++[(56,ZF)]) 0 [] []) []=some (.bool true,
 [(!XS x.Pf x.JV)=true]++al B x):=by kernel_rfl
theorem uL(B:Lo)(x:Qf):QW (Qu YP (Q9 YP) J0 B 6 1 (Qx YP 73 59 (([.agg (Qm x).toArray]).map (Q8 0 4))) Zf 1
 (iw x++[(56,Wm)]) 0 [] []) []=some (.bool false,
 [(!XS x.Pf x.JV)=false]++al B x):=by kernel_rfl
theorem uK(B:Lo)(x:Qf):QW (Qu YP (Q9 YP) J0 B 6 1 (Qx YP 73 59 (([.agg (Qm x).toArray]).map (Q8 0 4))) Zf 1
 (ix x++[(47,Wm)]) 0 [] []) []=some (.bool false,
 [(!XS x.Pe x.JU)=false]++ao B x):=by kernel_rfl
theorem uJ(B:Lo)(x:Qf):QW (Qu YP (Q9 YP) J0 B 6 1 (Qx YP 73 59 (([.agg (Qm x).toArray]).map (Q8 0 4))) Zf 1
 (iy x++[(38,Qk.pure (.bool false) [])]) 0 [] []) []=some (.bool false,
 [Q6 []/\Q0 YP J0 96 (iu x) (.bool false)]++aq B x):=by kernel_rfl
theorem uI(B:Lo)(x:Qf):QW (Qu YP (Q9 YP) J0 B 6 1 (Qx YP 73 59 (([.agg (Qm x).toArray]).map (Q8 0 4))) Zf 1
 (iz x++[(33,Qk.pure (.bool false) [])]) 0 [] []) []=some (.bool false,
 [Q6 []/\Q0 YP J0 96 (iv x) (.bool false)]++au B x):=by kernel_rfl
theorem uH(B:Lo)(x:Qf):QW (Qu YP (Q9 YP) J0 B 6 1 (Qx YP 73 59 (([.agg (Qm x).toArray]).map (Q8 0 4))) Zf 1
 (iA x++[(28,Qk.pure (.bool false) [])]) 0 [] []) []=some (.bool false,
 [Q6 []/\Q0 YP J0 72 (il x) (.bool false)]++av B x):=by kernel_rfl
theorem uG(B:Lo)(x:Qf):QW (Qu YP (Q9 YP) J0 B 6 1 (Qx YP 73 59 (([.agg (Qm x).toArray]).map (Q8 0 4))) Zf 1
 (iB x++[(23,Qk.pure (.bool false) [])]) 0 [] []) []=some (.bool false,
 [Q6 []/\Q0 YP J0 96 (ir x) (.bool false)]++aw B x):=by kernel_rfl
theorem uF(B:Lo)(x:Qf):QW (Qu YP (Q9 YP) J0 B 6 1 (Qx YP 73 59 (([.agg (Qm x).toArray]).map (Q8 0 4))) Zf 1
 (iC x++[(18,Qk.pure (.bool false) [])]) 0 [] []) []=some (.bool false,
 [Q6 []/\Q0 YP J0 72 (iq x) (.bool false)]++ax B x):=by kernel_rfl
theorem uE(B:Lo)(x:Qf):QW (Qu YP (Q9 YP) J0 B 6 1 (Qx YP 73 59 (([.agg (Qm x).toArray]).map (Q8 0 4))) Zf 1
 (iD x++[(13,Qk.pure (.bool false) [])]) 0 [] []) []=some (.bool false,
 [Q6 []/\Q0 YP J0 95 #[.int .i64 x.goal] (.bool false)]++ay B x):=by kernel_rfl
theorem uD(B:Lo)(x:Qf):QW (Qu YP (Q9 YP) J0 B 6 1 (Qx YP 73 59 (([.agg (Qm x).toArray]).map (Q8 0 4))) Zf 1
 (iE x++[(8,Qk.pure (.bool false) [])]) 0 [] []) []=some (.bool false,
 [Q6 []/\Q0 YP J0 95 #[.int .i64 x.room] (.bool false)]++az B x):=by kernel_rfl
theorem rn(B:Lo)(x:Qf):QW (Qu YP (Q9 YP) J0 B 6 1 (Qx YP 73 59 (([.agg (Qm x).toArray]).map (Q8 0 4))) Zf 1
 [(4,Qk.pure (.bool false) [])] 0 [] []) []=some (.bool false,
 [Q6 []/\Q0 YP J0 95 #[.int .i64 x.count] (.bool false)]):=by kernel_rfl
set_option maxHeartbeats 4000000 in
theorem z3(x:Qf)  {B:Lo}(hJ:∀w,B.has w->J0 w):EndsT YP B (Qx YP 73 59 (([.agg (Qm x).toArray]).map (Q8 0 4))) (.bool (Zy x)):=by
 cases q0:V0 x.count 0 1000000 with
 |true=>
  have V5:Q6 (az B x):=by
   exact⟨⟨trivial,(by have t_:=S5 x.count;rw[q0]at t_;exact t_)⟩,trivial⟩
  cases q1:V0 x.room 0 1000000 with
  |true=>
   have Kj:Q6 (ay B x):=by
    exact⟨⟨trivial,(by have t_:=S5 x.room;rw[q1]at t_;exact t_)⟩,V5⟩
   cases q2:V0 x.goal 0 1000000 with
   |true=>
    have Ph:Q6 (ax B x):=by
     exact⟨⟨trivial,(by have t_:=S5 x.goal;rw[q2]at t_;exact t_)⟩,Kj⟩
    cases q3:V0 x.Uk 0 1000000 with
    |true=>
     have hp3:Q6 (aw B x):=by
      exact⟨⟨trivial,(by have t_:=sQ x.Uk (0) (1000000);rw[q3]at t_;exact t_)⟩,Ph⟩
     cases q4:WO x.glo x.ghi 0 2000 with
     |true=>
      have hp4:Q6 (av B x):=by
       exact⟨⟨trivial,(by have t_:=bK x.glo x.ghi (2000);rw[q4]at t_;exact t_)⟩,hp3⟩
      cases q5:V0 x.Xs 0 1000 with
      |true=>
       have hp5:Q6 (au B x):=by
        exact⟨⟨trivial,(by have t_:=sQ x.Xs (0) (1000);rw[q5]at t_;exact t_)⟩,hp4⟩
       cases q6:WO x.Pe x.Pf 0 1000000 with
       |true=>
        have hp6:Q6 (aq B x):=by
         exact⟨⟨trivial,(by have t_:=bK x.Pe x.Pf (1000000);rw[q6]at t_;exact t_)⟩,hp5⟩
        cases q7:WO x.JU x.JV 0 1000000 with
        |true=>
         have hp7:Q6 (ao B x):=by
          exact⟨⟨trivial,(by have t_:=bK x.JU x.JV (1000000);rw[q7]at t_;exact t_)⟩,hp6⟩
         by_cases q8:(x.JU:Int)<=x.Pe
         ·have hp8:Q6 (al B x):=by
           exact⟨(WZ q8),hp7⟩
          by_cases q9:(x.JV:Int)<=x.Pf
          ·exact(GoE.endsT okF hJ Qg GoE.start (uM B x)
            ⟨(WZ q9),hp8⟩).cast (by(simp[Zy, *];done))
          ·exact(GoE.endsT okF hJ Qg GoE.start (uL B x)
            ⟨(UX (Int.not_le.1 q9)),hp8⟩).cast (by(simp[Zy, *];done))
         ·exact(GoE.endsT okF hJ Qg GoE.start (uK B x)
           ⟨(UX (Int.not_le.1 q8)),hp7⟩).cast (by(simp[Zy, *];done))
        |false=>
         exact(GoE.endsT okF hJ Qg GoE.start (uJ B x)
          ⟨⟨trivial,(by have t_:=bK x.JU x.JV (1000000);rw[q7]at t_;exact t_)⟩,hp6⟩).cast (by(simp[Zy, *];done))
       |false=>
        exact(GoE.endsT okF hJ Qg GoE.start (uI B x)
         ⟨⟨trivial,(by have t_:=bK x.Pe x.Pf (1000000);rw[q6]at t_;exact t_)⟩,hp5⟩).cast (by(simp[Zy, *];done))
      |false=>
       exact(GoE.endsT okF hJ Qg GoE.start (uH B x)
        ⟨⟨trivial,(by have t_:=sQ x.Xs (0) (1000);rw[q5]at t_;exact t_)⟩,hp4⟩).cast (by(simp[Zy, *];done))
     |false=>
      exact(GoE.endsT okF hJ Qg GoE.start (uG B x)
       ⟨⟨trivial,(by have t_:=bK x.glo x.ghi (2000);rw[q4]at t_;exact t_)⟩,hp3⟩).cast (by(simp[Zy, *];done))
    |false=>
     exact(GoE.endsT okF hJ Qg GoE.start (uF B x)
      ⟨⟨trivial,(by have t_:=sQ x.Uk (0) (1000000);rw[q3]at t_;exact t_)⟩,Ph⟩).cast (by(simp[Zy, *];done))
   |false=>
    exact(GoE.endsT okF hJ Qg GoE.start (uE B x)
     ⟨⟨trivial,(by have t_:=S5 x.goal;rw[q2]at t_;exact t_)⟩,Kj⟩).cast (by(simp[Zy, *];done))
  |false=>
   exact(GoE.endsT okF hJ Qg GoE.start (uD B x)
    ⟨⟨trivial,(by have t_:=S5 x.room;rw[q1]at t_;exact t_)⟩,V5⟩).cast (by(simp[Zy, *];done))
 |false=>
  exact(GoE.endsT okF hJ Qg GoE.start (rn B x)
   ⟨⟨trivial,(by have t_:=S5 x.count;rw[q0]at t_;exact t_)⟩,trivial⟩).cast (by(simp[Zy, *];done))
theorem uN(x:Qf)  :Q0 YP J0 73 #[.agg (Qm x).toArray] (.bool (Zy x)):=
 Xo (ts:=[.agg (Qm x).toArray]) Zh (c0:=Qx YP 73 59 (([.agg (Qm x).toArray]).map (Q8 0 4))) (by kernel_rfl) (by kernel_rfl) fun B hJ=>z3 x  hJ
def dZ(r:Qi)(k:Int):Array Value:=#[.int .i64 k,.int .i64 0,.int .i64 ((↑r.Qb.length:Int)-1)]
def Tr(B:Lo)(r:Qi)(k:Int):List Prop:=[wq ((↑r.Qb.length:Int)-1)=(↑r.Qb.length:Int)-1]++([]:List Prop)
def ee(r:Qi)(k:Int):QD:=[(6,WV ((↑r.Qb.length:Int)-1))]
theorem rq(B:Lo)(r:Qi)(k:Int):QW (Qu YP (Q9 YP) J0 B 6 1 (Qx YP 70 11 (([.agg (Q5 r).toArray,.int .i64 k]).map (Q8 0 4))) Zf 1
 (ee r k++[(7,Qk.pure (.bool true) [])]) 0 [] []) []=some (.bool true,
 [Q6 []/\Q0 YP J0 72 (dZ r k) (.bool true)]++Tr B r k):=by kernel_rfl
theorem rp(B:Lo)(r:Qi)(k:Int):QW (Qu YP (Q9 YP) J0 B 6 1 (Qx YP 70 11 (([.agg (Q5 r).toArray,.int .i64 k]).map (Q8 0 4))) Zf 1
 (ee r k++[(7,Qk.pure (.bool false) [])]) 0 [] []) []=some (.bool false,
 [Q6 []/\Q0 YP J0 72 (dZ r k) (.bool false)]++Tr B r k):=by kernel_rfl
set_option maxHeartbeats 4000000 in
theorem uO(r:Qi)(k:Int)  (X8:r.Qb.length<=9223372036854775807){B:Lo}(hJ:∀w,B.has w->J0 w):EndsT YP B (Qx YP 70 11 (([.agg (Q5 r).toArray,.int .i64 k]).map (Q8 0 4))) (.bool (V0 k 0 (r.Qb.length-1))):=by
 have V5:Q6 (Tr B r k):=by
  exact⟨(Xq (by omega) (by omega)),trivial⟩
 cases q0:V0 k 0 ((↑r.Qb.length:Int)-1)with
 |true=>
  exact(GoE.endsT okF hJ Qg GoE.start (rq B r k)
   ⟨⟨trivial,(by have t_:=sQ (k) (0) ((↑r.Qb.length:Int)-1);rw[q0]at t_;exact t_)⟩,V5⟩).cast (by rfl)
 |false=>
  exact(GoE.endsT okF hJ Qg GoE.start (rp B r k)
   ⟨⟨trivial,(by have t_:=sQ (k) (0) ((↑r.Qb.length:Int)-1);rw[q0]at t_;exact t_)⟩,V5⟩).cast (by rfl)
theorem pQ(r:Qi)(k:Int)  :Q0 YP J0 70 #[.agg (Q5 r).toArray,.int .i64 k] (.bool (V0 k 0 (r.Qb.length-1))):=
 Vj (ts:=[.agg (Q5 r).toArray,.int .i64 k]) (r.Qb.length<=9223372036854775807) (fun _ _ ht=>ht.ln2 (i:=0) (j:=0) rfl rfl) Zh (c0:=Qx YP 70 11 (([.agg (Q5 r).toArray,.int .i64 k]).map (Q8 0 4))) (by kernel_rfl) (by kernel_rfl) fun X8 B hJ=>uO r k  X8 hJ
def Tq(x_:Qf):Array Value:=#[.int .i64 x_.count,.int .i64 x_.room,.int .i64 x_.glo,.int .i64 x_.ghi,.int .i64 x_.Xs,.int .i64 x_.Zt,.int .i64 x_.Pe,.int .i64 x_.Pf,.int .i64 x_.JU,.int .i64 x_.JV,.int .i64 x_.goal,.int .i64 x_.Uk]
def lK(r:Qi)(i:Int):Array Value:=#[.agg #[QI r.Qb.length (Qh Qm r.Qb),.int .i64 r.Qc,.int .i64 r.Qd],.int .i64 (Qf.Zt (r.Qb.getD i.toNat NZ))]
def lJ(r:Qi):Array Value:=#[.int .i64 (↑r.Qb.length:Int),.int .i64 1,.int .i64 4]
def lI(r:Qi):Array Value:=#[.int .i64 r.Qc,.int .i64 0,.int .i64 2000]
def lH(r:Qi):Array Value:=#[.int .i64 r.Qd,.int .i64 1,.int .i64 4]
def WA(r:Qi)(i:Int):List Value:=[pA 2 0,Q2 1 (QI r.Qb.length (Qh Qm r.Qb)),.int .i64 (↑r.Qb.length:Int),.int .i64 i]
def Zi(r:Qi)(i:Int):List Obj:=[Obj.cells #[Q2 1 (QI r.Qb.length (Qh Qm r.Qb)),.int .i64 r.Qc,.int .i64 r.Qd] 24]
def WB:List Item:=([.code [1,1,0,1,0,0],.inLoop [1,1,0,1,0,0],.inBlock 0,.code [1,1,1]]).map (it (QP YP 50))
def zz(B:Lo)(c0:CF)(r:Qi)(i:Int):Prop:=∃dJ:Nat->Value,(∀t,Xy (dJ t))/\GoE YP B c0 Zf 1 (QK 50 52 (([1,23,24,25]:List Nat).zip (WA r i)) dJ WB) (QH (Zi r i)) (2+(Zi r i).length) []
def cL(B:Lo)(r:Qi)(i:Int)(Qs:Nat->Value):List Prop:=[Yr i r.Qb.length (Qh Qm r.Qb) Try.t54.size (Tq (r.Qb.getD i.toNat NZ)),XS i (↑r.Qb.length:Int)=true]++([]:List Prop)
def lR(r:Qi)(i:Int)(Qs:Nat->Value):QD:=[(0,ZF),(2,Qk.tidx i.toNat (Tq (r.Qb.getD i.toNat NZ)))]
def cK(B:Lo)(r:Qi)(i:Int)(Qs:Nat->Value):List Prop:=[Q6 []/\Q0 YP J0 73 #[.agg (Tq (r.Qb.getD i.toNat NZ))] (.bool true)]++cL B r i Qs
def lQ(r:Qi)(i:Int)(Qs:Nat->Value):QD:=lR r i Qs++[(8,Qk.pure (.bool true) [])]
def cJ(B:Lo)(r:Qi)(i:Int)(Qs:Nat->Value):List Prop:=[(!Y6 (Qf.Zt (r.Qb.getD i.toNat NZ)) (-1))=true]++cK B r i Qs
def lP(r:Qi)(i:Int)(Qs:Nat->Value):QD:=lQ r i Qs++[(13,ZF)]
def cI(B:Lo)(r:Qi)(i:Int)(Qs:Nat->Value):List Prop:=[Q6 []/\Q0 YP J0 70 (lK r i) (.bool true)]++cJ B r i Qs
def lO(r:Qi)(i:Int)(Qs:Nat->Value):QD:=lP r i Qs++[(18,Qk.pure (.bool true) [])]
theorem zx(B:Lo)(r:Qi)(i:Int)(Qs:Nat->Value):QW (Qu YP (Q9 YP) J0 B 16 1 (QK 50 52 (([1,23,24,25]:List Nat).zip (WA r i)) Qs WB) (QH (Zi r i)) (2+(Zi r i).length)
 (lO r i Qs++[(26,ZF)]) 0 [] []) []=some (.bool false,
 [Y6 (Qf.Zt (r.Qb.getD i.toNat NZ)) i=true]++cI B r i Qs):=by kernel_rfl
theorem zw(B:Lo)(r:Qi)(i:Int)(Qs:Nat->Value):landM (Qu YP (Q9 YP) J0 B 16 1 (QK 50 52 (([1,23,24,25]:List Nat).zip (WA r i)) Qs WB) (QH (Zi r i)) (2+(Zi r i).length)
 (lO r i Qs++[(26,Wm),(28,WV (i+1))]) 0 [] []) [1,23,24,25] [(2,KS.auto)] []=some ⟨50,52,WB,[],.run,none,WA r (i+1),Zi r (i+1),
 [wq (i+1)=i+1,Y6 (Qf.Zt (r.Qb.getD i.toNat NZ)) i=false]++cI B r i Qs⟩:=by kernel_rfl
theorem zu(B:Lo)(r:Qi)(i:Int)(Qs:Nat->Value):QW (Qu YP (Q9 YP) J0 B 16 1 (QK 50 52 (([1,23,24,25]:List Nat).zip (WA r i)) Qs WB) (QH (Zi r i)) (2+(Zi r i).length)
 (lP r i Qs++[(18,Qk.pure (.bool false) [])]) 0 [] []) []=some (.bool false,
 [Q6 []/\Q0 YP J0 70 (lK r i) (.bool false)]++cJ B r i Qs):=by kernel_rfl
def cG(B:Lo)(r:Qi)(i:Int)(Qs:Nat->Value):List Prop:=[(!Y6 (Qf.Zt (r.Qb.getD i.toNat NZ)) (-1))=false]++cK B r i Qs
def lN(r:Qi)(i:Int)(Qs:Nat->Value):QD:=lQ r i Qs++[(13,Wm)]
theorem zt(B:Lo)(r:Qi)(i:Int)(Qs:Nat->Value):QW (Qu YP (Q9 YP) J0 B 16 1 (QK 50 52 (([1,23,24,25]:List Nat).zip (WA r i)) Qs WB) (QH (Zi r i)) (2+(Zi r i).length)
 (lN r i Qs++[(26,ZF)]) 0 [] []) []=some (.bool false,
 [Y6 (Qf.Zt (r.Qb.getD i.toNat NZ)) i=true]++cG B r i Qs):=by kernel_rfl
theorem zr(B:Lo)(r:Qi)(i:Int)(Qs:Nat->Value):landM (Qu YP (Q9 YP) J0 B 16 1 (QK 50 52 (([1,23,24,25]:List Nat).zip (WA r i)) Qs WB) (QH (Zi r i)) (2+(Zi r i).length)
 (lN r i Qs++[(26,Wm),(28,WV (i+1))]) 0 [] []) [1,23,24,25] [(2,KS.auto)] []=some ⟨50,52,WB,[],.run,none,WA r (i+1),Zi r (i+1),
 [wq (i+1)=i+1,Y6 (Qf.Zt (r.Qb.getD i.toNat NZ)) i=false]++cG B r i Qs⟩:=by kernel_rfl
theorem zq(B:Lo)(r:Qi)(i:Int)(Qs:Nat->Value):QW (Qu YP (Q9 YP) J0 B 16 1 (QK 50 52 (([1,23,24,25]:List Nat).zip (WA r i)) Qs WB) (QH (Zi r i)) (2+(Zi r i).length)
 (lR r i Qs++[(8,Qk.pure (.bool false) [])]) 0 [] []) []=some (.bool false,
 [Q6 []/\Q0 YP J0 73 #[.agg (Tq (r.Qb.getD i.toNat NZ))] (.bool false)]++cL B r i Qs):=by kernel_rfl
theorem zp(B:Lo)(r:Qi)(i:Int)(Qs:Nat->Value):QW (Qu YP (Q9 YP) J0 B 9 1 (QK 50 52 (([1,23,24,25]:List Nat).zip (WA r i)) Qs WB) (QH (Zi r i)) (2+(Zi r i).length)
 [(0,Wm)] 0 [] []) []=some (.bool true,
 [XS i (↑r.Qb.length:Int)=false]):=by kernel_rfl
def cF(B:Lo)(r:Qi):List Prop:=[Q6 []/\Q0 YP J0 72 (lJ r) (.bool true)]++([]:List Prop)
def lM(r:Qi):QD:=[(5,Qk.pure (.bool true) [])]
def cE(B:Lo)(r:Qi):List Prop:=[Q6 []/\Q0 YP J0 72 (lI r) (.bool true)]++cF B r
def lL(r:Qi):QD:=lM r++[(10,Qk.pure (.bool true) [])]
theorem zo(B:Lo)(r:Qi):landM (Qu YP (Q9 YP) J0 B 12 1 (Qx YP 50 52 (([.agg (Q5 r).toArray]).map (Q8 0 4))) Zf 1
 (lL r++[(16,Qk.pure (.bool true) [])]) 0 [] []) [1,23,24,25] [(1,KS.auto)] []=some ⟨50,52,WB,[],.run,none,WA r (0),Zi r (0),
 [Q6 []/\Q0 YP J0 72 (lH r) (.bool true)]++cE B r⟩:=by kernel_rfl
theorem zm(B:Lo)(r:Qi):QW (Qu YP (Q9 YP) J0 B 10 1 (Qx YP 50 52 (([.agg (Q5 r).toArray]).map (Q8 0 4))) Zf 1
 (lL r++[(16,Qk.pure (.bool false) [])]) 0 [] []) []=some (.bool false,
 [Q6 []/\Q0 YP J0 72 (lH r) (.bool false)]++cE B r):=by kernel_rfl
theorem zl(B:Lo)(r:Qi):QW (Qu YP (Q9 YP) J0 B 10 1 (Qx YP 50 52 (([.agg (Q5 r).toArray]).map (Q8 0 4))) Zf 1
 (lM r++[(10,Qk.pure (.bool false) [])]) 0 [] []) []=some (.bool false,
 [Q6 []/\Q0 YP J0 72 (lI r) (.bool false)]++cF B r):=by kernel_rfl
theorem uC(B:Lo)(r:Qi):QW (Qu YP (Q9 YP) J0 B 10 1 (Qx YP 50 52 (([.agg (Q5 r).toArray]).map (Q8 0 4))) Zf 1
 [(5,Qk.pure (.bool false) [])] 0 [] []) []=some (.bool false,
 [Q6 []/\Q0 YP J0 72 (lJ r) (.bool false)]):=by kernel_rfl
set_option maxHeartbeats 4000000 in
theorem zy(r:Qi)  (X8:r.Qb.length<=9223372036854775807){B:Lo}(hJ:∀w,B.has w->J0 w){c0:CF}:∀m:Nat,(∀(i:Int),r.Qb.length-i.toNat=m->∀(h0:0<=i),zz B c0 r i->EndsT YP B c0 (.bool (Rp r.Qb i))):=by
 intro m0;induction m0 using Ox with
 |_ m0 ih0=>
  intro i JP h0 ⟨Qs,ZV,XF⟩;by_cases q0:(i:Int)<((↑r.Qb.length:Int))
  ·have V5:Q6 (cL B r i Qs):=by
    have s2:=Xe (ps:=r.Qb) q0;exact⟨⟨by omega,by omega,(QB (z:=12) (fun _=>rfl) (by omega))⟩,⟨(XC q0),trivial⟩⟩
   cases q1:Zy (r.Qb.getD i.toNat NZ)with
   |true=>
    have Kj:Q6 (cK B r i Qs):=by
     have s2:=Xe (ps:=r.Qb) q0;exact⟨⟨trivial,(by have t_:=uN (r.Qb.getD i.toNat NZ);rw[q1]at t_;exact t_)⟩,V5⟩
    by_cases q2:(Qf.Zt (r.Qb.getD i.toNat NZ):Int)≠(-1)
    ·have Ph:Q6 (cJ B r i Qs):=by
      exact⟨(Y1 q2),Kj⟩
     cases q3:V0 (Qf.Zt (r.Qb.getD i.toNat NZ)) 0 ((↑r.Qb.length:Int)-1)with
     |true=>
      have hp3:Q6 (cI B r i Qs):=by
       have s2:=Xe (ps:=r.Qb) q0;exact⟨⟨trivial,(by have t_:=pQ (r) (Qf.Zt (r.Qb.getD i.toNat NZ));rw[q3]at t_;exact t_)⟩,Ph⟩
      by_cases q4:(Qf.Zt (r.Qb.getD i.toNat NZ):Int)=(i)
      ·have s2:=Xe (ps:=r.Qb) q0;exact(GoE.endsT okF hJ Qg XF (zx B r i Qs)
        ⟨(aX q4),hp3⟩).cast (by(rw[s2];simp_all[ZL,JY];done))
      ·have s2:=Xe (ps:=r.Qb) q0;exact((ih0 _ (by omega)) (i+1) rfl (by omega)
        (XF.landM okF hJ Qg (zw B r i Qs)
        ⟨(Xq (by omega) (by omega)),⟨(aY q4),hp3⟩⟩ (by kernel_rfl) (by kernel_rfl))).cast (by(rw[s2];simp_all[ZL,JY];done))
     |false=>
      have s2:=Xe (ps:=r.Qb) q0;exact(GoE.endsT okF hJ Qg XF (zu B r i Qs)
       ⟨⟨trivial,(by have t_:=pQ (r) (Qf.Zt (r.Qb.getD i.toNat NZ));rw[q3]at t_;exact t_)⟩,Ph⟩).cast (by(rw[s2];simp_all[ZL,JY];done))
    ·have hp4:Q6 (cG B r i Qs):=by
      exact⟨(Y2 (Decidable.of_not_not q2)),Kj⟩
     by_cases q3:(Qf.Zt (r.Qb.getD i.toNat NZ):Int)=(i)
     ·have s2:=Xe (ps:=r.Qb) q0;have s2:=Ux (ps:=r.Qb) (i:=i) (by omega);exact(GoE.endsT okF hJ Qg XF (zt B r i Qs)
       ⟨(aX q3),hp4⟩).cast (by(rw[s2];simp_all[ZL,JY];done))
     ·have s2:=Xe (ps:=r.Qb) q0;exact((ih0 _ (by omega)) (i+1) rfl (by omega)
       (XF.landM okF hJ Qg (zr B r i Qs)
       ⟨(Xq (by omega) (by omega)),⟨(aY q3),hp4⟩⟩ (by kernel_rfl) (by kernel_rfl))).cast (by(rw[s2];simp_all[ZL,JY];done))
   |false=>
    have s2:=Xe (ps:=r.Qb) q0;exact(GoE.endsT okF hJ Qg XF (zq B r i Qs)
     ⟨⟨trivial,(by have t_:=uN (r.Qb.getD i.toNat NZ);rw[q1]at t_;exact t_)⟩,V5⟩).cast (by(rw[s2];simp_all[ZL,JY];done))
  ·have s2:=Ux (ps:=r.Qb) (i:=i) (by omega);exact(GoE.endsT okF hJ Qg XF (zp B r i Qs)
    ⟨(XO (Int.not_lt.1 q0)),trivial⟩).cast (by(rw[s2];done))
set_option maxHeartbeats 4000000 in
theorem CZ(r:Qi)  (X8:r.Qb.length<=9223372036854775807){B:Lo}(hJ:∀w,B.has w->J0 w):EndsT YP B (Qx YP 50 52 (([.agg (Q5 r).toArray]).map (Q8 0 4))) (.bool (QC r)):=by
 cases q0:V0 (↑r.Qb.length:Int) 1 4 with
 |true=>
  have hp5:Q6 (cF B r):=by
   exact⟨⟨trivial,(by have t_:=sQ ((↑r.Qb.length:Int)) (1) (4);rw[q0]at t_;exact t_)⟩,trivial⟩
  cases q1:V0 r.Qc 0 2000 with
  |true=>
   have hp6:Q6 (cE B r):=by
    exact⟨⟨trivial,(by have t_:=sQ r.Qc (0) (2000);rw[q1]at t_;exact t_)⟩,hp5⟩
   cases q2:V0 r.Qd 1 4 with
   |true=>
    exact((zy r X8 hJ _) (0) rfl (by omega)
     (GoE.start.landM okF hJ Qg (zo B r)
     ⟨⟨trivial,(by have t_:=sQ r.Qd (1) (4);rw[q2]at t_;exact t_)⟩,hp6⟩ (by kernel_rfl) (by kernel_rfl))).cast (by(simp only[QC,PK];simp[*];done))
   |false=>
    exact(GoE.endsT okF hJ Qg GoE.start (zm B r)
     ⟨⟨trivial,(by have t_:=sQ r.Qd (1) (4);rw[q2]at t_;exact t_)⟩,hp6⟩).cast (by(simp only[QC,PK];simp[*];done))
  |false=>
   exact(GoE.endsT okF hJ Qg GoE.start (zl B r)
    ⟨⟨trivial,(by have t_:=sQ r.Qc (0) (2000);rw[q1]at t_;exact t_)⟩,hp5⟩).cast (by(simp only[QC,PK];simp[*];done))
 |false=>
  exact(GoE.endsT okF hJ Qg GoE.start (uC B r)
   ⟨⟨trivial,(by have t_:=sQ ((↑r.Qb.length:Int)) (1) (4);rw[q0]at t_;exact t_)⟩,trivial⟩).cast (by(simp only[QC,PK];simp[*];done))
theorem bE(r:Qi)  :Q0 YP J0 50 #[.agg (Q5 r).toArray] (.bool (QC r)):=
 Vj (ts:=[.agg (Q5 r).toArray]) (r.Qb.length<=9223372036854775807) (fun _ _ ht=>ht.ln2 (i:=0) (j:=0) rfl rfl) Zh (c0:=Qx YP 50 52 (([.agg (Q5 r).toArray]).map (Q8 0 4))) (by kernel_rfl) (by kernel_rfl) fun X8 B hJ=>CZ r  X8 hJ
def Z2(r:Qi)(i:Int):List Value:=[pA 2 0,.int .i64 i]
def X3(r:Qi)(i:Int):List Obj:=[Obj.cells #[Q2 1 (QI r.Qb.length (Qh Qm r.Qb)),.int .i64 r.Qc,.int .i64 r.Qd] 24]
def Z3:List Item:=([.code [1,0,1,0,0],.inLoop [1,0,1,0,0],.inBlock 0,.code [1,1]]).map (it (QP YP 20))
def F9(B:Lo)(c0:CF)(r:Qi)(i:Int):Prop:=∃dJ:Nat->Value,(∀t,Xy (dJ t))/\GoE YP B c0 Zf 1 (QK 20 111 (([1,3]:List Nat).zip (Z2 r i)) dJ Z3) (QH (X3 r i)) (2+(X3 r i).length) []
def Pw(r:Qi)(i:Int):=(r.Qb.getD i.toNat NZ)
def PO(r:Qi)(i:Int):=(Pw r i)
def Fv(r:Qi)(i:Int):=(PO r i)
def tQ(r:Qi)(i:Int):Array Value:=let a:=Fv r i;#[.int .i64 a.count,.int .i64 a.room,.int .i64 a.glo,.int .i64 a.ghi,.int .i64 a.Xs,.int .i64 a.Zt,.int .i64 a.Pe,.int .i64 a.Pf,.int .i64 a.JU,.int .i64 a.JV,.int .i64 a.goal,.int .i64 a.Uk]
def tP(r:Qi)(i:Int):Array Value:=#[.agg #[.int .i64 (Qf.Pe (PO r i)),.int .i64 (Qf.Pf (PO r i))],.int .i64 1000000]
def tO(r:Qi)(i:Int):Array Value:=#[.agg #[.int .i64 (Qf.JU (PO r i)),.int .i64 (Qf.JV (PO r i))],.int .i64 1000000]
def tN(r:Qi)(i:Int):Array Value:=#[.agg #[.int .i64 (Qf.glo (PO r i)),.int .i64 (Qf.ghi (PO r i))],.int .i64 2000]
def tM(r:Qi)(i:Int):Array Value:=#[.int .i64 (Qf.Zt (Pw r i)),.int .i64 (-1),.int .i64 ((↑r.Qb.length:Int)-1)]
def tL(r:Qi)(i:Int):Array Value:=#[.int .i64 (Qf.count (Pw r i)),.int .i64 0,.int .i64 1000000]
def tK(r:Qi)(i:Int):Array Value:=#[.int .i64 (Qf.Uk (Pw r i)),.int .i64 0,.int .i64 1000000]
def tJ(r:Qi)(i:Int):Array Value:=#[.int .i64 (Qf.room (Pw r i)),.int .i64 0,.int .i64 1000000]
def p8(r:Qi)(i:Int):Array Value:=#[.int .i64 (Qf.goal (Pw r i)),.int .i64 0,.int .i64 1000000]
def pz(r:Qi)(i:Int):Array Value:=#[.int .i64 (Qf.Xs (r.Qb.getD i.toNat NZ)),.int .i64 0,.int .i64 1000]
def py(r:Qi):Array Value:=#[.int .i64 (↑r.Qb.length:Int),.int .i64 1,.int .i64 4]
def px(r:Qi):Array Value:=#[.int .i64 r.Qc,.int .i64 0,.int .i64 2000]
def pw(r:Qi):Array Value:=#[.int .i64 r.Qd,.int .i64 1,.int .i64 4]
def lj(B:Lo)(r:Qi)(i:Int)(Qs:Nat->Value):List Prop:=[Yr i r.Qb.length (Qh Qm r.Qb) Try.t54.size (tQ r i),XS i (↑r.Qb.length:Int)=true]++([]:List Prop)
def ua(r:Qi)(i:Int)(Qs:Nat->Value):QD:=[(4,ZF),(8,Qk.tidx i.toNat (tQ r i))]
def lh(B:Lo)(r:Qi)(i:Int)(Qs:Nat->Value):List Prop:=[Q6 []/\Q0 YP J0 55 (tL r i) (.bool true)]++lj B r i Qs
def tZ(r:Qi)(i:Int)(Qs:Nat->Value):QD:=ua r i Qs++[(14,Qk.pure (.bool true) [])]
def kZ(B:Lo)(r:Qi)(i:Int)(Qs:Nat->Value):List Prop:=[Q6 []/\Q0 YP J0 55 (tJ r i) (.bool true)]++lh B r i Qs
def tY(r:Qi)(i:Int)(Qs:Nat->Value):QD:=tZ r i Qs++[(19,Qk.pure (.bool true) [])]
def kY(B:Lo)(r:Qi)(i:Int)(Qs:Nat->Value):List Prop:=[Q6 []/\Q0 YP J0 55 (p8 r i) (.bool true)]++kZ B r i Qs
def tX(r:Qi)(i:Int)(Qs:Nat->Value):QD:=tY r i Qs++[(25,Qk.pure (.bool true) [])]
def kX(B:Lo)(r:Qi)(i:Int)(Qs:Nat->Value):List Prop:=[Q6 []/\Q0 YP J0 56 (tN r i) (.bool true)]++kY B r i Qs
def tW(r:Qi)(i:Int)(Qs:Nat->Value):QD:=tX r i Qs++[(31,Qk.pure (.bool true) [])]
def kW(B:Lo)(r:Qi)(i:Int)(Qs:Nat->Value):List Prop:=[wq ((↑r.Qb.length:Int)-1)=(↑r.Qb.length:Int)-1,Q6 []/\Q0 YP J0 55 (pz r i) (.bool true)]++kX B r i Qs
def tV(r:Qi)(i:Int)(Qs:Nat->Value):QD:=tW r i Qs++[(37,Qk.pure (.bool true) []),(46,WV ((↑r.Qb.length:Int)-1))]
def kV(B:Lo)(r:Qi)(i:Int)(Qs:Nat->Value):List Prop:=[Q6 []/\Q0 YP J0 55 (tM r i) (.bool true)]++kW B r i Qs
def tU(r:Qi)(i:Int)(Qs:Nat->Value):QD:=tV r i Qs++[(47,Qk.pure (.bool true) [])]
theorem F7(B:Lo)(r:Qi)(i:Int)(Qs:Nat->Value):QW (Qu YP (Q9 YP) J0 B 16 1 (QK 20 111 (([1,3]:List Nat).zip (Z2 r i)) Qs Z3) (QH (X3 r i)) (2+(X3 r i).length)
 (tU r i Qs++[(54,ZF)]) 0 [] []) []=some (.bool false,
 [Y6 (Qf.Zt (r.Qb.getD i.toNat NZ)) i=true]++kV B r i Qs):=by kernel_rfl
def kU(B:Lo)(r:Qi)(i:Int)(Qs:Nat->Value):List Prop:=[Y6 (Qf.Zt (r.Qb.getD i.toNat NZ)) i=false]++kV B r i Qs
def tT(r:Qi)(i:Int)(Qs:Nat->Value):QD:=tU r i Qs++[(54,Wm)]
def kT(B:Lo)(r:Qi)(i:Int)(Qs:Nat->Value):List Prop:=[Q6 []/\Q0 YP J0 56 (tP r i) (.bool true)]++kU B r i Qs
def tS(r:Qi)(i:Int)(Qs:Nat->Value):QD:=tT r i Qs++[(59,Qk.pure (.bool true) [])]
def kS(B:Lo)(r:Qi)(i:Int)(Qs:Nat->Value):List Prop:=[Q6 []/\Q0 YP J0 56 (tO r i) (.bool true)]++kT B r i Qs
def tR(r:Qi)(i:Int)(Qs:Nat->Value):QD:=tS r i Qs++[(65,Qk.pure (.bool true) [])]
theorem F6(B:Lo)(r:Qi)(i:Int)(Qs:Nat->Value):let a:=r.Qb.getD i.toNat NZ;QW (Qu YP (Q9 YP) J0 B 16 1 (QK 20 111 (([1,3]:List Nat).zip (Z2 r i)) Qs Z3) (QH (X3 r i)) (2+(X3 r i).length)
 (tR r i Qs++[(75,ZF)]) 0 [] []) []=some (.bool false,
 [XS a.Pe a.JU=true]++kS B r i Qs):=by intro a;kernel_rfl
def fV(B:Lo)(r:Qi)(i:Int)(Qs:Nat->Value):List Prop:=[XS (Qf.Pe (r.Qb.getD i.toNat NZ)) (Qf.JU (r.Qb.getD i.toNat NZ))=false]++kS B r i Qs
def pE(r:Qi)(i:Int)(Qs:Nat->Value):QD:=tR r i Qs++[(75,Wm)]
theorem F5(B:Lo)(r:Qi)(i:Int)(Qs:Nat->Value):let a:=r.Qb.getD i.toNat NZ;QW (Qu YP (Q9 YP) J0 B 16 1 (QK 20 111 (([1,3]:List Nat).zip (Z2 r i)) Qs Z3) (QH (X3 r i)) (2+(X3 r i).length)
 (pE r i Qs++[(84,ZF)]) 0 [] []) []=some (.bool false,
 [XS a.Pf a.JV=true]++fV B r i Qs):=by intro a;kernel_rfl
def fU(B:Lo)(r:Qi)(i:Int)(Qs:Nat->Value):List Prop:=[XS (Qf.Pf (r.Qb.getD i.toNat NZ)) (Qf.JV (r.Qb.getD i.toNat NZ))=false]++fV B r i Qs
def pD(r:Qi)(i:Int)(Qs:Nat->Value):QD:=pE r i Qs++[(84,Wm)]
theorem F3(B:Lo)(r:Qi)(i:Int)(Qs:Nat->Value):landM (Qu YP (Q9 YP) J0 B 16 1 (QK 20 111 (([1,3]:List Nat).zip (Z2 r i)) Qs Z3) (QH (X3 r i)) (2+(X3 r i).length)
 (pD r i Qs++[(89,Qk.pure (.bool true) []),(93,WV (i+1))]) 0 [] []) [1,3] [(2,KS.auto)] []=some ⟨20,111,Z3,[],.run,none,Z2 r (i+1),X3 r (i+1),
 [wq (i+1)=i+1,Q6 []/\Q0 YP J0 55 (tK r i) (.bool true)]++fU B r i Qs⟩:=by kernel_rfl
theorem F2(B:Lo)(r:Qi)(i:Int)(Qs:Nat->Value):QW (Qu YP (Q9 YP) J0 B 16 1 (QK 20 111 (([1,3]:List Nat).zip (Z2 r i)) Qs Z3) (QH (X3 r i)) (2+(X3 r i).length)
 (pD r i Qs++[(89,Qk.pure (.bool false) [])]) 0 [] []) []=some (.bool false,
 [Q6 []/\Q0 YP J0 55 (tK r i) (.bool false)]++fU B r i Qs):=by kernel_rfl
theorem F1(B:Lo)(r:Qi)(i:Int)(Qs:Nat->Value):QW (Qu YP (Q9 YP) J0 B 16 1 (QK 20 111 (([1,3]:List Nat).zip (Z2 r i)) Qs Z3) (QH (X3 r i)) (2+(X3 r i).length)
 (tS r i Qs++[(65,Qk.pure (.bool false) [])]) 0 [] []) []=some (.bool false,
 [Q6 []/\Q0 YP J0 56 (tO r i) (.bool false)]++kT B r i Qs):=by kernel_rfl
theorem F0(B:Lo)(r:Qi)(i:Int)(Qs:Nat->Value):QW (Qu YP (Q9 YP) J0 B 16 1 (QK 20 111 (([1,3]:List Nat).zip (Z2 r i)) Qs Z3) (QH (X3 r i)) (2+(X3 r i).length)
 (tT r i Qs++[(59,Qk.pure (.bool false) [])]) 0 [] []) []=some (.bool false,
 [Q6 []/\Q0 YP J0 56 (tP r i) (.bool false)]++kU B r i Qs):=by kernel_rfl
theorem Fy(B:Lo)(r:Qi)(i:Int)(Qs:Nat->Value):QW (Qu YP (Q9 YP) J0 B 16 1 (QK 20 111 (([1,3]:List Nat).zip (Z2 r i)) Qs Z3) (QH (X3 r i)) (2+(X3 r i).length)
 (tV r i Qs++[(47,Qk.pure (.bool false) [])]) 0 [] []) []=some (.bool false,
 [Q6 []/\Q0 YP J0 55 (tM r i) (.bool false)]++kW B r i Qs):=by kernel_rfl
theorem Fx(B:Lo)(r:Qi)(i:Int)(Qs:Nat->Value):QW (Qu YP (Q9 YP) J0 B 16 1 (QK 20 111 (([1,3]:List Nat).zip (Z2 r i)) Qs Z3) (QH (X3 r i)) (2+(X3 r i).length)
 (tW r i Qs++[(37,Qk.pure (.bool false) [])]) 0 [] []) []=some (.bool false,
 [Q6 []/\Q0 YP J0 55 (pz r i) (.bool false)]++kX B r i Qs):=by kernel_rfl
theorem Fw(B:Lo)(r:Qi)(i:Int)(Qs:Nat->Value):QW (Qu YP (Q9 YP) J0 B 16 1 (QK 20 111 (([1,3]:List Nat).zip (Z2 r i)) Qs Z3) (QH (X3 r i)) (2+(X3 r i).length)
 (tX r i Qs++[(31,Qk.pure (.bool false) [])]) 0 [] []) []=some (.bool false,
 [Q6 []/\Q0 YP J0 56 (tN r i) (.bool false)]++kY B r i Qs):=by kernel_rfl
theorem C5(B:Lo)(r:Qi)(i:Int)(Qs:Nat->Value):QW (Qu YP (Q9 YP) J0 B 16 1 (QK 20 111 (([1,3]:List Nat).zip (Z2 r i)) Qs Z3) (QH (X3 r i)) (2+(X3 r i).length)
 (tY r i Qs++[(25,Qk.pure (.bool false) [])]) 0 [] []) []=some (.bool false,
 [Q6 []/\Q0 YP J0 55 (p8 r i) (.bool false)]++kZ B r i Qs):=by kernel_rfl
theorem C4(B:Lo)(r:Qi)(i:Int)(Qs:Nat->Value):QW (Qu YP (Q9 YP) J0 B 16 1 (QK 20 111 (([1,3]:List Nat).zip (Z2 r i)) Qs Z3) (QH (X3 r i)) (2+(X3 r i).length)
 (tZ r i Qs++[(19,Qk.pure (.bool false) [])]) 0 [] []) []=some (.bool false,
 [Q6 []/\Q0 YP J0 55 (tJ r i) (.bool false)]++lh B r i Qs):=by kernel_rfl
theorem C3(B:Lo)(r:Qi)(i:Int)(Qs:Nat->Value):QW (Qu YP (Q9 YP) J0 B 16 1 (QK 20 111 (([1,3]:List Nat).zip (Z2 r i)) Qs Z3) (QH (X3 r i)) (2+(X3 r i).length)
 (ua r i Qs++[(14,Qk.pure (.bool false) [])]) 0 [] []) []=some (.bool false,
 [Q6 []/\Q0 YP J0 55 (tL r i) (.bool false)]++lj B r i Qs):=by kernel_rfl
def fT(B:Lo)(r:Qi)(i:Int)(Qs:Nat->Value):List Prop:=[XS i (↑r.Qb.length:Int)=false]++([]:List Prop)
def pC(r:Qi)(i:Int)(Qs:Nat->Value):QD:=[(4,Wm)]
def fS(B:Lo)(r:Qi)(i:Int)(Qs:Nat->Value):List Prop:=[Q6 []/\Q0 YP J0 55 (py r) (.bool true)]++fT B r i Qs
def pB(r:Qi)(i:Int)(Qs:Nat->Value):QD:=pC r i Qs++[(8,Qk.pure (.bool true) [])]
def fR(B:Lo)(r:Qi)(i:Int)(Qs:Nat->Value):List Prop:=[Q6 []/\Q0 YP J0 55 (px r) (.bool true)]++fS B r i Qs
def p9(r:Qi)(i:Int)(Qs:Nat->Value):QD:=pB r i Qs++[(12,Qk.pure (.bool true) [])]
theorem C2(B:Lo)(r:Qi)(i:Int)(Qs:Nat->Value):QW (Qu YP (Q9 YP) J0 B 9 1 (QK 20 111 (([1,3]:List Nat).zip (Z2 r i)) Qs Z3) (QH (X3 r i)) (2+(X3 r i).length)
 (p9 r i Qs++[(17,Qk.pure (.bool true) [])]) 0 [] []) []=some (.bool true,
 [Q6 []/\Q0 YP J0 55 (pw r) (.bool true)]++fR B r i Qs):=by kernel_rfl
theorem C1(B:Lo)(r:Qi)(i:Int)(Qs:Nat->Value):QW (Qu YP (Q9 YP) J0 B 9 1 (QK 20 111 (([1,3]:List Nat).zip (Z2 r i)) Qs Z3) (QH (X3 r i)) (2+(X3 r i).length)
 (p9 r i Qs++[(17,Qk.pure (.bool false) [])]) 0 [] []) []=some (.bool false,
 [Q6 []/\Q0 YP J0 55 (pw r) (.bool false)]++fR B r i Qs):=by kernel_rfl
theorem C0(B:Lo)(r:Qi)(i:Int)(Qs:Nat->Value):QW (Qu YP (Q9 YP) J0 B 9 1 (QK 20 111 (([1,3]:List Nat).zip (Z2 r i)) Qs Z3) (QH (X3 r i)) (2+(X3 r i).length)
 (pB r i Qs++[(12,Qk.pure (.bool false) [])]) 0 [] []) []=some (.bool false,
 [Q6 []/\Q0 YP J0 55 (px r) (.bool false)]++fS B r i Qs):=by kernel_rfl
theorem Cz(B:Lo)(r:Qi)(i:Int)(Qs:Nat->Value):QW (Qu YP (Q9 YP) J0 B 9 1 (QK 20 111 (([1,3]:List Nat).zip (Z2 r i)) Qs Z3) (QH (X3 r i)) (2+(X3 r i).length)
 (pC r i Qs++[(8,Qk.pure (.bool false) [])]) 0 [] []) []=some (.bool false,
 [Q6 []/\Q0 YP J0 55 (py r) (.bool false)]++fT B r i Qs):=by kernel_rfl
theorem Cy(B:Lo)(r:Qi):landM (Qu YP (Q9 YP) J0 B 7 1 (Qx YP 20 111 (([.agg (Q5 r).toArray]).map (Q8 0 4))) Zf 1
 [] 0 [] []) [1,3] [(1,KS.auto)] []=some ⟨20,111,Z3,[],.run,none,Z2 r (0),X3 r (0),
 []⟩:=by kernel_rfl
set_option maxHeartbeats 4000000 in
theorem F8(r:Qi)  (X8:r.Qb.length<=9223372036854775807){B:Lo}(hJ:∀w,B.has w->J0 w){c0:CF}:∀m:Nat,(∀(i:Int),r.Qb.length-i.toNat=m->∀(h0:0<=i),F9 B c0 r i->EndsT YP B c0 (.bool (Rp r.Qb i && PK r))):=by
 intro m0;induction m0 using Ox with
 |_ m0 ih0=>
  intro i JP h0 ⟨Qs,ZV,XF⟩;have s3:=IV (n:=r.Qb.length) (v:=(r.Qb.getD i.toNat NZ).Zt) (by omega);by_cases q0:(i:Int)<((↑r.Qb.length:Int))
  ·have V5:Q6 (lj B r i Qs):=by
    have s2:=Xe (ps:=r.Qb) q0;exact⟨⟨by omega,by omega,(QB (z:=12) (fun _=>rfl) (by omega))⟩,⟨(XC q0),trivial⟩⟩
   cases q1:V0 (Qf.count (r.Qb.getD i.toNat NZ)) 0 1000000 with
   |true=>
    have Kj:Q6 (lh B r i Qs):=by
     have s2:=Xe (ps:=r.Qb) q0;exact⟨⟨trivial,(by have t_:=jD (Qf.count (r.Qb.getD i.toNat NZ)) (0) (1000000);rw[q1]at t_;exact t_)⟩,V5⟩
    cases q2:V0 (Qf.room (r.Qb.getD i.toNat NZ)) 0 1000000 with
    |true=>
     have Ph:Q6 (kZ B r i Qs):=by
      have s2:=Xe (ps:=r.Qb) q0;exact⟨⟨trivial,(by have t_:=jD (Qf.room (r.Qb.getD i.toNat NZ)) (0) (1000000);rw[q2]at t_;exact t_)⟩,Kj⟩
     cases q3:V0 (Qf.goal (r.Qb.getD i.toNat NZ)) 0 1000000 with
     |true=>
      have hp3:Q6 (kY B r i Qs):=by
       have s2:=Xe (ps:=r.Qb) q0;exact⟨⟨trivial,(by have t_:=jD (Qf.goal (r.Qb.getD i.toNat NZ)) (0) (1000000);rw[q3]at t_;exact t_)⟩,Ph⟩
      cases q4:WO (Qf.glo (r.Qb.getD i.toNat NZ)) (Qf.ghi (r.Qb.getD i.toNat NZ)) 0 2000 with
      |true=>
       have hp4:Q6 (kX B r i Qs):=by
        have s2:=Xe (ps:=r.Qb) q0;exact⟨⟨trivial,(by have t_:=pt (Qf.glo (r.Qb.getD i.toNat NZ)) (Qf.ghi (r.Qb.getD i.toNat NZ)) (2000);rw[q4]at t_;exact t_)⟩,hp3⟩
       cases q5:V0 (Qf.Xs (r.Qb.getD i.toNat NZ)) 0 1000 with
       |true=>
        have hp5:Q6 (kW B r i Qs):=by
         have s2:=Xe (ps:=r.Qb) q0;exact⟨(Xq (by omega) (by omega)),⟨⟨trivial,(by have t_:=jD (Qf.Xs (r.Qb.getD i.toNat NZ)) (0) (1000);rw[q5]at t_;exact t_)⟩,hp4⟩⟩
        cases q6:V0 (Qf.Zt (r.Qb.getD i.toNat NZ)) (-1) ((↑r.Qb.length:Int)-1)with
        |true=>
         have hp6:Q6 (kV B r i Qs):=by
          have s2:=Xe (ps:=r.Qb) q0;exact⟨⟨trivial,(by have t_:=jD (Qf.Zt (r.Qb.getD i.toNat NZ)) (-1) ((↑r.Qb.length:Int)-1);rw[q6]at t_;exact t_)⟩,hp5⟩
         by_cases q7:(Qf.Zt (r.Qb.getD i.toNat NZ):Int)=(i)
         ·have s2:=Xe (ps:=r.Qb) q0;exact(GoE.endsT okF hJ Qg XF (F7 B r i Qs)
           ⟨(aX q7),hp6⟩).cast (by(rw[s2];rw[s3]at *;simp_all[ZL,Zy];done))
         ·have hp7:Q6 (kU B r i Qs):=by
           exact⟨(aY q7),hp6⟩
          cases q8:WO (Qf.Pe (r.Qb.getD i.toNat NZ)) (Qf.Pf (r.Qb.getD i.toNat NZ)) 0 1000000 with
          |true=>
           have hp8:Q6 (kT B r i Qs):=by
            have s2:=Xe (ps:=r.Qb) q0;exact⟨⟨trivial,(by have t_:=pt (Qf.Pe (r.Qb.getD i.toNat NZ)) (Qf.Pf (r.Qb.getD i.toNat NZ)) (1000000);rw[q8]at t_;exact t_)⟩,hp7⟩
           cases q9:WO (Qf.JU (r.Qb.getD i.toNat NZ)) (Qf.JV (r.Qb.getD i.toNat NZ)) 0 1000000 with
           |true=>
            have hp9:Q6 (kS B r i Qs):=by
             have s2:=Xe (ps:=r.Qb) q0;exact⟨⟨trivial,(by have t_:=pt (Qf.JU (r.Qb.getD i.toNat NZ)) (Qf.JV (r.Qb.getD i.toNat NZ)) (1000000);rw[q9]at t_;exact t_)⟩,hp8⟩
            by_cases q10:(Qf.Pe (r.Qb.getD i.toNat NZ):Int)<(Qf.JU (r.Qb.getD i.toNat NZ))
            ·have s2:=Xe (ps:=r.Qb) q0;exact(GoE.endsT okF hJ Qg XF (F6 B r i Qs)
              ⟨(XC q10),hp9⟩).cast (by(rw[s2];rw[s3]at *;simp_all[ZL,Zy];omega))
            ·have hp10:Q6 (fV B r i Qs):=by
              exact⟨(XO (Int.not_lt.1 q10)),hp9⟩
             by_cases q11:(Qf.Pf (r.Qb.getD i.toNat NZ):Int)<(Qf.JV (r.Qb.getD i.toNat NZ))
             ·have s2:=Xe (ps:=r.Qb) q0;exact(GoE.endsT okF hJ Qg XF (F5 B r i Qs)
               ⟨(XC q11),hp10⟩).cast (by(rw[s2];rw[s3]at *;simp_all[ZL,Zy];omega))
             ·have hp11:Q6 (fU B r i Qs):=by
               exact⟨(XO (Int.not_lt.1 q11)),hp10⟩
              cases q12:V0 (Qf.Uk (r.Qb.getD i.toNat NZ)) 0 1000000 with
              |true=>
               have s2:=Xe (ps:=r.Qb) q0;exact((ih0 _ (by omega)) (i+1) rfl (by omega)
                (XF.landM okF hJ Qg (F3 B r i Qs)
                ⟨(Xq (by omega) (by omega)),⟨⟨trivial,(by have t_:=jD (Qf.Uk (r.Qb.getD i.toNat NZ)) (0) (1000000);rw[q12]at t_;exact t_)⟩,hp11⟩⟩ (by kernel_rfl) (by kernel_rfl))).cast (by(rw[s2];rw[s3]at *;simp_all[ZL,Zy];done))
              |false=>
               have s2:=Xe (ps:=r.Qb) q0;exact(GoE.endsT okF hJ Qg XF (F2 B r i Qs)
                ⟨⟨trivial,(by have t_:=jD (Qf.Uk (r.Qb.getD i.toNat NZ)) (0) (1000000);rw[q12]at t_;exact t_)⟩,hp11⟩).cast (by(rw[s2];rw[s3]at *;simp_all[ZL,Zy];done))
           |false=>
            have s2:=Xe (ps:=r.Qb) q0;exact(GoE.endsT okF hJ Qg XF (F1 B r i Qs)
             ⟨⟨trivial,(by have t_:=pt (Qf.JU (r.Qb.getD i.toNat NZ)) (Qf.JV (r.Qb.getD i.toNat NZ)) (1000000);rw[q9]at t_;exact t_)⟩,hp8⟩).cast (by(rw[s2];rw[s3]at *;simp_all[ZL,Zy];done))
          |false=>
           have s2:=Xe (ps:=r.Qb) q0;exact(GoE.endsT okF hJ Qg XF (F0 B r i Qs)
            ⟨⟨trivial,(by have t_:=pt (Qf.Pe (r.Qb.getD i.toNat NZ)) (Qf.Pf (r.Qb.getD i.toNat NZ)) (1000000);rw[q8]at t_;exact t_)⟩,hp7⟩).cast (by(rw[s2];rw[s3]at *;simp_all[ZL,Zy];done))
        |false=>
         have s2:=Xe (ps:=r.Qb) q0;exact(GoE.endsT okF hJ Qg XF (Fy B r i Qs)
          ⟨⟨trivial,(by have t_:=jD (Qf.Zt (r.Qb.getD i.toNat NZ)) (-1) ((↑r.Qb.length:Int)-1);rw[q6]at t_;exact t_)⟩,hp5⟩).cast (by(rw[s2];rw[s3]at *;simp_all[ZL,Zy];done))
       |false=>
        have s2:=Xe (ps:=r.Qb) q0;exact(GoE.endsT okF hJ Qg XF (Fx B r i Qs)
         ⟨⟨trivial,(by have t_:=jD (Qf.Xs (r.Qb.getD i.toNat NZ)) (0) (1000);rw[q5]at t_;exact t_)⟩,hp4⟩).cast (by(rw[s2];rw[s3]at *;simp_all[ZL,Zy];done))
      |false=>
       have s2:=Xe (ps:=r.Qb) q0;exact(GoE.endsT okF hJ Qg XF (Fw B r i Qs)
        ⟨⟨trivial,(by have t_:=pt (Qf.glo (r.Qb.getD i.toNat NZ)) (Qf.ghi (r.Qb.getD i.toNat NZ)) (2000);rw[q4]at t_;exact t_)⟩,hp3⟩).cast (by(rw[s2];rw[s3]at *;simp_all[ZL,Zy];done))
     |false=>
      have s2:=Xe (ps:=r.Qb) q0;exact(GoE.endsT okF hJ Qg XF (C5 B r i Qs)
       ⟨⟨trivial,(by have t_:=jD (Qf.goal (r.Qb.getD i.toNat NZ)) (0) (1000000);rw[q3]at t_;exact t_)⟩,Ph⟩).cast (by(rw[s2];rw[s3]at *;simp_all[ZL,Zy];done))
    |false=>
     have s2:=Xe (ps:=r.Qb) q0;exact(GoE.endsT okF hJ Qg XF (C4 B r i Qs)
      ⟨⟨trivial,(by have t_:=jD (Qf.room (r.Qb.getD i.toNat NZ)) (0) (1000000);rw[q2]at t_;exact t_)⟩,Kj⟩).cast (by(rw[s2];rw[s3]at *;simp_all[ZL,Zy];done))
   |false=>
    have s2:=Xe (ps:=r.Qb) q0;exact(GoE.endsT okF hJ Qg XF (C3 B r i Qs)
     ⟨⟨trivial,(by have t_:=jD (Qf.count (r.Qb.getD i.toNat NZ)) (0) (1000000);rw[q1]at t_;exact t_)⟩,V5⟩).cast (by(rw[s2];rw[s3]at *;simp_all[ZL,Zy];done))
  ·have hp12:Q6 (fT B r i Qs):=by
    exact⟨(XO (Int.not_lt.1 q0)),trivial⟩
   cases q1:V0 (↑r.Qb.length:Int) 1 4 with
   |true=>
    have hp13:Q6 (fS B r i Qs):=by
     have s2:=Ux (ps:=r.Qb) (i:=i) (by omega);exact⟨⟨trivial,(by have t_:=jD ((↑r.Qb.length:Int)) (1) (4);rw[q1]at t_;exact t_)⟩,hp12⟩
    cases q2:V0 r.Qc 0 2000 with
    |true=>
     have hp14:Q6 (fR B r i Qs):=by
      have s2:=Ux (ps:=r.Qb) (i:=i) (by omega);exact⟨⟨trivial,(by have t_:=jD r.Qc (0) (2000);rw[q2]at t_;exact t_)⟩,hp13⟩
     cases q3:V0 r.Qd 1 4 with
     |true=>
      have s2:=Ux (ps:=r.Qb) (i:=i) (by omega);exact(GoE.endsT okF hJ Qg XF (C2 B r i Qs)
       ⟨⟨trivial,(by have t_:=jD r.Qd (1) (4);rw[q3]at t_;exact t_)⟩,hp14⟩).cast (by(rw[s2];simp_all[PK];done))
     |false=>
      have s2:=Ux (ps:=r.Qb) (i:=i) (by omega);exact(GoE.endsT okF hJ Qg XF (C1 B r i Qs)
       ⟨⟨trivial,(by have t_:=jD r.Qd (1) (4);rw[q3]at t_;exact t_)⟩,hp14⟩).cast (by(rw[s2];simp_all[PK];done))
    |false=>
     have s2:=Ux (ps:=r.Qb) (i:=i) (by omega);exact(GoE.endsT okF hJ Qg XF (C0 B r i Qs)
      ⟨⟨trivial,(by have t_:=jD r.Qc (0) (2000);rw[q2]at t_;exact t_)⟩,hp13⟩).cast (by(rw[s2];simp_all[PK];done))
   |false=>
    have s2:=Ux (ps:=r.Qb) (i:=i) (by omega);exact(GoE.endsT okF hJ Qg XF (Cz B r i Qs)
     ⟨⟨trivial,(by have t_:=jD ((↑r.Qb.length:Int)) (1) (4);rw[q1]at t_;exact t_)⟩,hp12⟩).cast (by(rw[s2];simp_all[PK];done))
set_option maxHeartbeats 4000000 in
theorem Io(r:Qi)  (X8:r.Qb.length<=9223372036854775807){B:Lo}(hJ:∀w,B.has w->J0 w):EndsT YP B (Qx YP 20 111 (([.agg (Q5 r).toArray]).map (Q8 0 4))) (.bool (QC r)):=by
 exact((F8 r X8 hJ _) (0) rfl (by omega)
  (GoE.start.landM okF hJ Qg (Cy B r)
  trivial (by kernel_rfl) (by kernel_rfl))).cast (by(simp only[QC];rw[Bool.and_comm];done))
theorem Lz(r:Qi)  :Q0 YP J0 20 #[.agg (Q5 r).toArray] (.bool (QC r)):=
 Vj (ts:=[.agg (Q5 r).toArray]) (r.Qb.length<=9223372036854775807) (fun _ _ ht=>ht.ln2 (i:=0) (j:=0) rfl rfl) Zh (c0:=Qx YP 20 111 (([.agg (Q5 r).toArray]).map (Q8 0 4))) (by kernel_rfl) (by kernel_rfl) fun X8 B hJ=>Io r  X8 hJ
end
end Go.Proofs.Ytncjjangllkokaa

namespace Go.Proofs.Ytncjjangllkokaa
open Go Go.CE Go.RowKit
noncomputable section
set_option maxRecDepth 100000
theorem Mh:((VO 0:Nat):Int)=1:=rfl
theorem CQ{i:Int}(h:0<=i):((VO (i+1):Nat):Int)=2*((VO i:Nat):Int):=by
 unfold VO;rw[show(i+1).toNat=i.toNat+1 by omega,Nat.pow_succ];omega
def hasB(n k:Int):Bool:=n.toNat.testBit k.toNat
theorem Hl{n k:Int}(hn:0<=n)(hk:1<=k):hasB n k=hasB (n / 2) (k-1):=by
 unfold hasB;obtain⟨j,hj⟩:∃j,k.toNat=j+1:=⟨k.toNat-1,by omega⟩
 rw[hj,show(k-1).toNat=j by omega,Nat.testBit_succ,show(n / 2).toNat=n.toNat / 2 by omega]
theorem Nq{n:Int}(hn:0<=n):hasB n 0=decide (n % 2=1):=by
 unfold hasB;rw[show(0:Int).toNat=0 from rfl,Nat.testBit_zero];exact decide_eq_decide.2 (by omega)
theorem qN{n k:Int}:decide (((sI ((cz n k:Nat):Int) 1:Nat):Int)=1)=hasB n k:=by
 unfold hasB sI cz;rw[Int.toNat_natCast,show(1:Int).toNat=1 from rfl,Nat.and_one_is_mod,Nat.shiftRight_eq_div_pow,Nat.testBit_eq_decide_div_mod_eq];exact decide_eq_decide.2 (by omega)
def QL(r:Qi)(Qa:List Int):List Value:=[KN r.Qb,.int .i64 r.Qc,.int .i64 r.Qd,.int .i64 (Qa.getD 0 0),.int .i64 (Qa.getD 1 0),.int .i64 (Qa.getD 2 0),.int .i64 (Qa.getD 3 0)]
theorem Xn{r:Qi}{Qa:List Int}(h:QV r Qa=true):Qa.length=r.Qd/\∀x∈Qa,0<=x/\x<VO r.Qb.length:=by
 simp only[QV,YB,decide_eq_true_iff,List.all_eq_true,R9]at h;exact⟨h.1,fun x hx=>by have:=h.2 x hx;omega⟩
def TL(r:Qi)(s i:Int):List Value:=[pA 2 0,.int .i64 s,.int .i64 i]
def Jp(r:Qi)(s i:Int):List Obj:=[Obj.cells #[Q2 1 (QI r.Qb.length (Qh Qm r.Qb)),.int .i64 r.Qc,.int .i64 r.Qd] 24]
def TM:List Item:=([.code [1,1,0,1,0,0],.inLoop [1,1,0,1,0,0],.inBlock 0,.code [1,1,1]]).map (it (QP YP 69))
def Fu(B:Lo)(c0:CF)(r:Qi)(s i:Int):Prop:=∃dJ:Nat->Value,(∀t,Xy (dJ t))/\GoE YP B c0 Zf 1 (QK 69 15 (([1,3,4]:List Nat).zip (TL r s i)) dJ TM) (QH (Jp r s i)) (2+(Jp r s i).length) []
theorem Fs(B:Lo)(r:Qi)(s i:Int)(Qs:Nat->Value):landM (Qu YP (Q9 YP) J0 B 11 1 (QK 69 15 (([1,3,4]:List Nat).zip (TL r s i)) Qs TM) (QH (Jp r s i)) (2+(Jp r s i).length)
 [(4,ZF),(6,WV (2*s)),(9,WV (i+1))] 0 [] []) [1,3,4] [(2,KS.auto)] []=some ⟨69,15,TM,[],.run,none,TL r (2*s) (i+1),Jp r (2*s) (i+1),
 [wq (i+1)=i+1,wq (2*s)=2*s,XS i (↑r.Qb.length:Int)=true]⟩:=by kernel_rfl
theorem Fq(B:Lo)(r:Qi)(s i:Int)(Qs:Nat->Value):QW (Qu YP (Q9 YP) J0 B 9 1 (QK 69 15 (([1,3,4]:List Nat).zip (TL r s i)) Qs TM) (QH (Jp r s i)) (2+(Jp r s i).length)
 [(4,Wm)] 0 [] []) []=some (.int .i64 s,
 [XS i (↑r.Qb.length:Int)=false]):=by kernel_rfl
theorem Fp(B:Lo)(r:Qi):landM (Qu YP (Q9 YP) J0 B 9 1 (Qx YP 69 15 (([.agg (Q5 r).toArray]).map (Q8 0 4))) Zf 1
 [] 0 [] []) [1,3,4] [(1,KS.auto)] []=some ⟨69,15,TM,[],.run,none,TL r (1) (0),Jp r (1) (0),
 []⟩:=by kernel_rfl
set_option maxHeartbeats 4000000 in
theorem Ft(r:Qi)(hn:r.Qb.length<=61){B:Lo}(hJ:∀w,B.has w->J0 w){c0:CF}:∀m:Nat,(∀(s i:Int),r.Qb.length-i.toNat=m->∀(h0:0<=i) (h1:i<=r.Qb.length) (hs:s=((VO i:Nat):Int)),Fu B c0 r s i->EndsT YP B c0 (.int .i64 ((VO r.Qb.length:Nat):Int))):=by
 intro m0;induction m0 using Ox with
 |_ m0 ih0=>
  intro s i JP h0 h1 hs ⟨Qs,ZV,XF⟩;have e1:=To (n:=i) (by omega);have e2:=CQ (i:=i) h0;by_cases q0:(i:Int)<((↑r.Qb.length:Int))
  ·have e3:=To (n:=i+1) (by omega);exact((ih0 _ (by omega)) (2*s) (i+1) rfl (by omega) (by omega) (by omega)
    (XF.landM okF hJ Qg (Fs B r s i Qs)
    ⟨(Xq (by omega) (by omega)),⟨(Xq (by omega) (by omega)),⟨(XC q0),trivial⟩⟩⟩ (by kernel_rfl) (by kernel_rfl))).cast (by rfl)
  ·have e3:=To (n:=i+1) (by omega);exact(GoE.endsT okF hJ Qg XF (Fq B r s i Qs)
    ⟨(XO (Int.not_lt.1 q0)),trivial⟩).cast (by(rw[hs,show i=r.Qb.length by omega];done))
set_option maxHeartbeats 4000000 in
theorem Im(r:Qi)(hn:r.Qb.length<=61){B:Lo}(hJ:∀w,B.has w->J0 w):EndsT YP B (Qx YP 69 15 (([.agg (Q5 r).toArray]).map (Q8 0 4))) (.int .i64 ((VO r.Qb.length:Nat):Int)):=by
 exact((Ft r hn hJ _) (1) (0) rfl (by omega) (by omega) (by exact Mh.symm)
  (GoE.start.landM okF hJ Qg (Fp B r)
  trivial (by kernel_rfl) (by kernel_rfl))).cast (by rfl)
theorem MU(r:Qi)(hn:r.Qb.length<=61):Q0 YP J0 69 #[.agg (Q5 r).toArray] (.int .i64 ((VO r.Qb.length:Nat):Int)):=
 Xo (ts:=[.agg (Q5 r).toArray]) Zh (c0:=Qx YP 69 15 (([.agg (Q5 r).toArray]).map (Q8 0 4))) (by kernel_rfl) (by kernel_rfl) fun B hJ=>Im r hn hJ
def PQ(r:Qi)(Qa:List Int)(i:Int):List Value:=[Q2 1 (QI Qa.length (Qh QR Qa)),pA 2 0,.int .i64 i]
def VN(r:Qi)(Qa:List Int)(i:Int):List Obj:=[Obj.cells #[Q2 1 (QI r.Qb.length (Qh Qm r.Qb)),.int .i64 r.Qc,.int .i64 r.Qd] 24]
def PR:List Item:=([.code [1,0,1,0,0],.inLoop [1,0,1,0,0],.inBlock 0,.code [1,1]]).map (it (QP YP 41))
def FG(B:Lo)(c0:CF)(r:Qi)(Qa:List Int)(i:Int):Prop:=∃dJ:Nat->Value,(∀t,Xy (dJ t))/\GoE YP B c0 Zf 1 (QK 41 26 (([1,2,5]:List Nat).zip (PQ r Qa i)) dJ PR) (QH (VN r Qa i)) (2+(VN r Qa i).length) []
def uc(r:Qi)(Qa:List Int)(i:Int):Array Value:=#[.int .i64 (Qa.getD i.toNat NZ),.int .i64 0,.int .i64 ((↑(VO (↑r.Qb.length:Int)):Int)-1)]
def ub(r:Qi):Value:=(.int .i64 (↑(VO (↑r.Qb.length:Int)):Int))
def ll(B:Lo)(r:Qi)(Qa:List Int)(i:Int)(Qs:Nat->Value):List Prop:=let a:=Oc r.Qb;[wq ((↑(VO (↑a:Int)):Int)-1)=(↑(VO (↑a:Int)):Int)-1,Q6 []/\Q0 YP J0 69 #[.agg #[QI a (Qh Qm r.Qb),.int .i64 r.Qc,.int .i64 r.Qd]] (ub r),Yr i Qa.length (Qh QR Qa) Try.t3.size #[.int .i64 (Qa.getD i.toNat NZ)],XS i (↑Qa.length:Int)=true]++([]:List Prop)
def ue(r:Qi)(Qa:List Int)(i:Int)(Qs:Nat->Value):QD:=[(3,ZF),(6,Qk.tidx i.toNat #[.int .i64 (Qa.getD i.toNat NZ)]),(9,Qk.pure (ub r) []),(10,WV ((↑(VO (↑r.Qb.length:Int)):Int)-1))]
theorem FE(B:Lo)(r:Qi)(Qa:List Int)(i:Int)(Qs:Nat->Value):landM (Qu YP (Q9 YP) J0 B 14 1 (QK 41 26 (([1,2,5]:List Nat).zip (PQ r Qa i)) Qs PR) (QH (VN r Qa i)) (2+(VN r Qa i).length)
 (ue r Qa i Qs++[(11,Qk.pure (.bool true) []),(14,WV (i+1))]) 0 [] []) [1,2,5] [(2,KS.auto)] []=some ⟨41,26,PR,[],.run,none,PQ r Qa (i+1),VN r Qa (i+1),
 [wq (i+1)=i+1,Q6 []/\Q0 YP J0 55 (uc r Qa i) (.bool true)]++ll B r Qa i Qs⟩:=by kernel_rfl
theorem FD(B:Lo)(r:Qi)(Qa:List Int)(i:Int)(Qs:Nat->Value):QW (Qu YP (Q9 YP) J0 B 14 1 (QK 41 26 (([1,2,5]:List Nat).zip (PQ r Qa i)) Qs PR) (QH (VN r Qa i)) (2+(VN r Qa i).length)
 (ue r Qa i Qs++[(11,Qk.pure (.bool false) [])]) 0 [] []) []=some (.bool false,
 [Q6 []/\Q0 YP J0 55 (uc r Qa i) (.bool false)]++ll B r Qa i Qs):=by kernel_rfl
def lk(B:Lo)(r:Qi)(Qa:List Int)(i:Int)(Qs:Nat->Value):List Prop:=[XS i (↑Qa.length:Int)=false]++([]:List Prop)
def ud(r:Qi)(Qa:List Int)(i:Int)(Qs:Nat->Value):QD:=[(3,Wm)]
theorem FC(B:Lo)(r:Qi)(Qa:List Int)(i:Int)(Qs:Nat->Value):QW (Qu YP (Q9 YP) J0 B 9 1 (QK 41 26 (([1,2,5]:List Nat).zip (PQ r Qa i)) Qs PR) (QH (VN r Qa i)) (2+(VN r Qa i).length)
 (ud r Qa i Qs++[(8,ZF)]) 0 [] []) []=some (.bool true,
 [Y6 (↑Qa.length:Int) r.Qd=true]++lk B r Qa i Qs):=by kernel_rfl
theorem FB(B:Lo)(r:Qi)(Qa:List Int)(i:Int)(Qs:Nat->Value):QW (Qu YP (Q9 YP) J0 B 9 1 (QK 41 26 (([1,2,5]:List Nat).zip (PQ r Qa i)) Qs PR) (QH (VN r Qa i)) (2+(VN r Qa i).length)
 (ud r Qa i Qs++[(8,Wm)]) 0 [] []) []=some (.bool false,
 [Y6 (↑Qa.length:Int) r.Qd=false]++lk B r Qa i Qs):=by kernel_rfl
theorem FA(B:Lo)(r:Qi)(Qa:List Int):landM (Qu YP (Q9 YP) J0 B 7 1 (Qx YP 41 26 (([.agg (Q5 r).toArray,XI Qa]).map (Q8 0 4))) Zf 1
 [] 0 [] []) [1,2,5] [(1,KS.auto)] []=some ⟨41,26,PR,[],.run,none,PQ r Qa (0),VN r Qa (0),
 []⟩:=by kernel_rfl
set_option maxHeartbeats 4000000 in
theorem FF(r:Qi)(Qa:List Int)(hn:r.Qb.length<=61)(X8:Qa.length<=9223372036854775807){B:Lo}(hJ:∀w,B.has w->J0 w){c0:CF}:∀m:Nat,(∀(i:Int),Qa.length-i.toNat=m->∀(h0:0<=i),FG B c0 r Qa i->EndsT YP B c0 (.bool ((Qa.drop i.toNat).all (fun x=>V0 x 0 (((VO r.Qb.length:Nat):Int)-1)) && decide (Qa.length=r.Qd)))):=by
 intro m0;induction m0 using Ox with
 |_ m0 ih0=>
  intro i JP h0 ⟨Qs,ZV,XF⟩;have e1:=To (n:=r.Qb.length) (by omega);have e1:=To (n:=r.Qb.length) (by omega);by_cases q0:(i:Int)<((↑Qa.length:Int))
  ·have V5:Q6 (ll B r Qa i Qs):=by
    have s2:=Kl (l:=Qa) (p:=fun x=>V0 x 0 (((VO r.Qb.length:Nat):Int)-1)) h0 q0;exact⟨(Xq (by omega) (by omega)),⟨⟨trivial,MU (r) (by with_reducible assumption)⟩,⟨⟨by omega,by omega,(QB (z:=1) (fun _=>rfl) (by omega))⟩,⟨(XC q0),trivial⟩⟩⟩⟩
   cases q1:V0 (Qa.getD i.toNat NZ) 0 ((↑(VO (↑r.Qb.length:Int)):Int)-1)with
   |true=>
    have s2:=Kl (l:=Qa) (p:=fun x=>V0 x 0 (((VO r.Qb.length:Nat):Int)-1)) h0 q0;exact((ih0 _ (by omega)) (i+1) rfl (by omega)
     (XF.landM okF hJ Qg (FE B r Qa i Qs)
     ⟨(Xq (by omega) (by omega)),⟨⟨trivial,(by have t_:=jD (Qa.getD i.toNat NZ) (0) ((↑(VO (↑r.Qb.length:Int)):Int)-1);rw[q1]at t_;exact t_)⟩,V5⟩⟩ (by kernel_rfl) (by kernel_rfl))).cast (by(rw[s2];simp_all;done))
   |false=>
    have s2:=Kl (l:=Qa) (p:=fun x=>V0 x 0 (((VO r.Qb.length:Nat):Int)-1)) h0 q0;exact(GoE.endsT okF hJ Qg XF (FD B r Qa i Qs)
     ⟨⟨trivial,(by have t_:=jD (Qa.getD i.toNat NZ) (0) ((↑(VO (↑r.Qb.length:Int)):Int)-1);rw[q1]at t_;exact t_)⟩,V5⟩).cast (by(rw[s2];simp_all;done))
  ·have Kj:Q6 (lk B r Qa i Qs):=by
    exact⟨(XO (Int.not_lt.1 q0)),trivial⟩
   by_cases q1:((↑Qa.length:Int):Int)=r.Qd
   ·have s2:=bT (l:=Qa) (p:=fun x=>V0 x 0 (((VO r.Qb.length:Nat):Int)-1)) (i:=i) (by omega);exact(GoE.endsT okF hJ Qg XF (FC B r Qa i Qs)
     ⟨(aX q1),Kj⟩).cast (by(rw[s2];simp[*];done))
   ·have s2:=bT (l:=Qa) (p:=fun x=>V0 x 0 (((VO r.Qb.length:Nat):Int)-1)) (i:=i) (by omega);exact(GoE.endsT okF hJ Qg XF (FB B r Qa i Qs)
     ⟨(aY q1),Kj⟩).cast (by(rw[s2];simp[*];done))
set_option maxHeartbeats 4000000 in
theorem Ip(r:Qi)(Qa:List Int)(hn:r.Qb.length<=61)(X8:Qa.length<=9223372036854775807){B:Lo}(hJ:∀w,B.has w->J0 w):EndsT YP B (Qx YP 41 26 (([.agg (Q5 r).toArray,XI Qa]).map (Q8 0 4))) (.bool (QV r Qa)):=by
 have e1:=To (n:=r.Qb.length) (by omega);exact((FF r Qa hn X8 hJ _) (0) rfl (by omega)
  (GoE.start.landM okF hJ Qg (FA B r Qa)
  trivial (by kernel_rfl) (by kernel_rfl))).cast (by(simp[QV,Bool.and_comm];done))
theorem L0(r:Qi)(Qa:List Int)(hn:r.Qb.length<=61):Q0 YP J0 41 #[.agg (Q5 r).toArray,XI Qa] (.bool (QV r Qa)):=
 Vj (ts:=[.agg (Q5 r).toArray,XI Qa]) (Qa.length<=9223372036854775807) (fun _ _ ht=>ht.ln (i:=1) rfl) Zh (c0:=Qx YP 41 26 (([.agg (Q5 r).toArray,XI Qa]).map (Q8 0 4))) (by kernel_rfl) (by kernel_rfl) fun X8 B hJ=>Ip r Qa hn X8 hJ
def bt(n k:Int)(x i:Int):List Value:=[.int .i64 x,.int .i64 k,.int .i64 i]
def Ji(n k:Int)(x i:Int):List Obj:=[]
def bu:List Item:=([.code [1,0,1,0,0],.inLoop [1,0,1,0,0],.inBlock 0,.code [1,1]]).map (it (QP YP 47))
def Ix(B:Lo)(c0:CF)(n k:Int)(x i:Int):Prop:=∃dJ:Nat->Value,(∀t,Xy (dJ t))/\GoE YP B c0 Zf 1 (QK 47 16 (([0,1,5]:List Nat).zip (bt n k x i)) dJ bu) (QH (Ji n k x i)) (2+(Ji n k x i).length) []
theorem Iv(B:Lo)(n k:Int)(x i:Int)(Qs:Nat->Value):let a:=Od x 2;landM (Qu YP (Q9 YP) J0 B 11 1 (QK 47 16 (([0,1,5]:List Nat).zip (bt n k x i)) Qs bu) (QH (Ji n k x i)) (2+(Ji n k x i).length)
 [(2,ZF),(4,WV a),(7,WV (i+1))] 0 [] []) [0,1,5] [] []=some ⟨47,16,bu,[],.run,none,bt n k a (i+1),Ji n k a (i+1),
 [wq (i+1)=i+1,IntKind.wrap .i64 a=Od x 2,XS i k=true]⟩:=by intro a;kernel_rfl
def qS(B:Lo)(n k:Int)(x i:Int)(Qs:Nat->Value):List Prop:=[XS i k=false]++([]:List Prop)
def Bn(n k:Int)(x i:Int)(Qs:Nat->Value):QD:=[(2,Wm)]
theorem Iu(B:Lo)(n k:Int)(x i:Int)(Qs:Nat->Value):QW (Qu YP (Q9 YP) J0 B 9 1 (QK 47 16 (([0,1,5]:List Nat).zip (bt n k x i)) Qs bu) (QH (Ji n k x i)) (2+(Ji n k x i).length)
 (Bn n k x i Qs++[(5,ZF)]) 0 [] []) []=some (.bool true,
 [Y6 (Int.tmod x 2) 1=true]++qS B n k x i Qs):=by kernel_rfl
theorem Is(B:Lo)(n k:Int)(x i:Int)(Qs:Nat->Value):QW (Qu YP (Q9 YP) J0 B 9 1 (QK 47 16 (([0,1,5]:List Nat).zip (bt n k x i)) Qs bu) (QH (Ji n k x i)) (2+(Ji n k x i).length)
 (Bn n k x i Qs++[(5,Wm)]) 0 [] []) []=some (.bool false,
 [Y6 (Int.tmod x 2) 1=false]++qS B n k x i Qs):=by kernel_rfl
theorem Ir(B:Lo)(n k:Int):landM (Qu YP (Q9 YP) J0 B 7 1 (Qx YP 47 16 (([.int .i64 n,.int .i64 k]).map (Q8 0 4))) Zf 1
 [] 0 [] []) [0,1,5] [] []=some ⟨47,16,bu,[],.run,none,bt n k (n) (0),Ji n k (n) (0),
 []⟩:=by kernel_rfl
set_option maxHeartbeats 4000000 in
theorem Iw(n k:Int)(hn:0<=n/\n<=1000000000)(hk:0<=k/\k<=1000000000){B:Lo}(hJ:∀w,B.has w->J0 w){c0:CF}:∀m:Nat,(∀(x i:Int),(k-i).toNat=m->∀(h0:0<=i) (h1:i<=k) (h2:0<=x/\x<=1000000000) (hx:hasB x (k-i)=hasB n k),Ix B c0 n k x i->EndsT YP B c0 (.bool (hasB n k))):=by
 intro m0;induction m0 using Ox with
 |_ m0 ih0=>
  intro x i JP h0 h1 h2 hx ⟨Qs,ZV,XF⟩;have e1:x.tdiv 2=x / 2:=OI h2.1;have e2:x.tmod 2=x % 2:=Int.tmod_eq_emod_of_nonneg h2.1;have e4:=Nq (n:=x) h2.1;by_cases q0:(i:Int)<(k)
  ·have e3:=Hl (n:=x) (k:=k-i) h2.1 (by omega);exact((ih0 _ (by omega)) (Od x 2) (i+1) rfl (by omega) (by omega) (by omega) (by(rw[<-hx,e3,e1,show k-(i+1)=k-i-1 by omega];done))
    (XF.landM okF hJ Qg (Iv B n k x i Qs)
    ⟨(Xq (by omega) (by omega)),⟨(bg (by omega) (by omega)),⟨(XC q0),trivial⟩⟩⟩ (by kernel_rfl) (by kernel_rfl))).cast (by rfl)
  ·have V5:Q6 (qS B n k x i Qs):=by
    exact⟨(XO (Int.not_lt.1 q0)),trivial⟩
   by_cases q1:(Int.tmod x 2:Int)=(1)
   ·exact(GoE.endsT okF hJ Qg XF (Iu B n k x i Qs)
     ⟨(aX q1),V5⟩).cast (by(rw[<-hx,show k-i=0 by omega,e4];simp[*];omega))
   ·exact(GoE.endsT okF hJ Qg XF (Is B n k x i Qs)
     ⟨(aY q1),V5⟩).cast (by(rw[<-hx,show k-i=0 by omega,e4];simp[*];omega))
set_option maxHeartbeats 4000000 in
theorem LX(n k:Int)(hn:0<=n/\n<=1000000000)(hk:0<=k/\k<=1000000000){B:Lo}(hJ:∀w,B.has w->J0 w):EndsT YP B (Qx YP 47 16 (([.int .i64 n,.int .i64 k]).map (Q8 0 4))) (.bool (hasB n k)):=by
 exact((Iw n k hn hk hJ _) (n) (0) rfl (by omega) (by omega) (by with_reducible assumption) (by(simp_all;done))
  (GoE.start.landM okF hJ Qg (Ir B n k)
  trivial (by kernel_rfl) (by kernel_rfl))).cast (by rfl)
theorem MV(n k:Int)(hn:0<=n/\n<=1000000000)(hk:0<=k/\k<=1000000000):Q0 YP J0 47 #[.int .i64 n,.int .i64 k] (.bool (hasB n k)):=
 Xo (ts:=[.int .i64 n,.int .i64 k]) Zh (c0:=Qx YP 47 16 (([.int .i64 n,.int .i64 k]).map (Q8 0 4))) (by kernel_rfl) (by kernel_rfl) fun B hJ=>LX n k hn hk hJ
def lT(r:Qi)(Qa:List Int):Array Value:=#[QI Qa.length (Qh QR Qa),.int .i64 0,.int .i64 ((↑(VO (↑r.Qb.length:Int)):Int)-1)]
def lS(r:Qi):Value:=(.int .i64 (↑(VO (↑r.Qb.length:Int)):Int))
def cM(B:Lo)(r:Qi)(Qa:List Int):List Prop:=let a:=Oc r.Qb;[wq ((↑(VO (↑a:Int)):Int)-1)=(↑(VO (↑a:Int)):Int)-1,oG YP BinOp.shl 3 (.int .i64 1) (Zj {len:=16000,tr:=Tri.set 14 Tri.lf 14 (.int .i64 (↑a:Int))} 14) (lS r),Y6 (↑Qa.length:Int) r.Qd=true]++([]:List Prop)
def lU(r:Qi)(Qa:List Int):QD:=[(6,ZF),(12,Qk.bin (lS r)),(13,WV ((↑(VO (↑r.Qb.length:Int)):Int)-1))]
theorem z2(B:Lo)(r:Qi)(Qa:List Int):QW (Qu YP (Q9 YP) J0 B 6 1 (Qx YP 51 19 (([.agg (Q5 r).toArray,XI Qa]).map (Q8 0 4))) Zf 1
 (lU r Qa++[(14,Qk.pure (.bool true) [])]) 0 [] []) []=some (.bool true,
 [Q6 []/\Q0 YP J0 74 (lT r Qa) (.bool true)]++cM B r Qa):=by kernel_rfl
theorem z1(B:Lo)(r:Qi)(Qa:List Int):QW (Qu YP (Q9 YP) J0 B 6 1 (Qx YP 51 19 (([.agg (Q5 r).toArray,XI Qa]).map (Q8 0 4))) Zf 1
 (lU r Qa++[(14,Qk.pure (.bool false) [])]) 0 [] []) []=some (.bool false,
 [Q6 []/\Q0 YP J0 74 (lT r Qa) (.bool false)]++cM B r Qa):=by kernel_rfl
theorem z0(B:Lo)(r:Qi)(Qa:List Int):QW (Qu YP (Q9 YP) J0 B 6 1 (Qx YP 51 19 (([.agg (Q5 r).toArray,XI Qa]).map (Q8 0 4))) Zf 1
 [(6,Wm)] 0 [] []) []=some (.bool false,
 [Y6 (↑Qa.length:Int) r.Qd=false]):=by kernel_rfl
set_option maxHeartbeats 4000000 in
theorem Da(r:Qi)(Qa:List Int)(hn:r.Qb.length<=61)(X8:Qa.length<=9223372036854775807){B:Lo}(hJ:∀w,B.has w->J0 w):EndsT YP B (Qx YP 51 19 (([.agg (Q5 r).toArray,XI Qa]).map (Q8 0 4))) (.bool (QV r Qa)):=by
 have e1:=To (n:=r.Qb.length) (by omega);by_cases q0:((↑Qa.length:Int):Int)=r.Qd
 ·have V5:Q6 (cM B r Qa):=by
   exact⟨(Xq (by omega) (by omega)),⟨(HL (by omega) (by omega)),⟨(aX q0),trivial⟩⟩⟩
  cases q1:List.all Qa fun x=>V0 x 0 ((↑(VO (↑r.Qb.length:Int)):Int)-1)with
  |true=>
   exact(GoE.endsT okF hJ Qg GoE.start (z2 B r Qa)
    ⟨⟨trivial,(by have t_:=GO (Qa) (0) ((↑(VO (↑r.Qb.length:Int)):Int)-1);rw[q1]at t_;exact t_)⟩,V5⟩).cast (by(simp[QV, *];done))
  |false=>
   exact(GoE.endsT okF hJ Qg GoE.start (z1 B r Qa)
    ⟨⟨trivial,(by have t_:=GO (Qa) (0) ((↑(VO (↑r.Qb.length:Int)):Int)-1);rw[q1]at t_;exact t_)⟩,V5⟩).cast (by(simp[QV, *];done))
 ·exact(GoE.endsT okF hJ Qg GoE.start (z0 B r Qa)
   ⟨(aY q0),trivial⟩).cast (by(simp[QV, *];done))
theorem bF(r:Qi)(Qa:List Int)(hn:r.Qb.length<=61):Q0 YP J0 51 #[.agg (Q5 r).toArray,XI Qa] (.bool (QV r Qa)):=
 Vj (ts:=[.agg (Q5 r).toArray,XI Qa]) (Qa.length<=9223372036854775807) (fun _ _ ht=>ht.ln (i:=1) rfl) Zh (c0:=Qx YP 51 19 (([.agg (Q5 r).toArray,XI Qa]).map (Q8 0 4))) (by kernel_rfl) (by kernel_rfl) fun X8 B hJ=>Da r Qa hn X8 hJ
def dK(r:Qi):Value:=(QI r.Qb.length (Qh Qm r.Qb))
def dM(r:Qi)(Qa:List Int):Array Value:=#[Q2 0 (dK r),.int .i64 r.Qc,.int .i64 r.Qd,.int .i64 (Qa.getD 0 NZ),.int .i64 (Qa.getD 1 NZ),.int .i64 (Qa.getD 2 NZ),.int .i64 (Qa.getD 3 NZ)]
def dL(r:Qi):Array Value:=#[Q2 0 (dK r),.int .i64 r.Qc,.int .i64 r.Qd,.int .i64 0,.int .i64 0,.int .i64 0,.int .i64 0]
theorem qW(B:Lo)(r:Qi)(Qa:List Int):let c:=Qh QR Qa;let b:=Oc Qa;let a:=Array.map (ZY 0) (Oy c 0 (OU b 4*TypeInfo.size Try.t3));QW (Qu YP (Q9 YP) J0 B 10 1 (Qx YP 52 13 (([.agg (Q5 r).toArray,XI Qa]).map (Q8 0 4))) Zf 1
 [(9,Qk.tcpy (dM r Qa))] 0 [] []) []=some (.agg #[QI r.Qb.length (Qh Qm r.Qb),.int .i64 r.Qc,.int .i64 r.Qd,.int .i64 (Qa.getD 0 NZ),.int .i64 (Qa.getD 1 NZ),.int .i64 (Qa.getD 2 NZ),.int .i64 (Qa.getD 3 NZ)],
 [0<Oc Qa/\3+OU b 4*TypeInfo.size Try.t3<=OD (dL r)/\OU b 4*TypeInfo.size Try.t3<=OD c/\(Array.all c fun v=>simple v || Va v)=true/\ones a=true/\splice (dL r) 3 a=(dM r Qa)]):=by intro c b a;kernel_rfl
set_option maxHeartbeats 4000000 in
theorem ug(r:Qi)(Qa:List Int)(h0:0<Qa.length)(hl:Qa.length<=4){B:Lo}(hJ:∀w,B.has w->J0 w):EndsT YP B (Qx YP 52 13 (([.agg (Q5 r).toArray,XI Qa]).map (Q8 0 4))) (.agg (QL r Qa).toArray):=by
 exact(GoE.endsT okF hJ Qg GoE.start (qW B r Qa)
  ⟨(fo (fun _=>rfl) rfl (by omega) (by omega) rfl (YL rfl) rfl),trivial⟩).cast (by rfl)
theorem fW(r:Qi)(Qa:List Int)(h0:0<Qa.length)(hl:Qa.length<=4):Q0 YP J0 52 #[.agg (Q5 r).toArray,XI Qa] (.agg (QL r Qa).toArray):=
 Xo (ts:=[.agg (Q5 r).toArray,XI Qa]) Zh (c0:=Qx YP 52 13 (([.agg (Q5 r).toArray,XI Qa]).map (Q8 0 4))) (by kernel_rfl) (by kernel_rfl) fun B hJ=>ug r Qa h0 hl hJ
theorem Eb(B:Lo)(r:Qi):QW (Qu YP (Q9 YP) J0 B 6 1 (Qx YP 15 7 (([.agg (Q5 r).toArray]).map (Q8 0 4))) Zf 1
 [(5,ZF)] 0 [] []) []=some (.bool true,
 [(!XS 8 (↑r.Qb.length:Int))=true]):=by kernel_rfl
theorem Ea(B:Lo)(r:Qi):QW (Qu YP (Q9 YP) J0 B 6 1 (Qx YP 15 7 (([.agg (Q5 r).toArray]).map (Q8 0 4))) Zf 1
 [(5,Wm)] 0 [] []) []=some (.bool false,
 [(!XS 8 (↑r.Qb.length:Int))=false]):=by kernel_rfl
set_option maxHeartbeats 4000000 in
theorem Ha(r:Qi)  (X8:r.Qb.length<=9223372036854775807){B:Lo}(hJ:∀w,B.has w->J0 w):EndsT YP B (Qx YP 15 7 (([.agg (Q5 r).toArray]).map (Q8 0 4))) (.bool (decide (r.Qb.length<=8))):=by
 by_cases q0:((↑r.Qb.length:Int):Int)<=(8)
 ·exact(GoE.endsT okF hJ Qg GoE.start (Eb B r)
   ⟨(WZ q0),trivial⟩).cast (by(simp_all[];omega))
 ·exact(GoE.endsT okF hJ Qg GoE.start (Ea B r)
   ⟨(UX (Int.not_le.1 q0)),trivial⟩).cast (by(simp_all[];omega))
theorem cV(r:Qi)  :Q0 YP J0 15 #[.agg (Q5 r).toArray] (.bool (decide (r.Qb.length<=8))):=
 Vj (ts:=[.agg (Q5 r).toArray]) (r.Qb.length<=9223372036854775807) (fun _ _ ht=>ht.ln2 (i:=0) (j:=0) rfl rfl) Zh (c0:=Qx YP 15 7 (([.agg (Q5 r).toArray]).map (Q8 0 4))) (by kernel_rfl) (by kernel_rfl) fun X8 B hJ=>Ha r  X8 hJ
def bQ(r:Qi):Array Value:=#[QI r.Qb.length (Qh Qm r.Qb),.int .i64 r.Qc,.int .i64 r.Qd]
def gA(B:Lo)(r:Qi)(Qa:List Int):List Prop:=[Q6 []/\Q0 YP J0 20 #[.agg (bQ r)] (.bool true)]++([]:List Prop)
def qq(r:Qi)(Qa:List Int):QD:=[(3,Qk.pure (.bool true) [])]
theorem Ej(B:Lo)(r:Qi)(Qa:List Int):QW (Qu YP (Q9 YP) J0 B 6 1 (Qx YP 21 12 (([.agg (Q5 r).toArray,XI Qa]).map (Q8 0 4))) Zf 1
 (qq r Qa++[(7,Qk.pure (.bool true) [])]) 0 [] []) []=some (.bool true,
 [Q6 []/\Q0 YP J0 41 #[.agg (bQ r),QI Qa.length (Qh QR Qa)] (.bool true)]++gA B r Qa):=by kernel_rfl
theorem Ei(B:Lo)(r:Qi)(Qa:List Int):QW (Qu YP (Q9 YP) J0 B 6 1 (Qx YP 21 12 (([.agg (Q5 r).toArray,XI Qa]).map (Q8 0 4))) Zf 1
 (qq r Qa++[(7,Qk.pure (.bool false) [])]) 0 [] []) []=some (.bool false,
 [Q6 []/\Q0 YP J0 41 #[.agg (bQ r),QI Qa.length (Qh QR Qa)] (.bool false)]++gA B r Qa):=by kernel_rfl
theorem Eh(B:Lo)(r:Qi)(Qa:List Int):QW (Qu YP (Q9 YP) J0 B 6 1 (Qx YP 21 12 (([.agg (Q5 r).toArray,XI Qa]).map (Q8 0 4))) Zf 1
 [(3,Qk.pure (.bool false) [])] 0 [] []) []=some (.bool false,
 [Q6 []/\Q0 YP J0 20 #[.agg (bQ r)] (.bool false)]):=by kernel_rfl
set_option maxHeartbeats 4000000 in
theorem He(r:Qi)(Qa:List Int)  {B:Lo}(hJ:∀w,B.has w->J0 w):EndsT YP B (Qx YP 21 12 (([.agg (Q5 r).toArray,XI Qa]).map (Q8 0 4))) (.bool (QC r && QV r Qa)):=by
 cases q0:QC r with
 |true=>
  have V5:Q6 (gA B r Qa):=by
   have Z8:=(QA (QJ ‹QC r=true›).1).1;exact⟨⟨trivial,(by have t_:=Lz (r);rw[q0]at t_;exact t_)⟩,trivial⟩
  cases q1:QV r Qa with
  |true=>
   have Z8:=(QA (QJ ‹QC r=true›).1).1;exact(GoE.endsT okF hJ Qg GoE.start (Ej B r Qa)
    ⟨⟨trivial,(by have t_:=L0 (r) (Qa) (by omega);rw[q1]at t_;exact t_)⟩,V5⟩).cast (by rfl)
  |false=>
   have Z8:=(QA (QJ ‹QC r=true›).1).1;exact(GoE.endsT okF hJ Qg GoE.start (Ei B r Qa)
    ⟨⟨trivial,(by have t_:=L0 (r) (Qa) (by omega);rw[q1]at t_;exact t_)⟩,V5⟩).cast (by rfl)
 |false=>
  exact(GoE.endsT okF hJ Qg GoE.start (Eh B r Qa)
   ⟨⟨trivial,(by have t_:=Lz (r);rw[q0]at t_;exact t_)⟩,trivial⟩).cast (by rfl)
theorem sh(r:Qi)(Qa:List Int)  :Q0 YP J0 21 #[.agg (Q5 r).toArray,XI Qa] (.bool (QC r && QV r Qa)):=
 Xo (ts:=[.agg (Q5 r).toArray,XI Qa]) Zh (c0:=Qx YP 21 12 (([.agg (Q5 r).toArray,XI Qa]).map (Q8 0 4))) (by kernel_rfl) (by kernel_rfl) fun B hJ=>He r Qa  hJ
end
end Go.Proofs.Ytncjjangllkokaa

