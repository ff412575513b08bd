/- Reef: a season of fewest Qo, or of ZV. -/
import Derived.Test.YtncjjangllkokaaZRB14
import Derived.Test.YtncjjangllkokaaZRB11
set_option linter.all false
open List renaming getD_eq_getElem?_getD->Li,set->LM,replicate->Lu,length->Ld,length_set->LS,length_replicate->LN,getD->Ln,range->Le,getElem?_eq_none->LA,getElem?_toArray->LU,length_append->Ls,length_cons->Lr,length_nil->LD,range'->Ly,mem_cons_of_mem->Lj
open Int renaming toNat->Lb,tdiv_eq_ediv_of_nonneg->L4,le_refl->LH
open Array renaming size->LQ,extract->Lh
open Nat renaming strongRecOn->LB,min->LW,le_refl->Lw,zero_add->Lv,lt_of_lt_of_eq->LO
open Inhabited renaming default->La
namespace Go.Proofs.Ytncjjangllkokaa
open Go Go.CE Go.RowKit
noncomputable section
set_option maxRecDepth 100000
def dh(s:Span):Int:=s.lo
def o9(s:Span):Int:=s.hi
def YA(rf:Qc):List Int:=(rf.Qa.map (Z7 rf.Qh)).map dh
def RE(rf:Qc):List Int:=(rf.Qa.map (Z7 rf.Qh)).map o9
def SB(rf:Qc):List Int:=(rf.Qa.map Wh).map dh
def Ec(rf:Qc):List Int:=(rf.Qa.map Wh).map o9
def BJ(rf:Qc)(p:Int):List Int:=(ZH rf.Qa p).map dh
def SO(rf:Qc)(p:Int):List Int:=(ZH rf.Qa p).map o9
theorem Tv{α:Type}[Inhabited α]{l:List α}{f:α->Span}{g:Span->Int}{k:Int}(h0:0<=k)(h:k<l.length):nth ((l.map f).map g) k=g (f (l.getD k.toNat La)):=by
 obtain⟨m,rfl⟩:∃m:Nat,k=m:=⟨k.toNat,by omega⟩
 have hm:m<l.length:=by omega
 show((l.map f).map g).getD ((m:Int).toNat) La=_;simp[Li,hm]
theorem hZ{rf:Qc}(hr:X4 rf=true):Ky rf.Qa.length (SB rf) 2000/\Ky rf.Qa.length (Ec rf) 2000:=by
 refine⟨⟨by simp[SB],fun k h0 h1=> ?_⟩,⟨by simp[Ec],fun k h0 h1=> ?_⟩⟩
 ·have hp:=Zg ((Qw hr).2 k h0 h1).1;unfold SB;rw[Tv h0 h1];simp only[Wh,dh];omega
 ·have hp:=Zg ((Qw hr).2 k h0 h1).1;unfold Ec;rw[Tv h0 h1];simp only[Wh,o9];omega
theorem Tw{l:List Span}{g:Span->Int}{k:Int}(h0:0<=k)(h:k<l.length):nth (l.map g) k=g (l.getD k.toNat La):=by
 obtain⟨m,rfl⟩:∃m:Nat,k=m:=⟨k.toNat,by omega⟩
 have hm:m<l.length:=by omega
 show(l.map g).getD ((m:Int).toNat) La=_;simp[Li,hm]
theorem gA{rf:Qc}(hr:X4 rf=true)(p:Int):Ky rf.Qa.length (BJ rf p) 1000000/\Ky rf.Qa.length (SO rf p) 1000000:=by
 refine⟨⟨by simp[BJ,V1],fun k h0 h1=> ?_⟩,⟨by simp[SO,V1],fun k h0 h1=> ?_⟩⟩
 ·have hp:=pH hr (p:=p) h0 h1;unfold BJ;rw[Tw h0 (by rw[V1];exact h1),PY h0 h1];simp only[dh];omega
 ·have hp:=pH hr (p:=p) h0 h1;unfold SO;rw[Tw h0 (by rw[V1];exact h1),PY h0 h1];simp only[o9];omega
section
variable (B:Lo)(c0:CF)(xs:List Span)(i:Int)(ys:List Int)
def Su(ys:List Int):List Value:=[Value.func (Fn.func 76) #[] #[],.slice (some {block:=2,off:=0}) xs.length 1,Qk 1 (Xo xs.length (Qe QQ xs)),YI (↑xs.length:Int),YI i]
def KD(xs:List Span)(i:Int)(ys:List Int):List Obj:=[.cells (Qe Qy ys) 3 (0,0)]
def Sv:List Item:=([.code [1,1,0,1,0,0],.inLoop [1,1,0,1,0,0],.inBlock 0,.code [1,1,1]]).map (it (Q8 YP 97))
def D5:Prop:=∃dJ:Nat->Value,(∀t,Xh (dJ t))/\GoE YP B c0 Zd 1 (QC 97 26 (([1,5,11,12,13]:List Nat).zip (Su xs i ys)) dJ Sv) (Q9 (KD xs i ys)) (2+(KD xs i ys).length) []
def bU:=(Span.lo (xs.getD i.toNat La))
def D0:Array Value:=#[YI (bU xs i),YI (Span.hi (xs.getD i.toNat La))]
def Dz:Array Value:=(Qe Qy (LM ys i.toNat (bU xs i)))
def qK:Array Value:=(Qe (Yq [YI 0]) (Lu xs.length ()))
theorem D3(B:Lo)(xs:List Span)(i:Int)(ys:List Int)(Ql:Nat->Value):let e:=D0 xs i;let c:=Dz xs i ys;let a:=Lb i;let d:=LM ys a (bU xs i);let b:=Span.lo (xs.getD a La);let f:=YI b;landM (Qn YP (Q0 YP) J0 B 13 1 (QC 97 26 (([1,5,11,12,13]:List Nat).zip (Su xs i ys)) Ql Sv) (Q9 (KD xs i ys)) (2+(KD xs i ys).length)
 [(0,Wj),(2,Qf.tidx a e),(11,Qf.pure (YI (bU xs i)) []),(12,Qf.XO (Hint.idx a)),(13,Qf.XO (Hint.st c)),(14,Zu (i+1))] 0 [] []) [1,5,11,12,13] [(2,KS.cells [] c)] []=some ⟨97,26,Sv,[],.run,none,Su xs (i+1) d,KD xs (i+1) d,
 [QE 1 [] c c,wq (i+1)=i+1,0+Lb i*1+TypeInfo.size Try.t3<=LQ (Qe Qy ys)/\splice (Qe Qy ys) (0+Lb i*1) (Value.cells (Xx {len:=16000,tr:=Tri.set 14 (Tri.set 14 Tri.lf 22 f) 23 (.pointer (some {block:=2,off:=0+Lb i*1}))} 22))=Qe Qy (LM ys a b),i=(↑a:Int)/\Lb i<Ld xs,Qz []/\Qv YP J0 76 #[.agg e] f,VN i xs.length (Qe QQ xs) Try.t38.size e,XB i (↑xs.length:Int)=true]⟩:=by intro e c a d b f;kernel_rfl
theorem D2(B:Lo)(xs:List Span)(i:Int)(ys:List Int)(Ql:Nat->Value):let a:=Fz.cs {k:=2,rs:=[],cs:=Qe Qy ys};Xv (Qn YP (Q0 YP) J0 B 9 1 (QC 97 26 (([1,5,11,12,13]:List Nat).zip (Su xs i ys)) Ql Sv) (Q9 (KD xs i ys)) (2+(KD xs i ys).length)
 [(0,WC)] 0 [] []) [{k:=2,rs:=[],cs:=Qe Qy ys}]=some (Xo xs.length a,
 [X1 (Fz.rs {k:=2,rs:=[],cs:=Qe Qy ys}) (Qe Qy ys) a,XB i (↑xs.length:Int)=false]):=by intro a;kernel_rfl
theorem D1(B:Lo)(xs:List Span):let a:=Ld xs;let c:=Lu a 0;let b:=Xx {len:=16000,tr:=Tri.set 14 Tri.lf 9 (YI (↑a:Int))} 9;landM (Qn YP (Q0 YP) J0 B 9 1 (Qu YP 97 26 (([Rw xs,.func (.func 76) #[] #[]]).map (Q4 0 4))) Zd 1
 [(3,Qf.XO (Hint.mk a (qK xs)))] 0 [] []) [1,5,11,12,13] [(1,KS.rows [] [] [] (Qe Qy c))] []=some ⟨97,26,Sv,[],.run,none,Su xs (0) c,KD xs (0) c,
 [QX 1 [] [] [] (qK xs) (Qe Qy c),TK YP 25 b b=some (3,Qe (Yq [YI 0]) (Lu a ()),Ld xs,TypeInfo.size Try.t3)]⟩:=by intro a c b;kernel_rfl
end
set_option maxHeartbeats 4000000 in
theorem D4(xs:List Span)(hn:xs.length<=1000000){B:Lo}(hJ:∀w,B.has w->J0 w){c0:CF}:∀m:Nat,(∀(i:Int) (ys:List Int),(xs.length-i.toNat)=m->∀(h0:0<=i) (hy:ys=Ro dh 0 xs i),D5 B c0 xs i ys->EndsT YP B c0 (X7 (xs.map dh))):=by
 intro m0;induction m0 using LB with
 |_ m0 ih0=>
  intro i ys Jw h0 hy ⟨Ql,Wl,X0⟩;have hyl:ys.length=xs.length:=by rw[hy];exact SD
  by_cases q0:(i:Int)<((↑xs.length:Int))
  ·exact((ih0 _ (by omega)) (i+1) (LM ys i.toNat (Span.lo (xs.getD i.toNat La))) rfl (by omega) (by(subst hy;exact SC (f:=dh) h0 q0))
    (X0.lM (D3 B xs i ys Ql)
    ⟨cS,⟨wI,⟨(by exact WQ (z:=1) (k:=Lb i) (fun _=>rfl) (by first|omega|(rw[LS];omega)|(rw[LN];omega)) rfl rfl),⟨⟨by omega,by omega⟩,⟨⟨trivial,Qcs (Span.lo (xs.getD i.toNat La)) (Span.hi (xs.getD i.toNat La))⟩,⟨(iX (lX 2)),⟨(Xs q0),trivial⟩⟩⟩⟩⟩⟩⟩)).cR
  ·exact(GoE.eT X0 (D2 B xs i ys Ql)
    ⟨(X2 (fun x=>List.all_eq_true.1 (by rfl))),⟨(nL q0),trivial⟩⟩).cast (by exact bo (hy.trans (SF (by omega))) (by simp))
set_option maxHeartbeats 4000000 in
theorem HO(xs:List Span)(hn:xs.length<=1000000){B:Lo}(hJ:∀w,B.has w->J0 w):EndsT YP B (Qu YP 97 26 (([Rw xs,.func (.func 76) #[] #[]]).map (Q4 0 4))) (X7 (xs.map dh)):=by
 exact((D4 xs hn hJ _) (0) (Lu xs.length 0) rfl (by omega) (by exact gf)
  (GoE.start.lM (D1 B xs)
  ⟨(by exact(KJ (by exact⟨(.simple rfl),trivial⟩) _)),⟨(oU (bytes:=8) (by kernel_rfl) (by omega) (by omega) (by omega)),trivial⟩⟩)).cR
theorem HP(xs:List Span)(hn:xs.length<=1000000):Qv YP J0 97 #[Rw xs,.func (.func 76) #[] #[]] (X7 (xs.map dh)):=
 Xd (ts:=[Rw xs,.func (.func 76) #[] #[]]) Zc (c0:=Qu YP 97 26 (([Rw xs,.func (.func 76) #[] #[]]).map (Q4 0 4))) (by kernel_rfl) (by kernel_rfl) fun B hJ=>HO xs hn hJ
section
variable (B:Lo)(c0:CF)(xs:List Span)(i:Int)(ys:List Int)
def Sw(ys:List Int):List Value:=[Value.func (Fn.func 77) #[] #[],.slice (some {block:=2,off:=0}) xs.length 1,Qk 1 (Xo xs.length (Qe QQ xs)),YI (↑xs.length:Int),YI i]
def KE(xs:List Span)(i:Int)(ys:List Int):List Obj:=[.cells (Qe Qy ys) 3 (0,0)]
def Sx:List Item:=([.code [1,1,0,1,0,0],.inLoop [1,1,0,1,0,0],.inBlock 0,.code [1,1,1]]).map (it (Q8 YP 97))
def DC:Prop:=∃dJ:Nat->Value,(∀t,Xh (dJ t))/\GoE YP B c0 Zd 1 (QC 97 26 (([1,5,11,12,13]:List Nat).zip (Sw xs i ys)) dJ Sx) (Q9 (KE xs i ys)) (2+(KE xs i ys).length) []
def bV:=(Span.hi (xs.getD i.toNat La))
def D7:Array Value:=#[YI (Span.lo (xs.getD i.toNat La)),YI (bV xs i)]
def D6:Array Value:=(Qe Qy (LM ys i.toNat (bV xs i)))
def qL:Array Value:=(Qe (Yq [YI 0]) (Lu xs.length ()))
theorem DA(B:Lo)(xs:List Span)(i:Int)(ys:List Int)(Ql:Nat->Value):let e:=D7 xs i;let c:=D6 xs i ys;let a:=Lb i;let d:=LM ys a (bV xs i);let b:=Span.hi (xs.getD a La);let f:=YI b;landM (Qn YP (Q0 YP) J0 B 13 1 (QC 97 26 (([1,5,11,12,13]:List Nat).zip (Sw xs i ys)) Ql Sx) (Q9 (KE xs i ys)) (2+(KE xs i ys).length)
 [(0,Wj),(2,Qf.tidx a e),(11,Qf.pure (YI (bV xs i)) []),(12,Qf.XO (Hint.idx a)),(13,Qf.XO (Hint.st c)),(14,Zu (i+1))] 0 [] []) [1,5,11,12,13] [(2,KS.cells [] c)] []=some ⟨97,26,Sx,[],.run,none,Sw xs (i+1) d,KE xs (i+1) d,
 [QE 1 [] c c,wq (i+1)=i+1,0+Lb i*1+TypeInfo.size Try.t3<=LQ (Qe Qy ys)/\splice (Qe Qy ys) (0+Lb i*1) (Value.cells (Xx {len:=16000,tr:=Tri.set 14 (Tri.set 14 Tri.lf 22 f) 23 (.pointer (some {block:=2,off:=0+Lb i*1}))} 22))=Qe Qy (LM ys a b),i=(↑a:Int)/\Lb i<Ld xs,Qz []/\Qv YP J0 77 #[.agg e] f,VN i xs.length (Qe QQ xs) Try.t38.size e,XB i (↑xs.length:Int)=true]⟩:=by intro e c a d b f;kernel_rfl
theorem D9(B:Lo)(xs:List Span)(i:Int)(ys:List Int)(Ql:Nat->Value):let a:=Fz.cs {k:=2,rs:=[],cs:=Qe Qy ys};Xv (Qn YP (Q0 YP) J0 B 9 1 (QC 97 26 (([1,5,11,12,13]:List Nat).zip (Sw xs i ys)) Ql Sx) (Q9 (KE xs i ys)) (2+(KE xs i ys).length)
 [(0,WC)] 0 [] []) [{k:=2,rs:=[],cs:=Qe Qy ys}]=some (Xo xs.length a,
 [X1 (Fz.rs {k:=2,rs:=[],cs:=Qe Qy ys}) (Qe Qy ys) a,XB i (↑xs.length:Int)=false]):=by intro a;kernel_rfl
theorem D8(B:Lo)(xs:List Span):let a:=Ld xs;let c:=Lu a 0;let b:=Xx {len:=16000,tr:=Tri.set 14 Tri.lf 9 (YI (↑a:Int))} 9;landM (Qn YP (Q0 YP) J0 B 9 1 (Qu YP 97 26 (([Rw xs,.func (.func 77) #[] #[]]).map (Q4 0 4))) Zd 1
 [(3,Qf.XO (Hint.mk a (qL xs)))] 0 [] []) [1,5,11,12,13] [(1,KS.rows [] [] [] (Qe Qy c))] []=some ⟨97,26,Sx,[],.run,none,Sw xs (0) c,KE xs (0) c,
 [QX 1 [] [] [] (qL xs) (Qe Qy c),TK YP 25 b b=some (3,Qe (Yq [YI 0]) (Lu a ()),Ld xs,TypeInfo.size Try.t3)]⟩:=by intro a c b;kernel_rfl
end
set_option maxHeartbeats 4000000 in
theorem DB(xs:List Span)(hn:xs.length<=1000000){B:Lo}(hJ:∀w,B.has w->J0 w){c0:CF}:∀m:Nat,(∀(i:Int) (ys:List Int),(xs.length-i.toNat)=m->∀(h0:0<=i) (hy:ys=Ro o9 0 xs i),DC B c0 xs i ys->EndsT YP B c0 (X7 (xs.map o9))):=by
 intro m0;induction m0 using LB with
 |_ m0 ih0=>
  intro i ys Jw h0 hy ⟨Ql,Wl,X0⟩;have hyl:ys.length=xs.length:=by rw[hy];exact SD
  by_cases q0:(i:Int)<((↑xs.length:Int))
  ·exact((ih0 _ (by omega)) (i+1) (LM ys i.toNat (Span.hi (xs.getD i.toNat La))) rfl (by omega) (by(subst hy;exact SC (f:=o9) h0 q0))
    (X0.lM (DA B xs i ys Ql)
    ⟨cS,⟨wI,⟨(by exact WQ (z:=1) (k:=Lb i) (fun _=>rfl) (by first|omega|(rw[LS];omega)|(rw[LN];omega)) rfl rfl),⟨⟨by omega,by omega⟩,⟨⟨trivial,QbJ (Span.lo (xs.getD i.toNat La)) (Span.hi (xs.getD i.toNat La))⟩,⟨(iX (lX 2)),⟨(Xs q0),trivial⟩⟩⟩⟩⟩⟩⟩)).cR
  ·exact(GoE.eT X0 (D9 B xs i ys Ql)
    ⟨(X2 (fun x=>List.all_eq_true.1 (by rfl))),⟨(nL q0),trivial⟩⟩).cast (by exact bo (hy.trans (SF (by omega))) (by simp))
set_option maxHeartbeats 4000000 in
theorem HQ(xs:List Span)(hn:xs.length<=1000000){B:Lo}(hJ:∀w,B.has w->J0 w):EndsT YP B (Qu YP 97 26 (([Rw xs,.func (.func 77) #[] #[]]).map (Q4 0 4))) (X7 (xs.map o9)):=by
 exact((DB xs hn hJ _) (0) (Lu xs.length 0) rfl (by omega) (by exact gf)
  (GoE.start.lM (D8 B xs)
  ⟨(by exact(KJ (by exact⟨(.simple rfl),trivial⟩) _)),⟨(oU (bytes:=8) (by kernel_rfl) (by omega) (by omega) (by omega)),trivial⟩⟩)).cR
theorem QaL(xs:List Span)(hn:xs.length<=1000000):Qv YP J0 97 #[Rw xs,.func (.func 77) #[] #[]] (X7 (xs.map o9)):=
 Xd (ts:=[Rw xs,.func (.func 77) #[] #[]]) Zc (c0:=Qu YP 97 26 (([Rw xs,.func (.func 77) #[] #[]]).map (Q4 0 4))) (by kernel_rfl) (by kernel_rfl) fun B hJ=>HQ xs hn hJ
def Yz(rf:Qc):=(List.map (Z7 rf.Qh) rf.Qa)
def zD(rf:Qc):Array Value:=#[YI (Ln (List.map dh (Yz rf)) 0 La),YI (Ln (List.map dh (Yz rf)) 1 La),YI (Ln (List.map dh (Yz rf)) 2 La),YI (Ln (List.map dh (Yz rf)) 3 La)]
def zC(rf:Qc):Array Value:=(Qe Qy (List.map dh (Yz rf)))
def mn  :Array Value:=#[YI 0,YI 0,YI 0,YI 0]
theorem zE(B:Lo)(rf:Qc)(plan:List Int):let g:=zD rf;let f:=Yz rf;let e:=rf.Qa;let d:=zC rf;let a:=List.map (Z7 rf.Qh) e;let c:=Ld (List.map dh a);let b:=Array.map (Wb 5) (Lh d 0 (LW c 4*TypeInfo.size Try.t3));Xv (Qn YP (Q0 YP) J0 B 10 1 (Qu YP 75 13 (([.agg (QN rf plan).toArray,.func (.func 76) #[] #[]]).map (Q4 0 4))) Zd 1
 [(5,Qf.pure (Xo f.length (Qe QQ f)) []),(7,Qf.pure (Xo (Ld (List.map dh f)) d) []),(8,Qf.tcpy g)] 0 [] []) []=some (.agg g,
 [0<Ld (List.map dh a)/\0+LW c 4*TypeInfo.size Try.t3<=LQ mn/\LW c 4*TypeInfo.size Try.t3<=LQ d/\(Array.all d fun v=>simple v || WE v)=true/\ones b=true/\splice mn 0 b=g,Qz []/\Qv YP J0 97 #[Xo a.length (Qe QQ a),Value.func (Fn.func 76) #[] #[]] (Xo c d),Qz []/\Qv YP J0 82 #[.agg #[Xo e.length (Qe Qt e),YI rf.Qh,YI rf.Qb,YI (plan.getD 0 0),YI (plan.getD 1 0),YI (plan.getD 2 0),YI (plan.getD 3 0)]] (Xo a.length (Qe QQ a))]):=by intro g f e d a c b;kernel_rfl
set_option maxHeartbeats 4000000 in
theorem CX(rf:Qc)(plan:List Int)(hr:X4 rf=true){B:Lo}(hJ:∀w,B.has w->J0 w):EndsT YP B (Qu YP 75 13 (([.agg (QN rf plan).toArray,.func (.func 76) #[] #[]]).map (Q4 0 4))) (.agg #[YI ((YA rf).getD 0 La),YI ((YA rf).getD 1 La),YI ((YA rf).getD 2 La),YI ((YA rf).getD 3 La)]):=by
 have Zi:=Q2 (Qw hr).1;have hle1:((rf.Qa.map (Z7 rf.Qh)).map dh).length=rf.Qa.length:=by simp
 have hle2:((rf.Qa.map (Z7 rf.Qh)).map o9).length=rf.Qa.length:=by simp
 have hle3:(rf.Qa.map (Z7 rf.Qh)).length=rf.Qa.length:=by simp
 have hcc:∀k:Int,0<=k->k<rf.Qa.length->0<=(rf.Qa.getD k.toNat La).count/\(rf.Qa.getD k.toNat La).count<=1000000:=fun k h0 h1=>(Zg ((Qw hr).2 k h0 h1).1).1
 exact(GoE.eT GoE.start (zE B rf plan)
  ⟨(Ma (fun _=>rfl) rfl (by omega) (by omega) rfl (YL rfl) rfl),⟨⟨trivial,HP (List.map (Z7 rf.Qh) rf.Qa) (by omega)⟩,⟨⟨trivial,Nr (rf) (plan) (by omega) (by omega) ‹_›⟩,trivial⟩⟩⟩).cR
theorem N2(rf:Qc)(plan:List Int)(hr:X4 rf=true):Qv YP J0 75 #[.agg (QN rf plan).toArray,.func (.func 76) #[] #[]] (.agg #[YI ((YA rf).getD 0 La),YI ((YA rf).getD 1 La),YI ((YA rf).getD 2 La),YI ((YA rf).getD 3 La)]):=
 Xd (ts:=[.agg (QN rf plan).toArray,.func (.func 76) #[] #[]]) Zc (c0:=Qu YP 75 13 (([.agg (QN rf plan).toArray,.func (.func 76) #[] #[]]).map (Q4 0 4))) (by kernel_rfl) (by kernel_rfl) fun B hJ=>CX rf plan hr hJ
section
variable (rf:Qc)(plan:List Int)(fa fb fc fd k:Int)
def P6(fa fb fc fd k:Int):Qm:=[(3,Obj.cells #[YI 0,YI 0,YI 0,YI 0] 111),(2,Obj.cells #[YI fa,YI fb,YI fc,YI fd] 111),(1,Obj.cells #[Qk 0 (Xp rf.Qa),YI rf.Qh,YI rf.Qb,YI (plan.getD 0 0),YI (plan.getD 1 0),YI (plan.getD 2 0),YI (plan.getD 3 0)] 84),(0,Obj.coro none)]
def Tq:CF:=⟨98,ofList 28 [.agg #[Qk 0 (Xp rf.Qa),YI rf.Qh,YI rf.Qb,YI (plan.getD 0 0),YI (plan.getD 1 0),YI (plan.getD 2 0),YI (plan.getD 3 0)],.agg #[YI fa,YI fb,YI fc,YI fd],YI k,Value.func (Fn.func 76) #[] #[],Value.func (Fn.func 77) #[] #[]],[Item.code (Q8 YP 98)],[],.run,none⟩
def my:=(List.map o9 (ZH rf.Qa (plan.getD k.toNat 0)))
def mw:=(List.map dh (List.map Wh rf.Qa))
def mz:Array Value:=let e:=XT (mw rf) (my rf plan k) rf.Qa {a:=fa,b:=fb,c:=fc,d:=fd};#[YI e.a,YI e.b,YI e.c,YI e.d]
def mr:Array Value:=#[Xp rf.Qa,YI rf.Qh,YI rf.Qb,YI (plan.getD 0 0),YI (plan.getD 1 0),YI (plan.getD 2 0),YI (plan.getD 3 0)]
def mq:Value:=(Xo (Ld (ZH rf.Qa (plan.getD k.toNat 0))) (Qe QQ (ZH rf.Qa (plan.getD k.toNat 0))))
def mo:Value:=(Xo (Ld (List.map Wh rf.Qa)) (Qe QQ (List.map Wh rf.Qa)))
theorem zG(B:Lo)(rf:Qc)(plan:List Int)(fa fb fc fd k:Int):let h:=rf.Qh;let g:=rf.Qb;let f:=mw rf;let d:=my rf plan k;let c:=rf.Qa;let e:=List.map Wh c;let i:=List.map dh e;let b:=Value.slice none 0 0;let a:=ZH c (plan.getD k.toNat 0);let j:=List.map o9 a;CE.finK 4 (Qn YP (Q0 YP) J0 B 10 4 (Tq rf plan fa fb fc fd k) (P6 rf plan fa fb fc fd k) 4
 [(10,Qf.pure (mo rf) []),(12,Qf.pure (X7 f) []),(15,Qf.pure (mq rf plan k) []),(17,Qf.pure (X7 d) []),(18,Qf.wri [7] [9,11,0] [false] [] (rU c h g fa fb fc fd b b f d 0 0 0 0 0) (rT c h g fa fb fc fd b b f d 0 0 0 0 0) (rV c h g fa fb fc fd b b f d 0 0 0 0 0))] 0 [] []) [] [] []=some (OO.ret (.agg (mz rf plan fa fb fc fd k)),[],[],
 [Qz []/\Nt c h g (fa) (fb) (fc) (fd) b b i j (0) (0) (0) (0) (0),Qz []/\Qv YP J0 97 #[Xo a.length (Qe QQ a),Value.func (Fn.func 77) #[] #[]] (X7 j),Qz []/\Qv YP J0 84 #[.agg (mr rf plan),YI k] (mq rf plan k),Qz []/\Qv YP J0 97 #[Xo e.length (Qe QQ e),Value.func (Fn.func 76) #[] #[]] (X7 i),Qz []/\Qv YP J0 83 #[.agg (mr rf plan)] (mo rf)]):=by intro h g f d c e i b a j;kernel_rfl
theorem zF(B:Lo)(rf:Qc)(plan:List Int)(fa fb fc fd k:Int):let a:=mz rf plan fa fb fc fd k;Xv (Qn YP (Q0 YP) J0 B 6 1 (Qu YP 78 11 (([.agg (QN rf plan).toArray,.agg #[YI fa,YI fb,YI fc,YI fd],YI k]).map (Q4 0 4))) Zd 1
 [(6,Qf.call (Le 4) (OO.ret (.agg a)) ([]++(4,QV)::QL 5 []) 5 [])] 0 [] []) []=some (.agg a,
 [FJ YP B (Tq rf plan fa fb fc fd k) (P6 rf plan fa fb fc fd k) 4 (OO.ret (.agg a)) (([]++((4,QV)::QL (4+1) []))++P6 rf plan fa fb fc fd k) 5 (Le 4) []]):=by intro a;kernel_rfl
end
set_option maxHeartbeats 4000000 in
theorem CY(rf:Qc)(plan:List Int)(fa fb fc fd k:Int)(hr:X4 rf=true)(hl:plan.length<=4)(hp:∀j:Nat,0<=plan.getD j 0/\plan.getD j 0<=1000000)(k0:0<=k)(k1:k<4)(hf:PW ⟨fa,fb,fc,fd⟩)(hs:F4.sum ⟨fa,fb,fc,fd⟩<=10000000000){B:Lo}(hJ:∀w,B.has w->J0 w):EndsT YP B (Qu YP 78 11 (([.agg (QN rf plan).toArray,.agg #[YI fa,YI fb,YI fc,YI fd],YI k]).map (Q4 0 4))) (.agg #[YI (XT (SB rf) (SO rf (plan.getD k.toNat 0)) rf.Qa ⟨fa,fb,fc,fd⟩).a,YI (XT (SB rf) (SO rf (plan.getD k.toNat 0)) rf.Qa ⟨fa,fb,fc,fd⟩).b,YI (XT (SB rf) (SO rf (plan.getD k.toNat 0)) rf.Qa ⟨fa,fb,fc,fd⟩).c,YI (XT (SB rf) (SO rf (plan.getD k.toNat 0)) rf.Qa ⟨fa,fb,fc,fd⟩).d]):=by
 have Zi:=Q2 (Qw hr).1;have hpc:=Hc hr;have hg1:Ky rf.Qa.length ((rf.Qa.map Wh).map dh) 2000:=(hZ hr).1;have ht1:Ky rf.Qa.length ((ZH rf.Qa (plan.getD k.toNat 0)).map o9) 1000000:=(gA hr (plan.getD k.toNat 0)).2;have hle1:(ZH rf.Qa (plan.getD k.toNat 0)).length=rf.Qa.length:=V1;have hle2:(rf.Qa.map Wh).length=rf.Qa.length:=by simp
 have rj0:FJ YP B (Tq rf plan fa fb fc fd k) (P6 rf plan fa fb fc fd k) 4 (OO.ret (.agg #[YI (F4.a (XT (List.map dh (List.map Wh rf.Qa)) (List.map o9 (ZH rf.Qa (plan.getD k.toNat 0))) rf.Qa {a:=fa,b:=fb,c:=fc,d:=fd})),YI (F4.b (XT (List.map dh (List.map Wh rf.Qa)) (List.map o9 (ZH rf.Qa (plan.getD k.toNat 0))) rf.Qa {a:=fa,b:=fb,c:=fc,d:=fd})),YI (F4.c (XT (List.map dh (List.map Wh rf.Qa)) (List.map o9 (ZH rf.Qa (plan.getD k.toNat 0))) rf.Qa {a:=fa,b:=fb,c:=fc,d:=fd})),YI (F4.d (XT (List.map dh (List.map Wh rf.Qa)) (List.map o9 (ZH rf.Qa (plan.getD k.toNat 0))) rf.Qa {a:=fa,b:=fb,c:=fc,d:=fd}))])) (([]++((4,QV)::QL (4+1) []))++P6 rf plan fa fb fc fd k) 5 (Le 4) []:=by
  exact FinK.fjB (GoE.fK ((GoE.refl (P:=YP) (B:=B) (c0:=Tq rf plan fa fb fc fd k) uA).widen (Wf:=((([]):List (Nat×KS)).map (·.1))) (by simp) wO) (zG B rf plan fa fb fc fd k)
   ⟨⟨trivial,QbE rf.Qa rf.Qh rf.Qb (fa) (fb) (fc) (fd) (.slice none 0 0) (.slice none 0 0) (List.map dh (List.map Wh rf.Qa)) (List.map o9 (ZH rf.Qa (plan.getD k.toNat 0))) (0) (0) (0) (0) (0) ‹_› ‹_› ‹_› ‹_› ‹_› (by omega) (by omega) (by omega)⟩,⟨⟨trivial,QaL (ZH rf.Qa (plan.getD k.toNat 0)) (by omega)⟩,⟨⟨trivial,Qa7 (rf) (plan) (k) (by omega) ‹_› ‹_› ‹_› ‹_›⟩,⟨⟨trivial,HP (List.map Wh rf.Qa) (by omega)⟩,⟨⟨trivial,QaB (rf) (plan) (by omega)⟩,trivial⟩⟩⟩⟩⟩) (ex:=[]) (by kernel_rfl) (Zb _)
 exact(GoE.eT GoE.start (zF B rf plan fa fb fc fd k)
  ⟨rj0,trivial⟩).cR
theorem jY(rf:Qc)(plan:List Int)(fa fb fc fd k:Int)(hr:X4 rf=true)(hl:plan.length<=4)(hp:∀j:Nat,0<=plan.getD j 0/\plan.getD j 0<=1000000)(k0:0<=k)(k1:k<4)(hf:PW ⟨fa,fb,fc,fd⟩)(hs:F4.sum ⟨fa,fb,fc,fd⟩<=10000000000):Qv YP J0 78 #[.agg (QN rf plan).toArray,.agg #[YI fa,YI fb,YI fc,YI fd],YI k] (.agg #[YI (XT (SB rf) (SO rf (plan.getD k.toNat 0)) rf.Qa ⟨fa,fb,fc,fd⟩).a,YI (XT (SB rf) (SO rf (plan.getD k.toNat 0)) rf.Qa ⟨fa,fb,fc,fd⟩).b,YI (XT (SB rf) (SO rf (plan.getD k.toNat 0)) rf.Qa ⟨fa,fb,fc,fd⟩).c,YI (XT (SB rf) (SO rf (plan.getD k.toNat 0)) rf.Qa ⟨fa,fb,fc,fd⟩).d]):=
 Xd (ts:=[.agg (QN rf plan).toArray,.agg #[YI fa,YI fb,YI fc,YI fd],YI k]) Zc (c0:=Qu YP 78 11 (([.agg (QN rf plan).toArray,.agg #[YI fa,YI fb,YI fc,YI fd],YI k]).map (Q4 0 4))) (by kernel_rfl) (by kernel_rfl) fun B hJ=>CY rf plan fa fb fc fd k hr hl hp k0 k1 hf hs hJ
section
variable (rf:Qc)(plan:List Int)(fa fb fc fd k:Int)
end
end
end Go.Proofs.Ytncjjangllkokaa

namespace Go.Proofs.Ytncjjangllkokaa
open Go Go.CE Go.RowKit
set_option maxRecDepth 100000
abbrev pK(l:List Span):List Value:=[Rw l]
structure RSp where
 z:Bool
 n:Nat
 l:List Span
deriving Inhabited
def Va(rf:Qc):List (List Int):=Ze rf.Qb fun _=>SB rf
def Ve(rf:Qc):List (List Int):=Ze rf.Qb fun _=>Ec rf
def VI(rf:Qc)(plan:List Int):List (List Int):=Ze rf.Qb fun s=>BJ rf (plan.getD s.toNat 0)
def Vi(rf:Qc)(plan:List Int):List (List Int):=Ze rf.Qb fun s=>SO rf (plan.getD s.toNat 0)
def QM(rf:Qc)(plan:List Int)(k:Nat):F4:=Z5 rf.Qa (Va rf) (Vi rf plan) (Qg (YA rf)) k
section
variable (rf:Qc)(plan:List Int)(i s k:Int)
def QbT(k:Nat):F4:=Z5 rf.Qa (Ve rf) (VI rf plan) (Qg (RE rf)) k
def ur:Span:=⟨(QM rf plan (s.toNat+1)).at k,(QbT rf plan (s.toNat+1)).at k⟩
def kT:List Span:=Ze rf.Qa.length fun k=>ur rf plan s k
def Ws:List (List Span):=Ze rf.Qb fun k=>kT rf plan k
end
theorem pI{l:List Int}(h:∀k:Int,0<=k->k<4->0<=nth l k/\nth l k<=4000000):PW (Qg l)/\(Qg l).sum<=16000000:=by
 have a0:=h 0 (by omega) (by omega);have a1:=h 1 (by omega) (by omega);have a2:=h 2 (by omega) (by omega);have a3:=h 3 (by omega) (by omega);have es:(Qg l).sum=nth l 0+nth l 1+nth l 2+nth l 3:=rfl;exact⟨⟨⟨a0.1,a1.1,a2.1,a3.1⟩,by omega⟩,by omega⟩
theorem OG{rf:Qc}(hr:X4 rf=true){g:Span->Int}(hg:∀s:Span,g s=s.lo\/g s=s.hi):∀k:Int,0<=k->k<4->0<=nth ((rf.Qa.map (Z7 rf.Qh)).map g) k/\nth ((rf.Qa.map (Z7 rf.Qh)).map g) k<=4000000:=fun k k0 k1=>by
 have hs:=Q2 (Qw hr).1;by_cases hk:k<rf.Qa.length
 ·have hp:=Zg ((Qw hr).2 k k0 hk).1;have hm:=Yh (a:=(rf.Qa.getD k.toNat La).count) (r:=rf.Qh) (by omega) (by omega);have hm2:(rf.Qa.getD k.toNat La).count*rf.Qh<=1000000*2000:=Int.mul_le_mul hp.1.2 hs.2.1.2 hs.2.1.1 (by omega);have e2:((rf.Qa.getD k.toNat La).count*rf.Qh).tdiv 1000=((rf.Qa.getD k.toNat La).count*rf.Qh) / 1000:=L4 hm.1;rw[Tv k0 hk];rcases hg (Z7 rf.Qh (rf.Qa.getD k.toNat La))with e|e
  ·rw[e];simp only[Z7];omega
  ·rw[e];simp only[Z7,J8];omega
 ·unfold nth;rw[Li,LA (by simp;omega)];exact⟨LH _,by decide⟩
theorem IS{rf:Qc}(hr:X4 rf=true){gs ts:List (List Int)}{l:List Int}(hg:gs.length=rf.Qb)(ht:ts.length=rf.Qb)(rg:∀k:Nat,k<rf.Qb->Ky rf.Qa.length (gs.getD k La) 2000)(rt:∀k:Nat,k<rf.Qb->Ky rf.Qa.length (ts.getD k La) 1000000)(hl:PW (Qg l)/\(Qg l).sum<=16000000):OkT rf.Qa rf.Qb gs ts (Qg l):=by
 have hs:=Q2 (Qw hr).1;exact⟨Hc hr,by omega,by omega,by omega,hg,ht,rg,rt,hl.1,by omega⟩
theorem DX{rf:Qc}(hr:X4 rf=true):PW (Qg (YA rf))/\(Qg (YA rf)).sum<=16000000:=pI (OG hr fun _=>.inl rfl)
theorem Ap{rf:Qc}(hr:X4 rf=true):PW (Qg (RE rf))/\(Qg (RE rf)).sum<=16000000:=pI (OG hr fun _=>.inr rfl)
theorem sT{rf:Qc}(plan:List Int)(hr:X4 rf=true):OkT rf.Qa rf.Qb (Va rf) (Vi rf plan) (Qg (YA rf)):=by
 have hs:=Q2 (Qw hr).1;refine IS hr (by rw[Va,Xa];omega) (by rw[Vi,Xa];omega) (fun k hk=> ?_) (fun k hk=> ?_) (DX hr)
 ·have e:(Va rf).getD k La=SB rf:=Xc (k:=(k:Int)) (by omega) hk;rw[e];exact(hZ hr).1
 ·have e:(Vi rf plan).getD k La=SO rf (plan.getD ((k:Int)).toNat 0):=Xc (k:=(k:Int)) (by omega) hk;rw[e];exact(gA hr _).2
theorem Ol{rf:Qc}(plan:List Int)(hr:X4 rf=true):OkT rf.Qa rf.Qb (Ve rf) (VI rf plan) (Qg (RE rf)):=by
 have hs:=Q2 (Qw hr).1;refine IS hr (by rw[Ve,Xa];omega) (by rw[VI,Xa];omega) (fun k hk=> ?_) (fun k hk=> ?_) (Ap hr)
 ·have e:(Ve rf).getD k La=Ec rf:=Xc (k:=(k:Int)) (by omega) hk;rw[e];exact(hZ hr).2
 ·have e:(VI rf plan).getD k La=BJ rf (plan.getD ((k:Int)).toNat 0):=Xc (k:=(k:Int)) (by omega) hk;rw[e];exact(gA hr _).1
theorem Im{rf:Qc}{plan:List Int}{i:Int}(h0:0<=i)(h:i<rf.Qb):QM rf plan (i+1).toNat=XT (SB rf) (SO rf (plan.getD i.toNat 0)) rf.Qa (QM rf plan i.toNat):=by
 rw[show(i+1).toNat=i.toNat+1 by omega];show XT _ _ _ _=_;have e1:(Va rf).getD i.toNat La=SB rf:=Xc h0 h;have e2:(Vi rf plan).getD i.toNat La=SO rf (plan.getD i.toNat 0):=Xc h0 h;rw[e1,e2];rfl
theorem uB{rf:Qc}{plan:List Int}{s:Int}:(kT rf plan s).length=rf.Qa.length:=by rw[kT,Xa];omega
section
variable (B:Lo)(c0:CF)(rf:Qc)(plan:List Int)(la lb lc ld ha hb hc hd:Int)(ys:List RSp)(i j:Int)(zs:List Span)(zn:Nat)
end
end Go.Proofs.Ytncjjangllkokaa

namespace Go.Proofs.Ytncjjangllkokaa
open Go Go.CE Go.RowKit
abbrev BO(xs:List (List Span)):Value:=Xo xs.length (Qe pK xs)
end Go.Proofs.Ytncjjangllkokaa

namespace Go.CE
open Go Go.RowKit
section
variable {α β:Type}
def Tx(ke:α->Value)(ve:β->Value):List (α×β)->Nat->List MapEntry
 |[],_=>[]
 |p::l,i=>{key:=ke p.1,val:=ve p.2,born:=i}::Tx ke ve l (i+1)
structure tX (α β:Type) where
 ke:α->Value
 ve:β->Value
 eq:α->α->Bool
def mapA(M:tX α β)(l:List (α×β)):Array MapEntry:=(Tx M.ke M.ve l 0).toArray
def J9(eq:α->α->Bool)(l:List (α×β))(k:α):Bool:=l.any fun p=>eq k p.1
def xS[Inhabited β](eq:α->α->Bool):List (α×β)->α->β
 |[],_=>La
 |p::l,k=>bif eq k p.1 then p.2 else xS eq l k
def PE(eq:α->α->Bool):List (α×β)->α->Nat->Option (Nat×β)
 |[],_,_=>none
 |p::l,k,i=>bif eq k p.1 then some (i,p.2)else PE eq l k (i+1)
def rL(eq:α->α->Bool):List (α×β)->α->β->List (α×β)
 |[],k,x=>[(k,x)]
 |p::l,k,x=>bif eq k p.1 then(k,x)::l else p::rL eq l k x
def SA(M:tX α β)(l:List (α×β))(k:α):Bool:=J9 M.eq l k
def oD[Inhabited β](M:tX α β)(l:List (α×β))(k:α):β:=xS M.eq l k
def aV(M:tX α β)(l:List (α×β))(k:α)(x:β):List (α×β):=rL M.eq l k x
theorem oy[Inhabited β]{eq:α->α->Bool}:∀{l:List (α×β)} {k:α} {i:Nat},J9 eq l k=true->∃j,PE eq l k i=some (j,xS eq l k)
 |[],k,i,h=>by simp[J9]at h
 |p::l,k,i,h=>by
  unfold PE xS;cases e:eq k p.1 with
  |true=>exact⟨i,rfl⟩
  |false=>
   have h':J9 eq l k=true:=by
    unfold J9 at h ⊢;rw[List.any_cons,e,Bool.false_or]at h;exact h
   exact oy h'
theorem jc{eq:α->α->Bool}:∀{l:List (α×β)} {k:α} {i:Nat},J9 eq l k=false->PE eq l k i=none
 |[],k,i,h=>rfl
 |p::l,k,i,h=>by
  unfold J9 at h;rw[List.any_cons,Bool.or_eq_false_iff]at h;unfold PE;rw[h.1];exact jc (by unfold J9;exact h.2)
theorem xT{eq:α->α->Bool}:∀{l:List (α×β)} {k:α} {i j:Nat} {x:β},PE eq l k i=some (j,x)->i<=j/\∃p,l[j-i]? =some p/\eq k p.1=true/\∀y,rL eq l k y=l.set (j-i) (k,y)
 |[],k,i,j,x,h=>by cases h
 |p::l,k,i,j,x,h=>by
  unfold PE at h;cases e:eq k p.1 with
  |true=>
   rw[e]at h;simp only[cond_true,YO,YR]at h;obtain⟨rfl,_⟩:=h;exact⟨Lw _,p,by simp,e,fun y=>by simp[rL,e]⟩
  |false=>
   rw[e]at h;simp only[cond_false]at h;obtain⟨h1,q,h2,h3,h4⟩:=xT h;have e2:j-i=(j-(i+1))+1:=by omega
   exact⟨by omega,q,by rw[e2];simpa using h2,h3,fun y=>by rw[e2];simp[rL,e,h4 y]⟩
theorem v7{eq:α->α->Bool}:∀{l:List (α×β)} {k:α} {x:β},J9 eq l k=false->rL eq l k x=l++[(k,x)]
 |[],k,x,_=>rfl
 |p::l,k,x,h=>by
  unfold J9 at h;rw[List.any_cons,Bool.or_eq_false_iff]at h;unfold rL;rw[h.1];exact congrArg (p::·) (v7 (by unfold J9;exact h.2))
structure KeyC (P:Program) (kt:TypeId) (ke:α->Value) (eq:α->α->Bool):Prop where
 af:∀k,af (ke k)=true
 ck:∀b k,Xl P (Instr.checkKey b 10000 kt (ke k))=some ()
 sb:∀k,Instr.sameBits 10000 (ke k) (ke k)=true
 same:∀k k',eq k k'=true->k=k'
 un:∃d,Xl P (underlying kt)=some d/\((∀k k',Instr.sameNow d (ke k) (ke k')=some (eq k k'))\/((∀k k',Instr.sameNow d (ke k) (ke k')=none)/\∀k k',Xl P (Op.equal kt (ke k) (ke k'))=some (eq k k')))
theorem PB{ke:α->Value}{ve:β->Value}:∀{l:List (α×β)} {i j:Nat},(Tx ke ve l i)[j]? =(l[j]?).map fun p=>{key:=ke p.1,val:=ve p.2,born:=i+j}
 |[],i,j=>by simp[Tx]
 |p::l,i,0=>by simp[Tx]
 |p::l,i,j+1=>by
  simp only[Tx,List.getElem?_cons_succ];rw[PB (l:=l),show i+1+j=i+(j+1)by omega]
theorem mU{ke:α->Value}{ve:β->Value}:∀{l:List (α×β)} {i:Nat},(Tx ke ve l i).length=l.length
 |[],i=>rfl
 |p::l,i=>by simp[Tx,mU (l:=l)]
variable {P:Program} {kt:TypeId} {ke:α->Value} {ve:β->Value} {eq:α->α->Bool}
theorem yy{d:TypeDesc}(h:∀k k',Instr.sameNow d (ke k) (ke k')=some (eq k k')){k:α}:∀{l:List (α×β)} {i n:Nat},Instr.findNow d (ke k) (Tx ke ve l n) i=some ((PE eq l k i).map fun p=>(p.1,ve p.2))
 |[],i,n=>rfl
 |p::l,i,n=>by
  simp only[Tx,Instr.findNow,h,PE];cases e:eq k p.1 with
  |true=>rfl
  |false=>exact yy h (l:=l)
theorem yz(h:∀k k',Xl P (Op.equal kt (ke k) (ke k'))=some (eq k k')){k:α}:∀{l:List (α×β)} {i n:Nat},Xl P (Instr.findAsking kt (ke k) (Tx ke ve l n) i)=some ((PE eq l k i).map fun p=>(p.1,ve p.2))
 |[],i,n=>rfl
 |p::l,i,n=>by
  simp only[Tx,Instr.findAsking,Zf,h,PE];cases e:eq k p.1 with
  |true=>rfl
  |false=>simpa using yz h (l:=l)
theorem KeyC.find(h:KeyC P kt ke eq){k:α}{l:List (α×β)}:Xl P (Instr.findKey kt (ke k) (Tx ke ve l 0))=some ((PE eq l k 0).map fun p=>(p.1,ve p.2)):=by
 obtain⟨d,hd,h1|⟨h1,h2⟩⟩:=h.un
 ·simp only[Instr.findKey,Zf,hd,yy h1,Wv]
 ·simp only[Instr.findKey,Zf,hd];cases l with
  |nil=>rfl
  |cons p l=>
   have e:Instr.findNow d (ke k) (Tx ke ve (p::l) 0) 0=none:=by simp[Tx,Instr.findNow,h1]
   rw[e];exact yz h2
theorem sB[Inhabited β]{M:tX α β}(hk:KeyC P kt M.ke M.eq){t e:TypeId}(hu:JN P t=some (.map kt e)){l:List (α×β)}{k:α}{ok:Bool}(h:SA M l k=true):PO P t (mapA M l) ok (M.ke k) (bif ok then .tuple #[M.ve (oD M l k),.bool true]else M.ve (oD M l k)):=by
 intro H r PT hg;obtain⟨j,hj⟩:=oy (eq:=M.eq) (i:=0) h;unfold TC;rw[hu];simp only[hg,hk.af,cond_true,hk.ck];have hf:Xl P (Instr.findKey kt (M.ke k) (mapA M l).toList)=some (some (j,M.ve (oD M l k))):=by
  show Xl P (Instr.findKey kt (M.ke k) (Tx M.ke M.ve l 0))=_;rw[hk.find,hj];rfl
 rw[hf]
theorem sC{M:tX α β}(hk:KeyC P kt M.ke M.eq){t e:TypeId}{z:Value}(hu:JN P t=some (.map kt e))(hz:zeroOf P e=some z)(ha:Go.CE.af z=true){l:List (α×β)}{k:α}{ok:Bool}(h:SA M l k=false):PO P t (mapA M l) ok (M.ke k) (bif ok then .tuple #[z,.bool false]else z):=by
 intro H r PT hg;unfold TC;rw[hu];simp only[hg,hk.af,cond_true,hk.ck];have hf:Xl P (Instr.findKey kt (M.ke k) (mapA M l).toList)=some none:=by
  show Xl P (Instr.findKey kt (M.ke k) (Tx M.ke M.ve l 0))=_;rw[hk.find,jc h];rfl
 rw[hf,hz];simp only[ha,cond_true]
theorem NP{M:tX α β}(hk:KeyC P kt M.ke M.eq){t e:TypeId}(hu:JN P t=some (.map kt e)){l:List (α×β)}{k:α}{x:β}:ix P t (mapA M l) l.length (M.ke k) (M.ve x) (mapA M (aV M l k x)) (aV M l k x).length:=by
 intro H r hg;unfold K3;rw[hu];simp only[hg,hk.af,cond_true,hk.ck];cases hb:PE M.eq l k 0 with
 |some p=>
  obtain⟨j,y⟩:=p;have hf:Xl P (Instr.findKey kt (M.ke k) (mapA M l).toList)=some (some (j,M.ve y)):=by
   show Xl P (Instr.findKey kt (M.ke k) (Tx M.ke M.ve l 0))=_;rw[hk.find,hb];rfl
  rw[hf];obtain⟨_,q,h2,h3,h4⟩:=xT hb;have eq1:=hk.same _ _ h3;have h4:∀y,aV M l k y=l.set (j-0) (k,y):=h4;have hj:j<l.length:=(List.getElem?_eq_some_iff.1 h2).1;have hg2:(mapA M l)[j]? =some {key:=M.ke q.1,val:=M.ve q.2,born:=j}:=by
   unfold mapA;rw[LU,PB,show l[j]? =some q by simpa using h2];simp
  simp only[hg2];rw[<-eq1,hk.sb];simp only[cond_true];have es:(mapA M l).setIfInBounds j {key:=M.ke k,val:=M.ve x,born:=j}=mapA M (aV M l k x):=by
   rw[h4 x];apply Array.ext_getElem?;intro i;unfold mapA;rw[Array.getElem?_setIfInBounds,LU,LU,PB,PB,List.getElem?_set];simp only[Nat.sub_zero,Lv,List.size_toArray,mU];by_cases Rm:j=i
   ·subst Rm;simp[hj]
   ·simp[Rm]
  rw[es,h4 x,LS]
 |none=>
  have hf:Xl P (Instr.findKey kt (M.ke k) (mapA M l).toList)=some none:=by
   show Xl P (Instr.findKey kt (M.ke k) (Tx M.ke M.ve l 0))=_;rw[hk.find,hb];rfl
  rw[hf];have hnb:SA M l k=false:=by
   cases hq:J9 M.eq l k with
   |false=>exact hq
   |true=>
    exfalso;have:∀(l:List (α×β)) (i:Nat),J9 M.eq l k=true->PE M.eq l k i≠none:=by
     intro l;induction l with
     |nil=>intro i h;simp[J9]at h
     |cons p l ih=>
      intro i h;unfold PE;cases e:M.eq k p.1 with
      |true=>simp
      |false=>
       simp only[cond_false];refine ih _ ?_;unfold J9 at h ⊢;rw[List.any_cons,e,Bool.false_or]at h;exact h
    exact this l 0 hq hb
  rw[show aV M l k x=l++[(k,x)]from v7 hnb];have es:(mapA M l).push {key:=M.ke k,val:=M.ve x,born:=l.length}=mapA M (l++[(k,x)]):=by
   apply Array.ext_getElem?;intro i;unfold mapA;rw[Array.getElem?_push,LU,LU,PB,PB,List.getElem?_append];simp only[Lv,List.size_toArray,mU];by_cases h1:i=l.length
   ·subst h1;simp
   ·by_cases h2:i<l.length
    ·simp[h1,h2]
    ·have h3:i-l.length≠0:=by omega
     obtain⟨m,hm⟩:∃m,i-l.length=m+1:=⟨i-l.length-1,by omega⟩
     simp[h1,h2,hm]
  simp only[es,Ls,Lr,LD,Lv]
theorem QH{M:tX α β}(h:∀x,af (M.ve x)=true){l:List (α×β)}:QT (mapA M l):=by
 intro i e he;unfold mapA at he;rw[LU,PB]at he;obtain⟨p,_,rfl⟩:=Option.map_eq_some_iff.1 he;exact h _
end
end Go.CE
namespace Go.CE
open Go Go.RowKit
end Go.CE

namespace Go.Proofs.Ytncjjangllkokaa
open Go Go.CE Go.RowKit
set_option maxRecDepth 100000
def TP(plan:List Int)(s:Int):F4:=⟨if 0<s then plan.getD 0 0 else -1,if 1<s then plan.getD 1 0 else -1,if 2<s then plan.getD 2 0 else -1,if 3<s then plan.getD 3 0 else -1⟩
def Qbe(x y:F4):Bool:=decide (x.a=y.a) && (decide (x.b=y.b) && (decide (x.c=y.c) && decide (x.d=y.d)))
theorem y2{x y:F4}:Qbe x y=true<->x=y:=by
 cases x;cases y;simp[Qbe]
abbrev v4(f:F4):Value:=.agg #[YI f.a,YI f.b,YI f.c,YI f.d]
def Q3:tX F4 F4:=⟨v4,v4,Qbe⟩
theorem rS{P:Program}{t:TypeId}{a b:Int}{d:Nat}(hu:Xl P (underlying t)=some (.int .i64)):Xl P (Op.equalIn (d+1) t (YI a) (YI b))=some (decide (a=b)):=by
 rw[Op.equalIn,Zf,hu];simp only[if_true,Wv];congr 1
theorem WK:KeyC YP 82 Q3.ke Q3.eq:=⟨fun _=>by kernel_rfl,fun _ _=>by kernel_rfl,fun k=>by
 show((true && ((decide (IntKind.i64=.i64) && k.a==k.a) && _)):Bool)=true;simp[Instr.sameBits],fun k k' h=>y2.1 h,⟨.array 4 3,by kernel_rfl,.inr ⟨fun _ _=>by kernel_rfl,fun k k'=>by
  have hi:Xl YP (underlying 3)=some (.int .i64):=by kernel_rfl
  have hs:Xl YP (sizeOf 3)=some 1:=by kernel_rfl
  have hk:Xl YP (underlying 82)=some (.array 4 3):=by kernel_rfl
  have h0:∀(a b c d:Int),Xl YP (part 3 #[YI a,YI b,YI c,YI d] (0*1))=some (YI a):=fun a b c d=>by kernel_rfl
  have h1:∀(a b c d:Int),Xl YP (part 3 #[YI a,YI b,YI c,YI d] ((0+1)*1))=some (YI b):=fun a b c d=>by kernel_rfl
  have h2:∀(a b c d:Int),Xl YP (part 3 #[YI a,YI b,YI c,YI d] ((0+1+1)*1))=some (YI c):=fun a b c d=>by kernel_rfl
  have h3:∀(a b c d:Int),Xl YP (part 3 #[YI a,YI b,YI c,YI d] ((0+1+1+1)*1))=some (YI d):=fun a b c d=>by kernel_rfl
  show Xl YP (Op.equalIn (9998+1+1) 82 (.agg #[YI k.a,YI k.b,YI k.c,YI k.d]) (.agg #[YI k'.a,YI k'.b,YI k'.c,YI k'.d]))=_;rw[Op.equalIn,Zf,hk];simp only[Zf,hs];rw[Std.Legacy.Range.forIn_eq_forIn_range'];simp only[Std.Legacy.Range.size,Ly,List.forIn_cons,List.forIn_nil,Zf];show _=some (decide (k.a=k'.a) && (decide (k.b=k'.b) && (decide (k.c=k'.c) && decide (k.d=k'.d))));simp only[Zf,h0,rS hi];cases decide (k.a=k'.a)with
  |false=>rfl
  |true=>
   simp only[Bool.not_true,Bool.false_eq_true,if_false,Wv,Bool.true_and];simp only[Zf,h1,rS hi];cases decide (k.b=k'.b)with
   |false=>rfl
   |true=>
    simp only[Bool.not_true,Bool.false_eq_true,if_false,Wv,Bool.true_and];simp only[Zf,h2,rS hi];cases decide (k.c=k'.c)with
    |false=>rfl
    |true=>
     simp only[Bool.not_true,Bool.false_eq_true,if_false,Wv,Bool.true_and];simp only[Zf,h3,rS hi];cases decide (k.d=k'.d)with
     |false=>rfl
     |true=>
      simp only[Bool.not_true,Bool.false_eq_true,if_false,Wv,Bool.true_and]⟩⟩⟩
def Uf(rf:Qc)(es:List (F4×F4)):Prop:=∀p∈es,∃(pl:List Int) (s:Nat),XJ rf pl=true/\1<=s/\(s:Int)<=rf.Qb/\p.1=TP pl s/\p.2=QM rf pl s
def Xr(rf:Qc)(plan:List Int):Nat->List (F4×F4)->List (F4×F4)
 |0,es=>es
 |s+1,es=>bif SA Q3 es (TP plan ((s+1:Nat):Int))then es else aV Q3 (Xr rf plan s es) (TP plan ((s+1:Nat):Int)) (XT (SB rf) (SO rf (plan.getD s 0)) rf.Qa (QM rf plan s))
theorem yv{rf:Qc}:Uf rf []:=fun p h=>by cases h
theorem Om{es:List (F4×F4)}{k:F4}(h:SA Q3 es k=true):(k,oD Q3 es k)∈es:=by
 induction es with
 |nil=>cases h
 |cons p l ih=>
  unfold SA J9 at h;unfold oD xS;rw[List.any_cons]at h;cases e:Q3.eq k p.1 with
  |true=>rw[y2.1 e];exact List.mem_cons_self ..
  |false=>
   rw[e,Bool.false_or]at h;exact Lj _ (ih h)
theorem Oj{es:List (F4×F4)}{k x:F4}:∀p∈aV Q3 es k x,p=(k,x)\/p∈es:=by
 induction es with
 |nil=>
  intro p h;unfold aV rL at h;exact .inl (List.mem_singleton.1 h)
 |cons q l ih=>
  intro p h;unfold aV rL at h;cases e:Q3.eq k q.1 with
  |true=>
   rw[e,cond_true]at h;rcases List.mem_cons.1 h with h|h
   ·exact .inl h
   ·exact .inr (Lj _ h)
  |false=>
   rw[e,cond_false]at h;rcases List.mem_cons.1 h with h|h
   ·exact .inr (h ▸ List.mem_cons_self ..)
   ·rcases ih p h with h|h
    ·exact .inl h
    ·exact .inr (Lj _ h)
theorem Mm{rf:Qc}(hr:X4 rf=true){pl pl':List Int}{s s':Nat}(h:XJ rf pl=true)(h':XJ rf pl'=true)(hs:(s:Int)<=rf.Qb)(hs':(s':Int)<=rf.Qb)(e:TP pl s=TP pl' s'):s=s'/\∀k:Nat,k<s->pl.getD k 0=pl'.getD k 0:=by
 have Zi:=Q2 (Qw hr).1;have g:=fun j=>Z1 hr h j
 have g':=fun j=>Z1 hr h' j
 have e0:=congrArg F4.a e;have e1:=congrArg F4.b e;have e2:=congrArg F4.c e;have e3:=congrArg F4.d e;simp only[TP]at e0 e1 e2 e3;have g0:=g 0;have g1:=g 1;have g2:=g 2;have g3:=g 3;have g0':=g' 0;have g1':=g' 1;have g2':=g' 2;have g3':=g' 3;have es:s=s':=by
  repeat' split at e0
  all_goals (repeat' split at e1)
  all_goals (repeat' split at e2)
  all_goals (repeat' split at e3)
  all_goals omega
 subst es;refine⟨rfl,fun k hk=> ?_⟩;rcases(show k=0\/k=1\/k=2\/k=3 by omega)with rfl|rfl|rfl|rfl
 ·rw[if_pos (by omega),if_pos (by omega)]at e0;exact e0
 ·rw[if_pos (by omega),if_pos (by omega)]at e1;exact e1
 ·rw[if_pos (by omega),if_pos (by omega)]at e2;exact e2
 ·rw[if_pos (by omega),if_pos (by omega)]at e3;exact e3
theorem Y1{rf:Qc}{plan:List Int}{s:Nat}(h:((s+1:Nat):Int)<=rf.Qb):QM rf plan (s+1)=XT (SB rf) (SO rf (plan.getD s 0)) rf.Qa (QM rf plan s):=Im (i:=(s:Int)) (by omega) (by omega)
theorem xO{rf:Qc}{pl pl':List Int}:∀s:Nat,(s:Int)<=rf.Qb->(∀k:Nat,k<s->pl.getD k 0=pl'.getD k 0)->QM rf pl s=QM rf pl' s
 |0,_,_=>rfl
 |s+1,hs,h=>by
  rw[Y1 hs,Y1 hs,xO s (by omega) fun k hk=>h k (by omega),h s (by omega)]
theorem cj{rf:Qc}{plan:List Int}{es:List (F4×F4)}{s:Nat}(hr:X4 rf=true)(hp:XJ rf plan=true)(he:Uf rf es)(hs:(s:Int)<=rf.Qb)(h:SA Q3 es (TP plan s)=true):oD Q3 es (TP plan s)=QM rf plan s:=by
 obtain⟨pl,s',h1,_,h3,h4,h5⟩:=he _ (Om h);obtain⟨rfl,hk⟩:=Mm hr hp h1 hs h3 h4;rw[show oD Q3 es (TP plan s)=_ from h5];exact(xO s hs hk).symm
theorem Pa{rf:Qc}{plan:List Int}{es:List (F4×F4)}(hp:XJ rf plan=true)(he:Uf rf es):∀s:Nat,(s:Int)<=rf.Qb->Uf rf (Xr rf plan s es)
 |0,_=>he
 |s+1,hs=>by
  unfold Xr;cases SA Q3 es (TP plan ((s+1:Nat):Int))with
  |true=>exact he
  |false=>
   intro p h;rcases Oj p h with rfl|h
   ·exact⟨plan,s+1,hp,by omega,hs,rfl,(Y1 hs).symm⟩
   ·exact Pa hp he s (by omega) p h
theorem Jz{rf:Qc}{plan:List Int}(hr:X4 rf=true){s:Nat}(hs:(s:Int)<=rf.Qb):PW ⟨(QM rf plan s).a,(QM rf plan s).b,(QM rf plan s).c,(QM rf plan s).d⟩/\F4.sum ⟨(QM rf plan s).a,(QM rf plan s).b,(QM rf plan s).c,(QM rf plan s).d⟩<=10000000000:=by
 have Zi:=Q2 (Qw hr).1;have h:=(sT plan hr).st s (by omega);have hh:=(sT plan hr).hs;refine⟨h.1, ?_⟩;have:=h.2;show(QM rf plan s).sum<=_;unfold QM;omega
def eZ(a b c d k:Int)(w x y z i:Int):List Value:=[pA 2 0,pA 3 0,YI i]
def bS(a b c d k:Int)(w x y z i:Int):List Obj:=[.cells #[YI w,YI x,YI y,YI z] 82 (0,0),Obj.cells #[YI 0,YI 0,YI 0,YI 0] 82]
noncomputable def fe:List Item:=([.code [1,0,1,0,0],.inLoop [1,0,1,0,0],.inBlock 0,.code [1,1]]).map (it (Q8 YP 111))
def NB(B:Lo)(c0:CF)(a b c d k:Int)(w x y z i:Int):Prop:=∃dJ:Nat->Value,(∀t,Xh (dJ t))/\GoE YP B c0 Zd 1 (QC 111 14 (([2,4,5]:List Nat).zip (eZ a b c d k w x y z i)) dJ fe) (Q9 (bS a b c d k w x y z i)) (2+(bS a b c d k w x y z i).length) []
theorem N9(B:Lo)(a b c d k:Int)(w x y z i:Int)(Ql:Nat->Value):let e:=bS a b c d k w x y z i;landM (Qn YP (Q0 YP) J0 B 11 1 (QC 111 14 (([2,4,5]:List Nat).zip (eZ a b c d k w x y z i)) Ql fe) (Q9 e) (2+e.length)
 [(1,Wj),(3,Qf.XO (Hint.idx i.toNat)),(4,Qf.XO (Hint.st #[YI (if Lb i=0 then -1 else w),YI (if Lb i=1 then -1 else x),YI (if Lb i=2 then -1 else y),YI (if Lb i=3 then -1 else z)])),(6,Zu (i+1))] 0 [] []) [2,4,5] [(2,KS.auto),(3,KS.auto)] []=some ⟨111,14,fe,[],.run,none,eZ a b c d k (if Lb i=0 then -1 else w) (if Lb i=1 then -1 else x) (if Lb i=2 then -1 else y) (if Lb i=3 then -1 else z) (i+1),bS a b c d k (if Lb i=0 then -1 else w) (if Lb i=1 then -1 else x) (if Lb i=2 then -1 else y) (if Lb i=3 then -1 else z) (i+1),
 [wq (i+1)=i+1,0+Lb i*1+TypeInfo.size Try.t3<=LQ #[Value.int .i64 w,YI x,YI y,YI z]/\splice #[YI w,YI x,YI y,YI z] (0+Lb i*1) (Value.cells (YI (-1)))=#[YI (if Lb i=0 then -1 else w),YI (if Lb i=1 then -1 else x),YI (if Lb i=2 then -1 else y),YI (if Lb i=3 then -1 else z)],i=(↑i.toNat:Int)/\Lb i<4,XB i 4=true]⟩:=by intro e;kernel_rfl
theorem N8(B:Lo)(a b c d k:Int)(w x y z i:Int)(Ql:Nat->Value):let e:=bS a b c d k w x y z i;Xv (Qn YP (Q0 YP) J0 B 9 1 (QC 111 14 (([2,4,5]:List Nat).zip (eZ a b c d k w x y z i)) Ql fe) (Q9 e) (2+e.length)
 [(1,WC)] 0 [] []) []=some (.agg #[YI w,YI x,YI y,YI z],
 [XB i 4=false]):=by intro e;kernel_rfl
theorem N7(B:Lo)(a b c d k:Int):landM (Qn YP (Q0 YP) J0 B 7 1 (Qu YP 111 14 (([.agg #[YI a,YI b,YI c,YI d],YI k]).map (Q4 0 4))) Zd 1
 [] 0 [] []) [2,4,5] [(1,KS.auto),(2,KS.auto)] []=some ⟨111,14,fe,[],.run,none,eZ a b c d k (a) (b) (c) (d) (k),bS a b c d k (a) (b) (c) (d) (k),
 []⟩:=by kernel_rfl
set_option maxHeartbeats 4000000 in
theorem NA(a b c d k:Int)(k0:0<=k)(k4:k<=4){B:Lo}(hJ:∀w,B.has w->J0 w){c0:CF}:∀m:Nat,(∀(w x y z i:Int),(4-i).toNat=m->∀(h0:k<=i) (h4:i<=4) (hw:w=if k<=0/\0<i then -1 else a) (hx:x=if k<=1/\1<i then -1 else b) (hy:y=if k<=2/\2<i then -1 else c) (hz:z=if k<=3/\3<i then -1 else d),NB B c0 a b c d k w x y z i->EndsT YP B c0 (.agg #[YI (if 0<k then a else -1),YI (if 1<k then b else -1),YI (if 2<k then c else -1),YI (if 3<k then d else -1)])):=by
 intro m0;induction m0 using LB with
 |_ m0 ih0=>
  intro w x y z i Jw h0 h4 hw hx hy hz ⟨Ql,Wl,X0⟩;by_cases q0:(i:Int)<(4)
  ·exact((ih0 _ (by omega)) (if Lb i=0 then -1 else w) (if Lb i=1 then -1 else x) (if Lb i=2 then -1 else y) (if Lb i=3 then -1 else z) (i+1) rfl (by omega) (by omega) (by omega) (by omega) (by omega) (by omega)
    (X0.lM (N9 B a b c d k w x y z i Ql)
    ⟨wI,⟨(iv rfl (fs:=[w,x,y,z]) rfl (LO (m:=4) (by omega) rfl) rfl),⟨⟨by omega,by omega⟩,⟨(Xs q0),trivial⟩⟩⟩⟩)).cR
  ·exact(GoE.eT X0 (N8 B a b c d k w x y z i Ql)
    ⟨(nL q0),trivial⟩).cast (by(simp_all[];omega))
set_option maxHeartbeats 4000000 in
theorem QaF(a b c d k:Int)(k0:0<=k)(k4:k<=4){B:Lo}(hJ:∀w,B.has w->J0 w):EndsT YP B (Qu YP 111 14 (([.agg #[YI a,YI b,YI c,YI d],YI k]).map (Q4 0 4))) (.agg #[YI (if 0<k then a else -1),YI (if 1<k then b else -1),YI (if 2<k then c else -1),YI (if 3<k then d else -1)]):=by
 exact((NA a b c d k k0 k4 hJ _) (a) (b) (c) (d) (k) rfl (by omega) ‹_› (by omega) (by omega) (by omega) (by omega)
  (GoE.start.lM (N7 B a b c d k)
  trivial)).cR
theorem NC(a b c d k:Int)(k0:0<=k)(k4:k<=4):Qv YP J0 111 #[.agg #[YI a,YI b,YI c,YI d],YI k] (.agg #[YI (if 0<k then a else -1),YI (if 1<k then b else -1),YI (if 2<k then c else -1),YI (if 3<k then d else -1)]):=
 Xd (ts:=[.agg #[YI a,YI b,YI c,YI d],YI k]) Zc (c0:=Qu YP 111 14 (([.agg #[YI a,YI b,YI c,YI d],YI k]).map (Q4 0 4))) (by kernel_rfl) (by kernel_rfl) fun B hJ=>QaF a b c d k k0 k4 hJ
end Go.Proofs.Ytncjjangllkokaa

namespace Go.Proofs.Ytncjjangllkokaa
open Go Go.CE Go.RowKit
noncomputable section
set_option maxRecDepth 100000
def o6(rf:Qc)(plan:List Int)(es:List (F4×F4)):Qm:=[(1,.map (mapA Q3 es) es.length),(0,QV)]
def fV(rf:Qc)(plan:List Int)(es:List (F4×F4)):CF:=Qu YP 89 45 [.agg #[Qk 0 (Xp rf.Qa),YI rf.Qh,YI rf.Qb,.map (some 1)],.agg #[YI (plan.getD 0 0),YI (plan.getD 1 0),YI (plan.getD 2 0),YI (plan.getD 3 0)],YI 0]
def I1(rf:Qc):Value:=(.agg #[YI (Ln (YA rf) 0 La),YI (Ln (YA rf) 1 La),YI (Ln (YA rf) 2 La),YI (Ln (YA rf) 3 La)])
theorem I2(B:Lo)(rf:Qc)(plan:List Int)(es:List (F4×F4)):let a:=I1 rf;CE.finK 2 (Qn YP (Q0 YP) J0 B 12 2 (fV rf plan es) (o6 rf plan es) 2
 [(12,Qf.pure a [])] 0 [] []) [(1,KS.same)] [] []=some (OO.ret a,[(1,Obj.map (mapA Q3 es) es.length)],[],
 [QT (mapA Q3 es),Qz []/\Qv YP J0 75 #[.agg #[Xp rf.Qa,YI rf.Qh,YI rf.Qb,YI (plan.getD 0 0),YI (plan.getD 1 0),YI (plan.getD 2 0),YI (plan.getD 3 0)],Value.func (Fn.func 76) #[] #[]] a]):=by intro a;kernel_rfl
set_option maxHeartbeats 4000000 in
theorem Od(rf:Qc)(plan:List Int)(es:List (F4×F4))(hr:X4 rf=true)(hp:XJ rf plan=true)(he:Uf rf es){B:Lo}(hJ:∀w,B.has w->J0 w):FinK YP B (fV rf plan es) (o6 rf plan es) 2 (.ret (.agg #[YI (QM rf plan 0).a,YI (QM rf plan 0).b,YI (QM rf plan 0).c,YI (QM rf plan 0).d])) (([1]:List Nat).zip [.map (mapA Q3 (Xr rf plan 0 es)) (Xr rf plan 0 es).length]) [] ([1]:List Nat):=by
 have Zi:=Q2 (Qw hr).1;exact(GoE.fK ((GoE.refl (P:=YP) (B:=B) (c0:=fV rf plan es) uA).widen (Wf:=((([(1,KS.same)]):List (Nat×KS)).map (·.1))) (by simp) wO) (I2 B rf plan es)
  ⟨(by exact QH (fun _=>by kernel_rfl)),⟨⟨trivial,N2 (rf) (plan) ‹_›⟩,trivial⟩⟩).cast (by rfl) (by rfl) (by rfl)
def tk(rf:Qc)(plan:List Int)(es:List (F4×F4)):OO:=.ret (.agg #[YI (QM rf plan 0).a,YI (QM rf plan 0).b,YI (QM rf plan 0).c,YI (QM rf plan 0).d])
def tj(rf:Qc)(plan:List Int)(es:List (F4×F4)):List Obj:=[.map (mapA Q3 (Xr rf plan 0 es)) (Xr rf plan 0 es).length]
def tl(rf:Qc)(plan:List Int)(es:List (F4×F4)):List Obj:=[]
def Oe(rf:Qc)(plan:List Int)(es:List (F4×F4)):Prop:=WriC YP J0 89 #[.agg #[Qk 0 (Xp rf.Qa),YI rf.Qh,YI rf.Qb,.map (some 1)],.agg #[YI (plan.getD 0 0),YI (plan.getD 1 0),YI (plan.getD 2 0),YI (plan.getD 3 0)],YI 0] [.map (mapA Q3 es) es.length] (tk rf plan es) (tj rf plan es) (tl rf plan es)
theorem OW(rf:Qc)(plan:List Int)(es:List (F4×F4))(hr:X4 rf=true)(hp:XJ rf plan=true)(he:Uf rf es):WriC YP J0 89 #[.agg #[Qk 0 (Xp rf.Qa),YI rf.Qh,YI rf.Qb,.map (some 1)],.agg #[YI (plan.getD 0 0),YI (plan.getD 1 0),YI (plan.getD 2 0),YI (plan.getD 3 0)],YI 0] [.map (mapA Q3 es) es.length] (tk rf plan es) (tj rf plan es) (tl rf plan es):=
 FinK.wri (c0:=fV rf plan es) (Hb:=o6 rf plan es) (a:=2) (ws:=([1]:List Nat).zip [.map (mapA Q3 (Xr rf plan 0 es)) (Xr rf plan 0 es).length]) (Wf:=([1]:List Nat)) (by kernel_rfl) rfl rfl rfl rfl fun B hJ=>Od rf plan es hr hp he hJ
def fU(rf:Qc)(plan:List Int)(es:List (F4×F4)):Qm:=[(1,.map (mapA Q3 es) es.length),(0,QV)]
def S8(rf:Qc)(plan:List Int)(es:List (F4×F4)):CF:=Qu YP 89 45 [.agg #[Qk 0 (Xp rf.Qa),YI rf.Qh,YI rf.Qb,.map (some 1)],.agg #[YI (plan.getD 0 0),YI (plan.getD 1 0),YI (plan.getD 2 0),YI (plan.getD 3 0)],YI 1]
def yi(plan:List Int)(es:List (F4×F4)):Array Value:=let e:=oD Q3 es {a:=if 0<1 then plan.getD 0 0 else -1,b:= -1,c:= -1,d:= -1};#[YI e.a,YI e.b,YI e.c,YI e.d]
def aU(plan:List Int):Value:=(.agg #[YI (if 0<1 then plan.getD 0 0 else -1),YI (-1),YI (-1),YI (-1)])
def yh(rf:Qc)(plan:List Int):=(SO rf (plan.getD (Lb 0) 0))
def Iy(rf:Qc)(plan:List Int):Value:=let f:=QM rf plan 0;let e:=XT (SB rf) (yh rf plan) rf.Qa {a:=f.a,b:=f.b,c:=f.c,d:=f.d};(.agg #[YI e.a,YI e.b,YI e.c,YI e.d])
def yg  :Value:=(.tuple #[.agg #[YI 0,YI 0,YI 0,YI 0],.bool false])
def o5(B:Lo)(rf:Qc)(plan:List Int)(es:List (F4×F4)):List Prop:=[Qz []/\Qv YP J0 111 #[.agg #[YI (plan.getD 0 0),YI (plan.getD 1 0),YI (plan.getD 2 0),YI (plan.getD 3 0)],YI 1] (aU plan)]++([]:List Prop)
def yj(rf:Qc)(plan:List Int)(es:List (F4×F4)):QA:=[(13,Qf.pure (aU plan) [])]
theorem I0(B:Lo)(rf:Qc)(plan:List Int)(es:List (F4×F4)):let b:=mapA Q3 es;let a:=Value.tuple #[.agg (yi plan es),.bool true];CE.finK 2 (Qn YP (Q0 YP) J0 B 22 2 (S8 rf plan es) (fU rf plan es) 2
 (yj rf plan es++[(19,Qf.XO (Hint.look a))]) 0 [] []) [(1,KS.same)] [] []=some (OO.ret (.agg (yi plan es)),[(1,Obj.map b es.length)],[],
 [QT b,PO YP 96 b true (Xx {len:=16000,tr:=Tri.set 14 (Tri.set 14 Tri.lf 25 (aU plan)) 24 (Value.map (some 1))} 25) a]++o5 B rf plan es):=by intro b a;kernel_rfl
theorem Iz(B:Lo)(rf:Qc)(plan:List Int)(es:List (F4×F4)):let l:=Value.map (some 1);let k:=rf.Qa;let j:=Iy rf plan;let i:=Tri.set 14 (Tri.set 14 Tri.lf 43 j) 42 (aU plan);let h:=Xr rf plan 0 es;let g:=QM rf plan 0;let f:=aV Q3 h {a:=if 0<1 then plan.getD 0 0 else -1,b:= -1,c:= -1,d:= -1} (XT (SB rf) (SO rf (plan.getD (Lb 0) 0)) k {a:=g.a,b:=g.b,c:=g.c,d:=g.d});let e:=aV Q3 h {a:=if 0<1 then plan.getD 0 0 else -1,b:= -1,c:= -1,d:= -1} (XT (SB rf) (yh rf plan) k {a:=g.a,b:=g.b,c:=g.c,d:=g.d});CE.finK 2 (Qn YP (Q0 YP) J0 B 24 2 (S8 rf plan es) (fU rf plan es) 2
 (yj rf plan es++[(19,Qf.XO (Hint.look yg)),(33,Qf.wri [1] [0] [true] [] (tk rf plan es) (tj rf plan es) (tl rf plan es)),(36,Qf.pure j []),(42,Qf.XO (Hint.upd (mapA Q3 e) e.length))]) 0 [] []) [(1,KS.same)] [] []=some (OO.ret j,[(1,Obj.map (mapA Q3 e) e.length)],[],
 [QT (mapA Q3 f),ix YP 96 (mapA Q3 h) h.length (Xx {len:=16000,tr:=Tri.set 14 i 41 l} 42) (Xx {len:=16000,tr:=Tri.set 14 i 41 l} 43) (mapA Q3 f) f.length,Qz []/\Qv YP J0 78 #[.agg #[Xo k.length (Qe Qt k),YI rf.Qh,YI rf.Qb,YI (plan.getD 0 0),YI (plan.getD 1 0),YI (plan.getD 2 0),YI (plan.getD 3 0)],.agg #[YI g.a,YI g.b,YI g.c,YI g.d],YI 0] j,Qz [QT (mapA Q3 es),QT (mapA Q3 h)]/\Oe (rf) (plan) (es),PO YP 96 (mapA Q3 es) true (Xx {len:=16000,tr:=Tri.set 14 (Tri.set 14 Tri.lf 25 (aU plan)) 24 l} 25) yg]++o5 B rf plan es):=by intro l k j i h g f e;kernel_rfl
set_option maxHeartbeats 4000000 in
theorem Ob(rf:Qc)(plan:List Int)(es:List (F4×F4))(hr:X4 rf=true)(hp:XJ rf plan=true)(he:Uf rf es)(hs:1<=rf.Qb){B:Lo}(hJ:∀w,B.has w->J0 w):FinK YP B (S8 rf plan es) (fU rf plan es) 2 (.ret (.agg #[YI (QM rf plan 1).a,YI (QM rf plan 1).b,YI (QM rf plan 1).c,YI (QM rf plan 1).d])) (([1]:List Nat).zip [.map (mapA Q3 (Xr rf plan 1 es)) (Xr rf plan 1 es).length]) [] ([1]:List Nat):=by
 have Zi:=Q2 (Qw hr).1;have hpf:=(Xz hp).1;have hpg:∀j:Nat,0<=plan.getD j 0/\plan.getD j 0<=1000000:=fun j=>(fun h=>⟨h.1,by omega⟩) (Z1 hr hp j)
 have hf4:=(Jz (plan:=plan) hr (s:=0) (by omega)).1;have hs4:=(Jz (plan:=plan) hr (s:=0) (by omega)).2;have hnx:=Y1 (rf:=rf) (plan:=plan) (s:=0) (by omega);have VO:Qz (o5 B rf plan es):=by
  exact⟨⟨trivial,NC (plan.getD 0 0) (plan.getD 1 0) (plan.getD 2 0) (plan.getD 3 0) (1) (by omega) (by omega)⟩,trivial⟩
 cases q0:SA Q3 es {a:=if 0<1 then plan.getD 0 0 else -1,b:= -1,c:= -1,d:= -1}with
 |true=>
  have hfo:=cj (s:=1) hr hp he (by omega) q0;exact(GoE.fK ((GoE.refl (P:=YP) (B:=B) (c0:=S8 rf plan es) uA).widen (Wf:=((([(1,KS.same)]):List (Nat×KS)).map (·.1))) (by simp) wO) (I0 B rf plan es)
   ⟨(by exact QH (fun _=>by kernel_rfl)),⟨(sB (k:={a:=if 0<1 then plan.getD 0 0 else -1,b:= -1,c:= -1,d:= -1}) (ok:=true) WK rfl q0),VO⟩⟩).cast (by(show _=OO.ret (v4 (QM rf plan 1));rw[<-hfo];rfl)) (by(unfold Xr;rw[show SA Q3 es (TP plan ((0+1:Nat):Int))=_ from q0];rfl)) (by rfl)
 |false=>
  exact(GoE.fK ((GoE.refl (P:=YP) (B:=B) (c0:=S8 rf plan es) uA).widen (Wf:=((([(1,KS.same)]):List (Nat×KS)).map (·.1))) (by simp) wO) (Iz B rf plan es)
   ⟨(by exact QH (fun _=>by kernel_rfl)),⟨(NP (k:={a:=if 0<1 then plan.getD 0 0 else -1,b:= -1,c:= -1,d:= -1}) (x:=XT (SB rf) (SO rf (plan.getD (Lb 0) 0)) rf.Qa {a:=F4.a (QM rf plan 0),b:=F4.b (QM rf plan 0),c:=F4.c (QM rf plan 0),d:=F4.d (QM rf plan 0)}) WK rfl),⟨⟨trivial,jY (rf) (plan) (F4.a (QM rf plan 0)) (F4.b (QM rf plan 0)) (F4.c (QM rf plan 0)) (F4.d (QM rf plan 0)) (0) ‹_› (by omega) ‹_› (by omega) (by omega) ‹_› ‹_›⟩,⟨⟨⟨(QH (fun _=>by kernel_rfl)),⟨(QH (fun _=>by kernel_rfl)),trivial⟩⟩,OW (rf) (plan) (es) ‹_› ‹_› ‹_›⟩,⟨(sC (k:={a:=if 0<1 then plan.getD 0 0 else -1,b:= -1,c:= -1,d:= -1}) (ok:=true) WK rfl rfl (by kernel_rfl) q0),VO⟩⟩⟩⟩⟩).cast (by(show _=OO.ret (v4 (QM rf plan (0+1)));rw[hnx];rfl)) (by(unfold Xr;rw[show SA Q3 es (TP plan ((0+1:Nat):Int))=_ from q0];rfl)) (by rfl)
def th(rf:Qc)(plan:List Int)(es:List (F4×F4)):OO:=.ret (.agg #[YI (QM rf plan 1).a,YI (QM rf plan 1).b,YI (QM rf plan 1).c,YI (QM rf plan 1).d])
def tg(rf:Qc)(plan:List Int)(es:List (F4×F4)):List Obj:=[.map (mapA Q3 (Xr rf plan 1 es)) (Xr rf plan 1 es).length]
def ti(rf:Qc)(plan:List Int)(es:List (F4×F4)):List Obj:=[]
def Oc(rf:Qc)(plan:List Int)(es:List (F4×F4)):Prop:=WriC YP J0 89 #[.agg #[Qk 0 (Xp rf.Qa),YI rf.Qh,YI rf.Qb,.map (some 1)],.agg #[YI (plan.getD 0 0),YI (plan.getD 1 0),YI (plan.getD 2 0),YI (plan.getD 3 0)],YI 1] [.map (mapA Q3 es) es.length] (th rf plan es) (tg rf plan es) (ti rf plan es)
theorem OV(rf:Qc)(plan:List Int)(es:List (F4×F4))(hr:X4 rf=true)(hp:XJ rf plan=true)(he:Uf rf es)(hs:1<=rf.Qb):WriC YP J0 89 #[.agg #[Qk 0 (Xp rf.Qa),YI rf.Qh,YI rf.Qb,.map (some 1)],.agg #[YI (plan.getD 0 0),YI (plan.getD 1 0),YI (plan.getD 2 0),YI (plan.getD 3 0)],YI 1] [.map (mapA Q3 es) es.length] (th rf plan es) (tg rf plan es) (ti rf plan es):=
 FinK.wri (c0:=S8 rf plan es) (Hb:=fU rf plan es) (a:=2) (ws:=([1]:List Nat).zip [.map (mapA Q3 (Xr rf plan 1 es)) (Xr rf plan 1 es).length]) (Wf:=([1]:List Nat)) (by kernel_rfl) rfl rfl rfl rfl fun B hJ=>Ob rf plan es hr hp he hs hJ
def fT(rf:Qc)(plan:List Int)(es:List (F4×F4)):Qm:=[(1,.map (mapA Q3 es) es.length),(0,QV)]
def S7(rf:Qc)(plan:List Int)(es:List (F4×F4)):CF:=Qu YP 89 45 [.agg #[Qk 0 (Xp rf.Qa),YI rf.Qh,YI rf.Qb,.map (some 1)],.agg #[YI (plan.getD 0 0),YI (plan.getD 1 0),YI (plan.getD 2 0),YI (plan.getD 3 0)],YI 2]
def ye(plan:List Int)(es:List (F4×F4)):Array Value:=let e:=oD Q3 es {a:=if 0<2 then plan.getD 0 0 else -1,b:=if 1<2 then plan.getD 1 0 else -1,c:= -1,d:= -1};#[YI e.a,YI e.b,YI e.c,YI e.d]
def aT(plan:List Int):Value:=(.agg #[YI (if 0<2 then plan.getD 0 0 else -1),YI (if 1<2 then plan.getD 1 0 else -1),YI (-1),YI (-1)])
def yd(rf:Qc)(plan:List Int):=(SO rf (plan.getD (Lb 1) 0))
def Iv(rf:Qc)(plan:List Int):Value:=let f:=QM rf plan 1;let e:=XT (SB rf) (yd rf plan) rf.Qa {a:=f.a,b:=f.b,c:=f.c,d:=f.d};(.agg #[YI e.a,YI e.b,YI e.c,YI e.d])
def yc  :Value:=(.tuple #[.agg #[YI 0,YI 0,YI 0,YI 0],.bool false])
def o4(B:Lo)(rf:Qc)(plan:List Int)(es:List (F4×F4)):List Prop:=[Qz []/\Qv YP J0 111 #[.agg #[YI (plan.getD 0 0),YI (plan.getD 1 0),YI (plan.getD 2 0),YI (plan.getD 3 0)],YI 2] (aT plan)]++([]:List Prop)
def yf(rf:Qc)(plan:List Int)(es:List (F4×F4)):QA:=[(13,Qf.pure (aT plan) [])]
theorem Ix(B:Lo)(rf:Qc)(plan:List Int)(es:List (F4×F4)):let b:=mapA Q3 es;let a:=Value.tuple #[.agg (ye plan es),.bool true];CE.finK 2 (Qn YP (Q0 YP) J0 B 22 2 (S7 rf plan es) (fT rf plan es) 2
 (yf rf plan es++[(19,Qf.XO (Hint.look a))]) 0 [] []) [(1,KS.same)] [] []=some (OO.ret (.agg (ye plan es)),[(1,Obj.map b es.length)],[],
 [QT b,PO YP 96 b true (Xx {len:=16000,tr:=Tri.set 14 (Tri.set 14 Tri.lf 25 (aT plan)) 24 (Value.map (some 1))} 25) a]++o4 B rf plan es):=by intro b a;kernel_rfl
theorem Iw(B:Lo)(rf:Qc)(plan:List Int)(es:List (F4×F4)):let l:=Value.map (some 1);let k:=rf.Qa;let j:=Iv rf plan;let i:=Tri.set 14 (Tri.set 14 Tri.lf 43 j) 42 (aT plan);let h:=Xr rf plan 1 es;let g:=QM rf plan 1;let f:=aV Q3 h {a:=if 0<2 then plan.getD 0 0 else -1,b:=if 1<2 then plan.getD 1 0 else -1,c:= -1,d:= -1} (XT (SB rf) (SO rf (plan.getD (Lb 1) 0)) k {a:=g.a,b:=g.b,c:=g.c,d:=g.d});let e:=aV Q3 h {a:=if 0<2 then plan.getD 0 0 else -1,b:=if 1<2 then plan.getD 1 0 else -1,c:= -1,d:= -1} (XT (SB rf) (yd rf plan) k {a:=g.a,b:=g.b,c:=g.c,d:=g.d});CE.finK 2 (Qn YP (Q0 YP) J0 B 24 2 (S7 rf plan es) (fT rf plan es) 2
 (yf rf plan es++[(19,Qf.XO (Hint.look yc)),(33,Qf.wri [1] [0] [true] [] (th rf plan es) (tg rf plan es) (ti rf plan es)),(36,Qf.pure j []),(42,Qf.XO (Hint.upd (mapA Q3 e) e.length))]) 0 [] []) [(1,KS.same)] [] []=some (OO.ret j,[(1,Obj.map (mapA Q3 e) e.length)],[],
 [QT (mapA Q3 f),ix YP 96 (mapA Q3 h) h.length (Xx {len:=16000,tr:=Tri.set 14 i 41 l} 42) (Xx {len:=16000,tr:=Tri.set 14 i 41 l} 43) (mapA Q3 f) f.length,Qz []/\Qv YP J0 78 #[.agg #[Xo k.length (Qe Qt k),YI rf.Qh,YI rf.Qb,YI (plan.getD 0 0),YI (plan.getD 1 0),YI (plan.getD 2 0),YI (plan.getD 3 0)],.agg #[YI g.a,YI g.b,YI g.c,YI g.d],YI 1] j,Qz [QT (mapA Q3 es),QT (mapA Q3 h)]/\Oc (rf) (plan) (es),PO YP 96 (mapA Q3 es) true (Xx {len:=16000,tr:=Tri.set 14 (Tri.set 14 Tri.lf 25 (aT plan)) 24 l} 25) yc]++o4 B rf plan es):=by intro l k j i h g f e;kernel_rfl
set_option maxHeartbeats 4000000 in
theorem NZ(rf:Qc)(plan:List Int)(es:List (F4×F4))(hr:X4 rf=true)(hp:XJ rf plan=true)(he:Uf rf es)(hs:2<=rf.Qb){B:Lo}(hJ:∀w,B.has w->J0 w):FinK YP B (S7 rf plan es) (fT rf plan es) 2 (.ret (.agg #[YI (QM rf plan 2).a,YI (QM rf plan 2).b,YI (QM rf plan 2).c,YI (QM rf plan 2).d])) (([1]:List Nat).zip [.map (mapA Q3 (Xr rf plan 2 es)) (Xr rf plan 2 es).length]) [] ([1]:List Nat):=by
 have Zi:=Q2 (Qw hr).1;have hpf:=(Xz hp).1;have hpg:∀j:Nat,0<=plan.getD j 0/\plan.getD j 0<=1000000:=fun j=>(fun h=>⟨h.1,by omega⟩) (Z1 hr hp j)
 have hf4:=(Jz (plan:=plan) hr (s:=1) (by omega)).1;have hs4:=(Jz (plan:=plan) hr (s:=1) (by omega)).2;have hnx:=Y1 (rf:=rf) (plan:=plan) (s:=1) (by omega);have VO:Qz (o4 B rf plan es):=by
  exact⟨⟨trivial,NC (plan.getD 0 0) (plan.getD 1 0) (plan.getD 2 0) (plan.getD 3 0) (2) (by omega) (by omega)⟩,trivial⟩
 cases q0:SA Q3 es {a:=if 0<2 then plan.getD 0 0 else -1,b:=if 1<2 then plan.getD 1 0 else -1,c:= -1,d:= -1}with
 |true=>
  have hfo:=cj (s:=2) hr hp he (by omega) q0;exact(GoE.fK ((GoE.refl (P:=YP) (B:=B) (c0:=S7 rf plan es) uA).widen (Wf:=((([(1,KS.same)]):List (Nat×KS)).map (·.1))) (by simp) wO) (Ix B rf plan es)
   ⟨(by exact QH (fun _=>by kernel_rfl)),⟨(sB (k:={a:=if 0<2 then plan.getD 0 0 else -1,b:=if 1<2 then plan.getD 1 0 else -1,c:= -1,d:= -1}) (ok:=true) WK rfl q0),VO⟩⟩).cast (by(show _=OO.ret (v4 (QM rf plan 2));rw[<-hfo];rfl)) (by(unfold Xr;rw[show SA Q3 es (TP plan ((1+1:Nat):Int))=_ from q0];rfl)) (by rfl)
 |false=>
  exact(GoE.fK ((GoE.refl (P:=YP) (B:=B) (c0:=S7 rf plan es) uA).widen (Wf:=((([(1,KS.same)]):List (Nat×KS)).map (·.1))) (by simp) wO) (Iw B rf plan es)
   ⟨(by exact QH (fun _=>by kernel_rfl)),⟨(NP (k:={a:=if 0<2 then plan.getD 0 0 else -1,b:=if 1<2 then plan.getD 1 0 else -1,c:= -1,d:= -1}) (x:=XT (SB rf) (SO rf (plan.getD (Lb 1) 0)) rf.Qa {a:=F4.a (QM rf plan 1),b:=F4.b (QM rf plan 1),c:=F4.c (QM rf plan 1),d:=F4.d (QM rf plan 1)}) WK rfl),⟨⟨trivial,jY (rf) (plan) (F4.a (QM rf plan 1)) (F4.b (QM rf plan 1)) (F4.c (QM rf plan 1)) (F4.d (QM rf plan 1)) (1) ‹_› (by omega) ‹_› (by omega) (by omega) ‹_› ‹_›⟩,⟨⟨⟨(QH (fun _=>by kernel_rfl)),⟨(QH (fun _=>by kernel_rfl)),trivial⟩⟩,OV (rf) (plan) (es) ‹_› ‹_› ‹_› (by omega)⟩,⟨(sC (k:={a:=if 0<2 then plan.getD 0 0 else -1,b:=if 1<2 then plan.getD 1 0 else -1,c:= -1,d:= -1}) (ok:=true) WK rfl rfl (by kernel_rfl) q0),VO⟩⟩⟩⟩⟩).cast (by(show _=OO.ret (v4 (QM rf plan (1+1)));rw[hnx];rfl)) (by(unfold Xr;rw[show SA Q3 es (TP plan ((1+1:Nat):Int))=_ from q0];rfl)) (by rfl)
def tc(rf:Qc)(plan:List Int)(es:List (F4×F4)):OO:=.ret (.agg #[YI (QM rf plan 2).a,YI (QM rf plan 2).b,YI (QM rf plan 2).c,YI (QM rf plan 2).d])
def sZ(rf:Qc)(plan:List Int)(es:List (F4×F4)):List Obj:=[.map (mapA Q3 (Xr rf plan 2 es)) (Xr rf plan 2 es).length]
def tf(rf:Qc)(plan:List Int)(es:List (F4×F4)):List Obj:=[]
def Oa(rf:Qc)(plan:List Int)(es:List (F4×F4)):Prop:=WriC YP J0 89 #[.agg #[Qk 0 (Xp rf.Qa),YI rf.Qh,YI rf.Qb,.map (some 1)],.agg #[YI (plan.getD 0 0),YI (plan.getD 1 0),YI (plan.getD 2 0),YI (plan.getD 3 0)],YI 2] [.map (mapA Q3 es) es.length] (tc rf plan es) (sZ rf plan es) (tf rf plan es)
theorem OU(rf:Qc)(plan:List Int)(es:List (F4×F4))(hr:X4 rf=true)(hp:XJ rf plan=true)(he:Uf rf es)(hs:2<=rf.Qb):WriC YP J0 89 #[.agg #[Qk 0 (Xp rf.Qa),YI rf.Qh,YI rf.Qb,.map (some 1)],.agg #[YI (plan.getD 0 0),YI (plan.getD 1 0),YI (plan.getD 2 0),YI (plan.getD 3 0)],YI 2] [.map (mapA Q3 es) es.length] (tc rf plan es) (sZ rf plan es) (tf rf plan es):=
 FinK.wri (c0:=S7 rf plan es) (Hb:=fT rf plan es) (a:=2) (ws:=([1]:List Nat).zip [.map (mapA Q3 (Xr rf plan 2 es)) (Xr rf plan 2 es).length]) (Wf:=([1]:List Nat)) (by kernel_rfl) rfl rfl rfl rfl fun B hJ=>NZ rf plan es hr hp he hs hJ
def fS(rf:Qc)(plan:List Int)(es:List (F4×F4)):Qm:=[(1,.map (mapA Q3 es) es.length),(0,QV)]
def S6(rf:Qc)(plan:List Int)(es:List (F4×F4)):CF:=Qu YP 89 45 [.agg #[Qk 0 (Xp rf.Qa),YI rf.Qh,YI rf.Qb,.map (some 1)],.agg #[YI (plan.getD 0 0),YI (plan.getD 1 0),YI (plan.getD 2 0),YI (plan.getD 3 0)],YI 3]
def ya(plan:List Int)(es:List (F4×F4)):Array Value:=let e:=oD Q3 es {a:=if 0<3 then plan.getD 0 0 else -1,b:=if 1<3 then plan.getD 1 0 else -1,c:=if 2<3 then plan.getD 2 0 else -1,d:= -1};#[YI e.a,YI e.b,YI e.c,YI e.d]
def aR(plan:List Int):Value:=(.agg #[YI (if 0<3 then plan.getD 0 0 else -1),YI (if 1<3 then plan.getD 1 0 else -1),YI (if 2<3 then plan.getD 2 0 else -1),YI (-1)])
def xZ(rf:Qc)(plan:List Int):=(SO rf (plan.getD (Lb 2) 0))
def Ir(rf:Qc)(plan:List Int):Value:=let f:=QM rf plan 2;let e:=XT (SB rf) (xZ rf plan) rf.Qa {a:=f.a,b:=f.b,c:=f.c,d:=f.d};(.agg #[YI e.a,YI e.b,YI e.c,YI e.d])
def xY  :Value:=(.tuple #[.agg #[YI 0,YI 0,YI 0,YI 0],.bool false])
def o3(B:Lo)(rf:Qc)(plan:List Int)(es:List (F4×F4)):List Prop:=[Qz []/\Qv YP J0 111 #[.agg #[YI (plan.getD 0 0),YI (plan.getD 1 0),YI (plan.getD 2 0),YI (plan.getD 3 0)],YI 3] (aR plan)]++([]:List Prop)
def yb(rf:Qc)(plan:List Int)(es:List (F4×F4)):QA:=[(13,Qf.pure (aR plan) [])]
theorem Iu(B:Lo)(rf:Qc)(plan:List Int)(es:List (F4×F4)):let b:=mapA Q3 es;let a:=Value.tuple #[.agg (ya plan es),.bool true];CE.finK 2 (Qn YP (Q0 YP) J0 B 22 2 (S6 rf plan es) (fS rf plan es) 2
 (yb rf plan es++[(19,Qf.XO (Hint.look a))]) 0 [] []) [(1,KS.same)] [] []=some (OO.ret (.agg (ya plan es)),[(1,Obj.map b es.length)],[],
 [QT b,PO YP 96 b true (Xx {len:=16000,tr:=Tri.set 14 (Tri.set 14 Tri.lf 25 (aR plan)) 24 (Value.map (some 1))} 25) a]++o3 B rf plan es):=by intro b a;kernel_rfl
theorem Is(B:Lo)(rf:Qc)(plan:List Int)(es:List (F4×F4)):let l:=Value.map (some 1);let k:=rf.Qa;let j:=Ir rf plan;let i:=Tri.set 14 (Tri.set 14 Tri.lf 43 j) 42 (aR plan);let h:=Xr rf plan 2 es;let g:=QM rf plan 2;let f:=aV Q3 h {a:=if 0<3 then plan.getD 0 0 else -1,b:=if 1<3 then plan.getD 1 0 else -1,c:=if 2<3 then plan.getD 2 0 else -1,d:= -1} (XT (SB rf) (SO rf (plan.getD (Lb 2) 0)) k {a:=g.a,b:=g.b,c:=g.c,d:=g.d});let e:=aV Q3 h {a:=if 0<3 then plan.getD 0 0 else -1,b:=if 1<3 then plan.getD 1 0 else -1,c:=if 2<3 then plan.getD 2 0 else -1,d:= -1} (XT (SB rf) (xZ rf plan) k {a:=g.a,b:=g.b,c:=g.c,d:=g.d});CE.finK 2 (Qn YP (Q0 YP) J0 B 24 2 (S6 rf plan es) (fS rf plan es) 2
 (yb rf plan es++[(19,Qf.XO (Hint.look xY)),(33,Qf.wri [1] [0] [true] [] (tc rf plan es) (sZ rf plan es) (tf rf plan es)),(36,Qf.pure j []),(42,Qf.XO (Hint.upd (mapA Q3 e) e.length))]) 0 [] []) [(1,KS.same)] [] []=some (OO.ret j,[(1,Obj.map (mapA Q3 e) e.length)],[],
 [QT (mapA Q3 f),ix YP 96 (mapA Q3 h) h.length (Xx {len:=16000,tr:=Tri.set 14 i 41 l} 42) (Xx {len:=16000,tr:=Tri.set 14 i 41 l} 43) (mapA Q3 f) f.length,Qz []/\Qv YP J0 78 #[.agg #[Xo k.length (Qe Qt k),YI rf.Qh,YI rf.Qb,YI (plan.getD 0 0),YI (plan.getD 1 0),YI (plan.getD 2 0),YI (plan.getD 3 0)],.agg #[YI g.a,YI g.b,YI g.c,YI g.d],YI 2] j,Qz [QT (mapA Q3 es),QT (mapA Q3 h)]/\Oa (rf) (plan) (es),PO YP 96 (mapA Q3 es) true (Xx {len:=16000,tr:=Tri.set 14 (Tri.set 14 Tri.lf 25 (aR plan)) 24 l} 25) xY]++o3 B rf plan es):=by intro l k j i h g f e;kernel_rfl
set_option maxHeartbeats 4000000 in
theorem NX(rf:Qc)(plan:List Int)(es:List (F4×F4))(hr:X4 rf=true)(hp:XJ rf plan=true)(he:Uf rf es)(hs:3<=rf.Qb){B:Lo}(hJ:∀w,B.has w->J0 w):FinK YP B (S6 rf plan es) (fS rf plan es) 2 (.ret (.agg #[YI (QM rf plan 3).a,YI (QM rf plan 3).b,YI (QM rf plan 3).c,YI (QM rf plan 3).d])) (([1]:List Nat).zip [.map (mapA Q3 (Xr rf plan 3 es)) (Xr rf plan 3 es).length]) [] ([1]:List Nat):=by
 have Zi:=Q2 (Qw hr).1;have hpf:=(Xz hp).1;have hpg:∀j:Nat,0<=plan.getD j 0/\plan.getD j 0<=1000000:=fun j=>(fun h=>⟨h.1,by omega⟩) (Z1 hr hp j)
 have hf4:=(Jz (plan:=plan) hr (s:=2) (by omega)).1;have hs4:=(Jz (plan:=plan) hr (s:=2) (by omega)).2;have hnx:=Y1 (rf:=rf) (plan:=plan) (s:=2) (by omega);have VO:Qz (o3 B rf plan es):=by
  exact⟨⟨trivial,NC (plan.getD 0 0) (plan.getD 1 0) (plan.getD 2 0) (plan.getD 3 0) (3) (by omega) (by omega)⟩,trivial⟩
 cases q0:SA Q3 es {a:=if 0<3 then plan.getD 0 0 else -1,b:=if 1<3 then plan.getD 1 0 else -1,c:=if 2<3 then plan.getD 2 0 else -1,d:= -1}with
 |true=>
  have hfo:=cj (s:=3) hr hp he (by omega) q0;exact(GoE.fK ((GoE.refl (P:=YP) (B:=B) (c0:=S6 rf plan es) uA).widen (Wf:=((([(1,KS.same)]):List (Nat×KS)).map (·.1))) (by simp) wO) (Iu B rf plan es)
   ⟨(by exact QH (fun _=>by kernel_rfl)),⟨(sB (k:={a:=if 0<3 then plan.getD 0 0 else -1,b:=if 1<3 then plan.getD 1 0 else -1,c:=if 2<3 then plan.getD 2 0 else -1,d:= -1}) (ok:=true) WK rfl q0),VO⟩⟩).cast (by(show _=OO.ret (v4 (QM rf plan 3));rw[<-hfo];rfl)) (by(unfold Xr;rw[show SA Q3 es (TP plan ((2+1:Nat):Int))=_ from q0];rfl)) (by rfl)
 |false=>
  exact(GoE.fK ((GoE.refl (P:=YP) (B:=B) (c0:=S6 rf plan es) uA).widen (Wf:=((([(1,KS.same)]):List (Nat×KS)).map (·.1))) (by simp) wO) (Is B rf plan es)
   ⟨(by exact QH (fun _=>by kernel_rfl)),⟨(NP (k:={a:=if 0<3 then plan.getD 0 0 else -1,b:=if 1<3 then plan.getD 1 0 else -1,c:=if 2<3 then plan.getD 2 0 else -1,d:= -1}) (x:=XT (SB rf) (SO rf (plan.getD (Lb 2) 0)) rf.Qa {a:=F4.a (QM rf plan 2),b:=F4.b (QM rf plan 2),c:=F4.c (QM rf plan 2),d:=F4.d (QM rf plan 2)}) WK rfl),⟨⟨trivial,jY (rf) (plan) (F4.a (QM rf plan 2)) (F4.b (QM rf plan 2)) (F4.c (QM rf plan 2)) (F4.d (QM rf plan 2)) (2) ‹_› (by omega) ‹_› (by omega) (by omega) ‹_› ‹_›⟩,⟨⟨⟨(QH (fun _=>by kernel_rfl)),⟨(QH (fun _=>by kernel_rfl)),trivial⟩⟩,OU (rf) (plan) (es) ‹_› ‹_› ‹_› (by omega)⟩,⟨(sC (k:={a:=if 0<3 then plan.getD 0 0 else -1,b:=if 1<3 then plan.getD 1 0 else -1,c:=if 2<3 then plan.getD 2 0 else -1,d:= -1}) (ok:=true) WK rfl rfl (by kernel_rfl) q0),VO⟩⟩⟩⟩⟩).cast (by(show _=OO.ret (v4 (QM rf plan (2+1)));rw[hnx];rfl)) (by(unfold Xr;rw[show SA Q3 es (TP plan ((2+1:Nat):Int))=_ from q0];rfl)) (by rfl)
def sX(rf:Qc)(plan:List Int)(es:List (F4×F4)):OO:=.ret (.agg #[YI (QM rf plan 3).a,YI (QM rf plan 3).b,YI (QM rf plan 3).c,YI (QM rf plan 3).d])
def sW(rf:Qc)(plan:List Int)(es:List (F4×F4)):List Obj:=[.map (mapA Q3 (Xr rf plan 3 es)) (Xr rf plan 3 es).length]
def sY(rf:Qc)(plan:List Int)(es:List (F4×F4)):List Obj:=[]
def NY(rf:Qc)(plan:List Int)(es:List (F4×F4)):Prop:=WriC YP J0 89 #[.agg #[Qk 0 (Xp rf.Qa),YI rf.Qh,YI rf.Qb,.map (some 1)],.agg #[YI (plan.getD 0 0),YI (plan.getD 1 0),YI (plan.getD 2 0),YI (plan.getD 3 0)],YI 3] [.map (mapA Q3 es) es.length] (sX rf plan es) (sW rf plan es) (sY rf plan es)
theorem OT(rf:Qc)(plan:List Int)(es:List (F4×F4))(hr:X4 rf=true)(hp:XJ rf plan=true)(he:Uf rf es)(hs:3<=rf.Qb):WriC YP J0 89 #[.agg #[Qk 0 (Xp rf.Qa),YI rf.Qh,YI rf.Qb,.map (some 1)],.agg #[YI (plan.getD 0 0),YI (plan.getD 1 0),YI (plan.getD 2 0),YI (plan.getD 3 0)],YI 3] [.map (mapA Q3 es) es.length] (sX rf plan es) (sW rf plan es) (sY rf plan es):=
 FinK.wri (c0:=S6 rf plan es) (Hb:=fS rf plan es) (a:=2) (ws:=([1]:List Nat).zip [.map (mapA Q3 (Xr rf plan 3 es)) (Xr rf plan 3 es).length]) (Wf:=([1]:List Nat)) (by kernel_rfl) rfl rfl rfl rfl fun B hJ=>NX rf plan es hr hp he hs hJ
def fR(rf:Qc)(plan:List Int)(es:List (F4×F4)):Qm:=[(1,.map (mapA Q3 es) es.length),(0,QV)]
def S5(rf:Qc)(plan:List Int)(es:List (F4×F4)):CF:=Qu YP 89 45 [.agg #[Qk 0 (Xp rf.Qa),YI rf.Qh,YI rf.Qb,.map (some 1)],.agg #[YI (plan.getD 0 0),YI (plan.getD 1 0),YI (plan.getD 2 0),YI (plan.getD 3 0)],YI 4]
def xW(plan:List Int)(es:List (F4×F4)):Array Value:=let e:=oD Q3 es {a:=if 0<4 then plan.getD 0 0 else -1,b:=if 1<4 then plan.getD 1 0 else -1,c:=if 2<4 then plan.getD 2 0 else -1,d:=if 3<4 then plan.getD 3 0 else -1};#[YI e.a,YI e.b,YI e.c,YI e.d]
def aQ(plan:List Int):Value:=(.agg #[YI (if 0<4 then plan.getD 0 0 else -1),YI (if 1<4 then plan.getD 1 0 else -1),YI (if 2<4 then plan.getD 2 0 else -1),YI (if 3<4 then plan.getD 3 0 else -1)])
def xV(rf:Qc)(plan:List Int):=(SO rf (plan.getD (Lb 3) 0))
def Io(rf:Qc)(plan:List Int):Value:=let f:=QM rf plan 3;let e:=XT (SB rf) (xV rf plan) rf.Qa {a:=f.a,b:=f.b,c:=f.c,d:=f.d};(.agg #[YI e.a,YI e.b,YI e.c,YI e.d])
def xU  :Value:=(.tuple #[.agg #[YI 0,YI 0,YI 0,YI 0],.bool false])
def oz(B:Lo)(rf:Qc)(plan:List Int)(es:List (F4×F4)):List Prop:=[Qz []/\Qv YP J0 111 #[.agg #[YI (plan.getD 0 0),YI (plan.getD 1 0),YI (plan.getD 2 0),YI (plan.getD 3 0)],YI 4] (aQ plan)]++([]:List Prop)
def xX(rf:Qc)(plan:List Int)(es:List (F4×F4)):QA:=[(13,Qf.pure (aQ plan) [])]
theorem Iq(B:Lo)(rf:Qc)(plan:List Int)(es:List (F4×F4)):let b:=mapA Q3 es;let a:=Value.tuple #[.agg (xW plan es),.bool true];CE.finK 2 (Qn YP (Q0 YP) J0 B 22 2 (S5 rf plan es) (fR rf plan es) 2
 (xX rf plan es++[(19,Qf.XO (Hint.look a))]) 0 [] []) [(1,KS.same)] [] []=some (OO.ret (.agg (xW plan es)),[(1,Obj.map b es.length)],[],
 [QT b,PO YP 96 b true (Xx {len:=16000,tr:=Tri.set 14 (Tri.set 14 Tri.lf 25 (aQ plan)) 24 (Value.map (some 1))} 25) a]++oz B rf plan es):=by intro b a;kernel_rfl
theorem Ip(B:Lo)(rf:Qc)(plan:List Int)(es:List (F4×F4)):let l:=Value.map (some 1);let k:=rf.Qa;let j:=Io rf plan;let i:=Tri.set 14 (Tri.set 14 Tri.lf 43 j) 42 (aQ plan);let h:=Xr rf plan 3 es;let g:=QM rf plan 3;let f:=aV Q3 h {a:=if 0<4 then plan.getD 0 0 else -1,b:=if 1<4 then plan.getD 1 0 else -1,c:=if 2<4 then plan.getD 2 0 else -1,d:=if 3<4 then plan.getD 3 0 else -1} (XT (SB rf) (SO rf (plan.getD (Lb 3) 0)) k {a:=g.a,b:=g.b,c:=g.c,d:=g.d});let e:=aV Q3 h {a:=if 0<4 then plan.getD 0 0 else -1,b:=if 1<4 then plan.getD 1 0 else -1,c:=if 2<4 then plan.getD 2 0 else -1,d:=if 3<4 then plan.getD 3 0 else -1} (XT (SB rf) (xV rf plan) k {a:=g.a,b:=g.b,c:=g.c,d:=g.d});CE.finK 2 (Qn YP (Q0 YP) J0 B 24 2 (S5 rf plan es) (fR rf plan es) 2
 (xX rf plan es++[(19,Qf.XO (Hint.look xU)),(33,Qf.wri [1] [0] [true] [] (sX rf plan es) (sW rf plan es) (sY rf plan es)),(36,Qf.pure j []),(42,Qf.XO (Hint.upd (mapA Q3 e) e.length))]) 0 [] []) [(1,KS.same)] [] []=some (OO.ret j,[(1,Obj.map (mapA Q3 e) e.length)],[],
 [QT (mapA Q3 f),ix YP 96 (mapA Q3 h) h.length (Xx {len:=16000,tr:=Tri.set 14 i 41 l} 42) (Xx {len:=16000,tr:=Tri.set 14 i 41 l} 43) (mapA Q3 f) f.length,Qz []/\Qv YP J0 78 #[.agg #[Xo k.length (Qe Qt k),YI rf.Qh,YI rf.Qb,YI (plan.getD 0 0),YI (plan.getD 1 0),YI (plan.getD 2 0),YI (plan.getD 3 0)],.agg #[YI g.a,YI g.b,YI g.c,YI g.d],YI 3] j,Qz [QT (mapA Q3 es),QT (mapA Q3 h)]/\NY (rf) (plan) (es),PO YP 96 (mapA Q3 es) true (Xx {len:=16000,tr:=Tri.set 14 (Tri.set 14 Tri.lf 25 (aQ plan)) 24 l} 25) xU]++oz B rf plan es):=by intro l k j i h g f e;kernel_rfl
set_option maxHeartbeats 4000000 in
theorem NW(rf:Qc)(plan:List Int)(es:List (F4×F4))(hr:X4 rf=true)(hp:XJ rf plan=true)(he:Uf rf es)(hs:4<=rf.Qb){B:Lo}(hJ:∀w,B.has w->J0 w):FinK YP B (S5 rf plan es) (fR rf plan es) 2 (.ret (.agg #[YI (QM rf plan 4).a,YI (QM rf plan 4).b,YI (QM rf plan 4).c,YI (QM rf plan 4).d])) (([1]:List Nat).zip [.map (mapA Q3 (Xr rf plan 4 es)) (Xr rf plan 4 es).length]) [] ([1]:List Nat):=by
 have Zi:=Q2 (Qw hr).1;have hpf:=(Xz hp).1;have hpg:∀j:Nat,0<=plan.getD j 0/\plan.getD j 0<=1000000:=fun j=>(fun h=>⟨h.1,by omega⟩) (Z1 hr hp j)
 have hf4:=(Jz (plan:=plan) hr (s:=3) (by omega)).1;have hs4:=(Jz (plan:=plan) hr (s:=3) (by omega)).2;have hnx:=Y1 (rf:=rf) (plan:=plan) (s:=3) (by omega);have VO:Qz (oz B rf plan es):=by
  exact⟨⟨trivial,NC (plan.getD 0 0) (plan.getD 1 0) (plan.getD 2 0) (plan.getD 3 0) (4) (by omega) (by omega)⟩,trivial⟩
 cases q0:SA Q3 es {a:=if 0<4 then plan.getD 0 0 else -1,b:=if 1<4 then plan.getD 1 0 else -1,c:=if 2<4 then plan.getD 2 0 else -1,d:=if 3<4 then plan.getD 3 0 else -1}with
 |true=>
  have hfo:=cj (s:=4) hr hp he (by omega) q0;exact(GoE.fK ((GoE.refl (P:=YP) (B:=B) (c0:=S5 rf plan es) uA).widen (Wf:=((([(1,KS.same)]):List (Nat×KS)).map (·.1))) (by simp) wO) (Iq B rf plan es)
   ⟨(by exact QH (fun _=>by kernel_rfl)),⟨(sB (k:={a:=if 0<4 then plan.getD 0 0 else -1,b:=if 1<4 then plan.getD 1 0 else -1,c:=if 2<4 then plan.getD 2 0 else -1,d:=if 3<4 then plan.getD 3 0 else -1}) (ok:=true) WK rfl q0),VO⟩⟩).cast (by(show _=OO.ret (v4 (QM rf plan 4));rw[<-hfo];rfl)) (by(unfold Xr;rw[show SA Q3 es (TP plan ((3+1:Nat):Int))=_ from q0];rfl)) (by rfl)
 |false=>
  exact(GoE.fK ((GoE.refl (P:=YP) (B:=B) (c0:=S5 rf plan es) uA).widen (Wf:=((([(1,KS.same)]):List (Nat×KS)).map (·.1))) (by simp) wO) (Ip B rf plan es)
   ⟨(by exact QH (fun _=>by kernel_rfl)),⟨(NP (k:={a:=if 0<4 then plan.getD 0 0 else -1,b:=if 1<4 then plan.getD 1 0 else -1,c:=if 2<4 then plan.getD 2 0 else -1,d:=if 3<4 then plan.getD 3 0 else -1}) (x:=XT (SB rf) (SO rf (plan.getD (Lb 3) 0)) rf.Qa {a:=F4.a (QM rf plan 3),b:=F4.b (QM rf plan 3),c:=F4.c (QM rf plan 3),d:=F4.d (QM rf plan 3)}) WK rfl),⟨⟨trivial,jY (rf) (plan) (F4.a (QM rf plan 3)) (F4.b (QM rf plan 3)) (F4.c (QM rf plan 3)) (F4.d (QM rf plan 3)) (3) ‹_› (by omega) ‹_› (by omega) (by omega) ‹_› ‹_›⟩,⟨⟨⟨(QH (fun _=>by kernel_rfl)),⟨(QH (fun _=>by kernel_rfl)),trivial⟩⟩,OT (rf) (plan) (es) ‹_› ‹_› ‹_› (by omega)⟩,⟨(sC (k:={a:=if 0<4 then plan.getD 0 0 else -1,b:=if 1<4 then plan.getD 1 0 else -1,c:=if 2<4 then plan.getD 2 0 else -1,d:=if 3<4 then plan.getD 3 0 else -1}) (ok:=true) WK rfl rfl (by kernel_rfl) q0),VO⟩⟩⟩⟩⟩).cast (by(show _=OO.ret (v4 (QM rf plan (3+1)));rw[hnx];rfl)) (by(unfold Xr;rw[show SA Q3 es (TP plan ((3+1:Nat):Int))=_ from q0];rfl)) (by rfl)
def NU(rf:Qc)(plan:List Int)(es:List (F4×F4)):OO:=.ret (.agg #[YI (QM rf plan 4).a,YI (QM rf plan 4).b,YI (QM rf plan 4).c,YI (QM rf plan 4).d])
def NT(rf:Qc)(plan:List Int)(es:List (F4×F4)):List Obj:=[.map (mapA Q3 (Xr rf plan 4 es)) (Xr rf plan 4 es).length]
def NV(rf:Qc)(plan:List Int)(es:List (F4×F4)):List Obj:=[]
theorem QbR(rf:Qc)(plan:List Int)(es:List (F4×F4))(hr:X4 rf=true)(hp:XJ rf plan=true)(he:Uf rf es)(hs:4<=rf.Qb):WriC YP J0 89 #[.agg #[Qk 0 (Xp rf.Qa),YI rf.Qh,YI rf.Qb,.map (some 1)],.agg #[YI (plan.getD 0 0),YI (plan.getD 1 0),YI (plan.getD 2 0),YI (plan.getD 3 0)],YI 4] [.map (mapA Q3 es) es.length] (NU rf plan es) (NT rf plan es) (NV rf plan es):=
 FinK.wri (c0:=S5 rf plan es) (Hb:=fR rf plan es) (a:=2) (ws:=([1]:List Nat).zip [.map (mapA Q3 (Xr rf plan 4 es)) (Xr rf plan 4 es).length]) (Wf:=([1]:List Nat)) (by kernel_rfl) rfl rfl rfl rfl fun B hJ=>NW rf plan es hr hp he hs hJ
end
end Go.Proofs.Ytncjjangllkokaa

namespace Go.Proofs.Ytncjjangllkokaa
open Go Go.CE Go.RowKit
noncomputable section
set_option maxRecDepth 100000
def sh(rf:Qc)(plan:List Int)(es:List (F4×F4))(k:Int):OO:=.ret (.agg #[YI (QM rf plan k.toNat).a,YI (QM rf plan k.toNat).b,YI (QM rf plan k.toNat).c,YI (QM rf plan k.toNat).d])
def sg(rf:Qc)(plan:List Int)(es:List (F4×F4))(k:Int):List Obj:=[.map (mapA Q3 (Xr rf plan k.toNat es)) (Xr rf plan k.toNat es).length]
def si(rf:Qc)(plan:List Int)(es:List (F4×F4))(k:Int):List Obj:=[]
def Nv(rf:Qc)(plan:List Int)(es:List (F4×F4))(k:Int):Prop:=WriC YP J0 89 #[.agg #[Qk 0 (Xp rf.Qa),YI rf.Qh,YI rf.Qb,.map (some 1)],.agg #[YI (plan.getD 0 0),YI (plan.getD 1 0),YI (plan.getD 2 0),YI (plan.getD 3 0)],YI k] [.map (mapA Q3 es) es.length] (sh rf plan es k) (sg rf plan es k) (si rf plan es k)
theorem QbG(rf:Qc)(plan:List Int)(es:List (F4×F4))(k:Int)(hr:X4 rf=true)(hp:XJ rf plan=true)(he:Uf rf es)(k0:0<=k)(hk:k<=rf.Qb):WriC YP J0 89 #[.agg #[Qk 0 (Xp rf.Qa),YI rf.Qh,YI rf.Qb,.map (some 1)],.agg #[YI (plan.getD 0 0),YI (plan.getD 1 0),YI (plan.getD 2 0),YI (plan.getD 3 0)],YI k] [.map (mapA Q3 es) es.length] (sh rf plan es k) (sg rf plan es k) (si rf plan es k):=by
 have Zi:=Q2 (Qw hr).1;rcases(show k=0\/k=1\/k=2\/k=3\/k=4 by omega)with rfl|rfl|rfl|rfl|rfl
 ·exact OW rf plan es hr hp he
 ·exact OV rf plan es hr hp he hk
 ·exact OU rf plan es hr hp he hk
 ·exact OT rf plan es hr hp he hk
 ·exact QbR rf plan es hr hp he hk
def Xt(f:F4):List Qd->Int->Bool×Int×Int
 |[],_=>(false,0,0)
 |x::l,i=>bif decide (0<x.goal-f.at i)then(true,i,x.goal-f.at i)else Xt f l (i+1)
theorem WO{f:F4}{l:List Qd}{i:Int}(h0:0<=i)(h:i<l.length):Xt f (l.drop i.toNat) i=bif decide (0<(l.getD i.toNat La).goal-f.at i)then(true,i,(l.getD i.toNat La).goal-f.at i)else Xt f (l.drop (i+1).toNat) (i+1):=by
 obtain⟨k,rfl⟩:∃k:Nat,i=k:=⟨i.toNat,by omega⟩
 have hk:k<l.length:=by omega
 have e1:((k:Int)).toNat=k:=by omega
 have e2:((k:Int)+1).toNat=k+1:=by omega
 rw[e1,e2,List.drop_eq_getElem_cons hk];simp[Xt,Li,hk]
theorem cB{f:F4}{l:List Qd}{i:Int}(h:l.length<=i):Xt f (l.drop i.toNat) i=(false,0,0):=by
 rw[List.drop_eq_nil_of_le (by omega)];rfl
theorem pL{f:F4}:∀{l:List Qd} {i:Int},(Xt f l i).1=false->Xt f l i=(false,0,0)
 |[],_,_=>rfl
 |x::l,i,h=>by
  unfold Xt at h ⊢;cases e:decide (0<x.goal-f.at i)with
  |true=>rw[e]at h;cases h
  |false=>rw[e]at h;exact pL h
def P4(x_:Qd):Array Value:=#[YI x_.count,YI x_.room,YI x_.UR,YI x_.US,YI x_.QI,YI x_.Xw,YI x_.VB,YI x_.VC,YI x_.Vr,YI x_.Vs,YI x_.goal,YI x_.XF]
def X3(ps:List Qd)(f:F4):Qm:=[(3,Obj.cells #[.bool false] 4),(2,Obj.cells #[YI 0,YI 0] 94),(1,Obj.cells #[YI f.a,YI f.b,YI f.c,YI f.d] 111),(0,Obj.coro none)]
def Zs(ps:List Qd)(f:F4):CF:=⟨88,ofList 26 [Qk 0 (Xo ps.length (Qe Qt ps)),.agg #[YI f.a,YI f.b,YI f.c,YI f.d],.tuple #[],pA 1 0,pA 2 0,pA 3 0,.tuple #[],.tuple #[],Value.func (Fn.func 109) #[] #[pA 2 0,pA 3 0],.tuple #[],.tuple #[],.tuple #[],.tuple #[],.tuple #[],.tuple #[],.tuple #[],.tuple #[],.tuple #[],.tuple #[],.tuple #[],.tuple #[],.tuple #[],.tuple #[],.tuple #[],.tuple #[],.tuple #[]],[Item.code (Code.seq (Code.seq (Code.region 2 #[{dst:=some 9,op:=Op.move (Operand.tmp 0),type:=22,pos:= "best.go:49",after:=#[],guard:=none},{dst:=some 10,op:=Op.call {callee:=Callee.builtin Builtin.len,args:=#[Operand.tmp 9],argTypes:=#[22]},type:=3,pos:= "best.go:49",after:=#[{on:=0,ground:=Ground.data}],guard:=none},{dst:=some 11,op:=Op.move (Operand.const (YI 0)),type:=3,pos:= "best.go:49",after:=#[],guard:=none}] false) (Code.block 0 (Code.loop (Code.seq (Code.region 3 #[{dst:=some 12,op:=Op.binOp BinOp.lss 3 (Operand.tmp 11) (Operand.tmp 10) 3,type:=0,pos:= "best.go:49",after:=#[],guard:=none}] false) (Code.seq (Code.cond (Operand.tmp 12) Code.skip (Code.exit 0)) (Code.seq (Code.block 1 (Code.seq (Code.region 4 #[{dst:=some 13,op:=Op.move (Operand.tmp 11),type:=3,pos:= "best.go:49",after:=#[],guard:=none},{dst:=some 14,op:=Op.indexAddr 22 (Operand.tmp 9) (Operand.tmp 11),type:=0,pos:= "best.go:49",after:=#[],guard:=none},{dst:=some 15,op:=Op.load 54 (Operand.tmp 14),type:=54,pos:= "best.go:49",after:=#[{on:=1,ground:=Ground.data}],guard:=none},{dst:=some 7,op:=Op.alloc 54,type:=0,pos:= "best.go:49",after:=#[],guard:=none},{dst:=some 6,op:=Op.assign (Operand.tmp 13),type:=3,pos:= "best.go:49",after:=#[{on:=0,ground:=Ground.data},{on:=0,ground:=Ground.phase},{on:=1,ground:=Ground.phase},{on:=2,ground:=Ground.phase},{on:=3,ground:=Ground.phase}],guard:=none},{dst:=none,op:=Op.store 54 (Operand.tmp 7) (Operand.tmp 15),type:=0,pos:= "best.go:49",after:=#[{on:=3,ground:=Ground.data},{on:=2,ground:=Ground.data},{on:=4,ground:=Ground.chain},{on:=0,ground:=Ground.phase},{on:=1,ground:=Ground.phase},{on:=2,ground:=Ground.phase},{on:=3,ground:=Ground.phase},{on:=4,ground:=Ground.phase}],guard:=none}] false) (Code.region 5 #[{dst:=some 16,op:=Op.move (Operand.tmp 6),type:=3,pos:= "best.go:50",after:=#[],guard:=none},{dst:=some 17,op:=Op.fieldAddr 54 (Operand.tmp 7) 7,type:=0,pos:= "best.go:50",after:=#[],guard:=none},{dst:=some 18,op:=Op.load 3 (Operand.tmp 17),type:=3,pos:= "best.go:50",after:=#[{on:=1,ground:=Ground.data}],guard:=none},{dst:=some 19,op:=Op.move (Operand.tmp 6),type:=3,pos:= "best.go:50",after:=#[],guard:=none},{dst:=some 20,op:=Op.indexAddr 111 (Operand.tmp 3) (Operand.tmp 19),type:=0,pos:= "best.go:50",after:=#[{on:=3,ground:=Ground.data}],guard:=none},{dst:=some 21,op:=Op.load 3 (Operand.tmp 20),type:=3,pos:= "best.go:50",after:=#[{on:=4,ground:=Ground.data}],guard:=none},{dst:=some 22,op:=Op.binOp BinOp.sub 3 (Operand.tmp 18) (Operand.tmp 21) 3,type:=3,pos:= "best.go:50",after:=#[{on:=2,ground:=Ground.data},{on:=5,ground:=Ground.data}],guard:=none},{dst:=some 23,op:=Op.call {callee:=Callee.value (Operand.func 110),args:=#[Operand.tmp 16,Operand.tmp 22],argTypes:=#[3,3]},type:=0,pos:= "best.go:50",after:=#[{on:=0,ground:=Ground.data},{on:=6,ground:=Ground.data}],guard:=none}] true))) (Code.region 6 #[{dst:=some 24,op:=Op.binOp BinOp.add 3 (Operand.tmp 11) (Operand.const (YI 1)) 3,type:=3,pos:= "best.go:49",after:=#[],guard:=none},{dst:=some 11,op:=Op.move (Operand.tmp 24),type:=3,pos:= "best.go:49",after:=#[{on:=0,ground:=Ground.data}],guard:=none}] false))))))) (Code.seq (Code.region 7 #[{dst:=some 25,op:=Op.build 94 #[],type:=94,pos:= "best.go:52",after:=#[],guard:=none},{dst:=none,op:=Op.store 94 (Operand.tmp 4) (Operand.tmp 25),type:=0,pos:= "best.go:52",after:=#[{on:=0,ground:=Ground.data},{on:=0,ground:=Ground.phase}],guard:=none},{dst:=none,op:=Op.store 4 (Operand.tmp 5) (Operand.const (.bool false)),type:=0,pos:= "best.go:52",after:=#[{on:=1,ground:=Ground.chain},{on:=0,ground:=Ground.phase},{on:=1,ground:=Ground.phase}],guard:=none}] false) Code.ret))],[],.run,none⟩
def Z9(ps:List Qd)(f:F4)(i:Int):List Value:=[pA 1 0,pA 2 0,pA 3 0,Qk 0 (Xo ps.length (Qe Qt ps)),YI (↑ps.length:Int),YI i]
def Z8(ps:List Qd)(f:F4)(i:Int):List Obj:=[Obj.cells #[.bool false] 4,Obj.cells #[YI 0,YI 0] 94]
def Zp(ps:List Qd)(f:F4)(i:Int):List Obj:=[]
def ZA:List Item:=([.code [1,1,0,1,0,0],.inLoop [1,1,0,1,0,0],.inBlock 0,.code [1,1,1]]).map (it (Q8 YP 88))
def P5(B:Lo)(ps:List Qd)(f:F4)(i:Int)(Ql:Nat->Value):List Prop:=let e:=Lb i;let g:=ps.getD e La;[wq (g.goal-Qj [f.a,f.b,f.c,f.d] e)=g.goal-Qj [f.a,f.b,f.c,f.d] e,#[Value.int .i64 f.a,YI f.b,YI f.c,YI f.d][0+Lb i*1]? =some (YI (Qj [f.a,f.b,f.c,f.d] e)),i=(↑e:Int)/\Lb i<4,i=(↑e:Int)/\Lb i<Ld ps/\Lh (Qe Qt ps) (Lb i*TypeInfo.size Try.t54) (Lb i*TypeInfo.size Try.t54+TypeInfo.size Try.t54)=(P4 g),XB i (↑ps.length:Int)=true]++([]:List Prop)
def aC(ps:List Qd)(f:F4)(i:Int)(Ql:Nat->Value):QA:=let e:=Lb i;let g:=ps.getD e La;[(0,Wj),(2,Qf.tidx e (P4 g)),(11,Qf.XO (Hint.idx e)),(12,Qf.XO (Hint.ld (YI (Qj [f.a,f.b,f.c,f.d] e)))),(13,Zu (g.goal-Qj [f.a,f.b,f.c,f.d] e))]
def Zt(ps:List Qd)(f:F4)(i:Int)(Ql:Nat->Value):Qm:=[(5,Obj.cells (P4 (ps.getD i.toNat La)) 54),(3,Obj.cells #[.bool false] 4),(2,Obj.cells #[YI 0,YI 0] 94),(4,Obj.coro none),(3,Obj.cells #[.bool false] 4),(2,Obj.cells #[YI 0,YI 0] 94),(1,Obj.cells #[YI f.a,YI f.b,YI f.c,YI f.d] 111),(0,Obj.coro none)]
def Wc(ps:List Qd)(f:F4)(i:Int)(Ql:Nat->Value):CF:=⟨110,ofList 10 [YI i,YI (Qd.goal (ps.getD i.toNat La)-Qj [f.a,f.b,f.c,f.d] i.toNat)],[Item.code (Q8 YP 110)],[],.run,none⟩
theorem ml(B:Lo)(ps:List Qd)(f:F4)(i:Int)(Ql:Nat->Value):let e:=Qd.goal (ps.getD i.toNat La)-Qj [f.a,f.b,f.c,f.d] i.toNat;CE.finK 6 (Qn YP (Q0 YP) J0 B 5 6 (Wc ps f i Ql) (Zt ps f i Ql) 6
 [(1,Wj)] 0 [] []) [] [] []=some (OO.ZB (Value.iface 94 (.agg #[YI i,YI e])),[],[],
 [XB 0 e=true]):=by intro e;kernel_rfl
theorem mj(B:Lo)(ps:List Qd)(f:F4)(i:Int)(Ql:Nat->Value):let g:=Zp ps f i;let e:=Value.iface 94 (.agg #[YI i,YI (Qd.goal (ps.getD i.toNat La)-Qj [f.a,f.b,f.c,f.d] i.toNat)]);CE.landU 4 (Qn YP (Q0 YP) J0 B 10 4 (XU (none) 88 26 (([3,4,5,9,10,11]:List Nat).zip (Z9 ps f i)) Ql ZA) (X9 (X3 ps f) 4 (([3,2]:List Nat).zip (Z8 ps f i)) g) (4+1+g.length)
 (aC ps f i Ql++[(14,Qf.call (Le 6) (OO.ZB e) ([]++(6,QV)::QL 7 []) 7 [])]) 0 [] []) [4,5] [(3,KS.auto),(2,KS.auto)] [] []=some (88,26,none,OO.ZB e,[pA 2 0,pA 3 0],[(3,Obj.cells #[.bool false] 4),(2,Obj.cells #[YI 0,YI 0] 94)],[],
 [FJ YP B (Wc ps f i Ql) (Zt ps f i Ql) 6 (OO.ZB e) (([]++((6,QV)::QL (6+1) []))++Zt ps f i Ql) 7 (Le 6) []]++P5 B ps f i Ql):=by intro g e;kernel_rfl
theorem mi(B:Lo)(ps:List Qd)(f:F4)(i:Int)(Ql:Nat->Value):CE.finK 6 (Qn YP (Q0 YP) J0 B 6 6 (Wc ps f i Ql) (Zt ps f i Ql) 6
 [(1,WC)] 0 [] []) [] [] []=some (OO.ret (.tuple #[]),[],[],
 [XB 0 (Qd.goal (ps.getD i.toNat La)-Qj [f.a,f.b,f.c,f.d] i.toNat)=false]):=by kernel_rfl
theorem mh(B:Lo)(ps:List Qd)(f:F4)(i:Int)(Ql:Nat->Value):let b:=OO.ret (.tuple #[]);let a:=Zp ps f i;CE.landA 4 (Qn YP (Q0 YP) J0 B 13 4 (XU (none) 88 26 (([3,4,5,9,10,11]:List Nat).zip (Z9 ps f i)) Ql ZA) (X9 (X3 ps f) 4 (([3,2]:List Nat).zip (Z8 ps f i)) a) (4+1+a.length)
 (aC ps f i Ql++[(14,Qf.call (Le 6) b ([]++(6,QV)::QL 7 []) 7 []),(15,Zu (i+1))]) 0 [] []) [3,4,5,9,10,11] [(3,KS.auto),(2,KS.auto)] [] []=some ⟨88,26,ZA,[],.run,none,Z9 ps f (i+1),([3,2]:List Nat).zip (Z8 ps f (i+1)),Zp ps f (i+1),
 [wq (i+1)=i+1,FJ YP B (Wc ps f i Ql) (Zt ps f i Ql) 6 b (([]++((6,QV)::QL (6+1) []))++Zt ps f i Ql) 7 (Le 6) []]++P5 B ps f i Ql⟩:=by intro b a;kernel_rfl
theorem mg(B:Lo)(ps:List Qd)(f:F4)(i:Int)(Ql:Nat->Value):let a:=Zp ps f i;CE.landU 4 (Qn YP (Q0 YP) J0 B 8 4 (XU (none) 88 26 (([3,4,5,9,10,11]:List Nat).zip (Z9 ps f i)) Ql ZA) (X9 (X3 ps f) 4 (([3,2]:List Nat).zip (Z8 ps f i)) a) (4+1+a.length)
 [(0,WC)] 0 [] []) [4,5] [(3,KS.auto),(2,KS.auto)] [] []=some (88,26,none,OO.ret (.tuple #[]),[pA 2 0,pA 3 0],[(3,Obj.cells #[.bool false] 4),(2,Obj.cells #[YI 0,YI 0] 94)],[],
 [XB i (↑ps.length:Int)=false]):=by intro a;kernel_rfl
set_option maxHeartbeats 4000000 in
theorem Ri(ps:List Qd)(f:F4)(hl:ps.length<=4)(hg:∀i:Int,0<=i->i<ps.length->0<=(ps.getD i.toNat La).goal/\(ps.getD i.toNat La).goal<=1000000)(hf:PW ⟨f.a,f.b,f.c,f.d⟩){B:Lo}(hJ:∀w,B.has w->J0 w):∀m:Nat,(∀(i:Int),∀(r:Bool),((Xt f (ps.drop i.toNat) i).1)=r->(ps.length-i.toNat)=m->∀(h0:0<=i),(∃Ql:Nat->Value,(∀t,Xh (Ql t))/\GoE YP B (Zs ps f) (X3 ps f) 4 (XU (none) 88 26 (([3,4,5,9,10,11]:List Nat).zip (Z9 ps f i)) Ql ZA) (X9 (X3 ps f) 4 (([3,2]:List Nat).zip (Z8 ps f i)) (Zp ps f i)) (4+1+(Zp ps f i).length) ([3,2]:List Nat))->FinU YP B (Zs ps f) (X3 ps f) 4 (bif r then .ZB (.iface 94 (.agg #[YI (Xt f (ps.drop i.toNat) i).2.1,YI (Xt f (ps.drop i.toNat) i).2.2]))else .ret (.tuple #[])) (([4,5]:List Nat).zip [pA 2 0,pA 3 0]) (([3,2]:List Nat).zip ([Obj.cells #[.bool false] 4,Obj.cells #[YI 0,YI 0] 94])) ([]) ([3,2]:List Nat)):=by
 intro m0;induction m0 using LB with
 |_ m0 ih0=>
  intro i r1 hr1 Jw h0 ⟨Ql,Wl,X0⟩;have J2:Qj [f.a,f.b,f.c,f.d] i.toNat=f.at i:=rfl;by_cases q0:(i:Int)<((↑ps.length:Int))
  ·have VO:Qz (P5 B ps f i Ql):=by
    have hgi:=hg i h0 q0;have hfi:=ZC (f:=f) hf h0 (by omega);have s1:=WO (f:=f) h0 q0;exact⟨wI,⟨(TG rfl (LO (m:=4) (by omega) rfl)),⟨⟨by omega,by omega⟩,⟨(iX (lX 12)),⟨(Xs q0),trivial⟩⟩⟩⟩⟩
   by_cases q1:(0:Int)<(Qd.goal (ps.getD i.toNat La)-Qj [f.a,f.b,f.c,f.d] i.toNat)
   ·have rj1:FJ YP B (Wc ps f i Ql) (Zt ps f i Ql) 6 (OO.ZB (Value.iface 94 (.agg #[YI i,YI (Qd.goal (ps.getD i.toNat La)-Qj [f.a,f.b,f.c,f.d] i.toNat)]))) (([]++((6,QV)::QL (6+1) []))++Zt ps f i Ql) 7 (Le 6) []:=by
     have hgi:=hg i h0 q0;have hfi:=ZC (f:=f) hf h0 (by omega);have s1:=WO (f:=f) h0 q0;rw[decide_eq_true (show 0<(ps.getD i.toNat La).goal-f.at i from q1),cond_true]at s1;exact FinK.fjB (GoE.fK ((GoE.refl (P:=YP) (B:=B) (c0:=Wc ps f i Ql) uA).widen (Wf:=((([]):List (Nat×KS)).map (·.1))) (by simp) wO) (ml B ps f i Ql)
      ⟨(Xs q1),trivial⟩) (ex:=[]) (by kernel_rfl) (Zb _)
    have hgi:=hg i h0 q0;have hfi:=ZC (f:=f) hf h0 (by omega);have s1:=WO (f:=f) h0 q0;rw[decide_eq_true (show 0<(ps.getD i.toNat La).goal-f.at i from q1),cond_true]at s1;exact(GoE.landU (wks:=[(3,KS.auto),(2,KS.auto)]) okF hJ Q5 uA wO X0 (mj B ps f i Ql)
     (by exact⟨rj1,VO⟩) (by kernel_rfl) rfl).cast (by(subst hr1;rw[s1];rfl)) (by rfl) (by rfl)
   ·have rj1:FJ YP B (Wc ps f i Ql) (Zt ps f i Ql) 6 (OO.ret (.tuple #[])) (([]++((6,QV)::QL (6+1) []))++Zt ps f i Ql) 7 (Le 6) []:=by
     have hgi:=hg i h0 q0;have hfi:=ZC (f:=f) hf h0 (by omega);have s1:=WO (f:=f) h0 q0;rw[decide_eq_false (show ¬0<(ps.getD i.toNat La).goal-f.at i from q1),cond_false]at s1;exact FinK.fjB (GoE.fK ((GoE.refl (P:=YP) (B:=B) (c0:=Wc ps f i Ql) uA).widen (Wf:=((([]):List (Nat×KS)).map (·.1))) (by simp) wO) (mi B ps f i Ql)
      ⟨(nL q1),trivial⟩) (ex:=[]) (by kernel_rfl) (Zb _)
    have hgi:=hg i h0 q0;have hfi:=ZC (f:=f) hf h0 (by omega);have s1:=WO (f:=f) h0 q0;rw[decide_eq_false (show ¬0<(ps.getD i.toNat La).goal-f.at i from q1),cond_false]at s1;exact((ih0 _ (by omega)) (i+1) r1 (by rw[<-hr1,s1]) rfl (by omega)
     (GoE.lA X0 (mh B ps f i Ql)
     ⟨wI,⟨rj1,VO⟩⟩ (by kernel_rfl) (by kernel_rfl) (fun l hl=>by cases hl <;> decide))).cast (by(subst hr1;rw[s1];done)) (by rfl) (by rfl)
  ·have s1:=cB (f:=f) (l:=ps) (i:=i) (by omega);exact(GoE.landU (wks:=[(3,KS.auto),(2,KS.auto)]) okF hJ Q5 uA wO X0 (mg B ps f i Ql)
    (by exact⟨(nL q0),trivial⟩) (by kernel_rfl) rfl).cast (by(subst hr1;rw[s1];rfl)) (by rfl) (by rfl)

theorem mm(B:Lo)(ps:List Qd)(f:F4):CE.landA 4 (Qn YP (Q0 YP) J0 B 5 4 (Zs ps f) (X3 ps f) 4
 [] 0 [] []) [3,4,5,9,10,11] [(3,KS.auto),(2,KS.auto)] [] []=some ⟨88,26,ZA,[],.run,none,Z9 ps f (0),([3,2]:List Nat).zip (Z8 ps f (0)),Zp ps f (0),
 []⟩:=by kernel_rfl
theorem mf(B:Lo)(ps:List Qd)(f:F4):let h:=([4,5]:List Nat).zip [pA 2 0,pA 3 0];let e:=Prod.snd (Xt f (List.drop (Lb 0) ps) 0);let j:=Prod.snd e;let i:=Prod.fst e;let g:=OO.ZB (Value.iface 94 (.agg #[YI i,YI j]));Xv (uy YP (Q0 YP) J0 B 3 1 (Qu YP 88 26 (([Xp ps,.agg #[YI f.a,YI f.b,YI f.c,YI f.d]]).map (Q4 0 4))) Zd 1
 g h ([(3,Obj.cells #[.bool false] 4),(2,Obj.cells #[YI 0,YI 0] 94)]++(4,QV)::QL 5 []) 5 [3,2] (.tuple #[.agg #[YI i,YI j],.bool true]) [2,3]) []=some (.tuple #[.agg #[YI i,YI j],.bool true],
 [UJ YP B (Zs ps f) (X3 ps f) 4 g h (([(3,Obj.cells #[.bool false] 4),(2,Obj.cells #[YI 0,YI 0] 94)]++((4,QV)::QL (4+1) []))++X3 ps f) 5 (Le 4) [3,2],∀d:Nat->Value,kW YP 88 ([(3,Obj.cells #[.bool true] 4),(2,Obj.cells #[YI i,YI j] 94),(4,Obj.coro none),(3,Obj.cells #[.bool false] 4),(2,Obj.cells #[YI 0,YI 0] 94),(1,Obj.cells #[YI f.a,YI f.b,YI f.c,YI f.d] 111),(0,Obj.coro none)]) (Ms 26 h d)=some (.tuple #[.agg #[YI i,YI j],.bool true],[2,3])]):=by intro h e j i g;kernel_rfl
theorem me(B:Lo)(ps:List Qd)(f:F4):CE.landA 4 (Qn YP (Q0 YP) J0 B 5 4 (Zs ps f) (X3 ps f) 4
 [] 0 [] []) [3,4,5,9,10,11] [(3,KS.auto),(2,KS.auto)] [] []=some ⟨88,26,ZA,[],.run,none,Z9 ps f (0),([3,2]:List Nat).zip (Z8 ps f (0)),Zp ps f (0),
 []⟩:=by kernel_rfl
theorem md(B:Lo)(ps:List Qd)(f:F4):let g:=OO.ret (.tuple #[]);let e:=([4,5]:List Nat).zip [pA 2 0,pA 3 0];Xv (uy YP (Q0 YP) J0 B 3 1 (Qu YP 88 26 (([Xp ps,.agg #[YI f.a,YI f.b,YI f.c,YI f.d]]).map (Q4 0 4))) Zd 1
 g e ([(3,Obj.cells #[.bool false] 4),(2,Obj.cells #[YI 0,YI 0] 94)]++(4,QV)::QL 5 []) 5 [3,2] (.tuple #[.agg #[YI 0,YI 0],.bool false]) [2,3]) []=some (.tuple #[.agg #[YI 0,YI 0],.bool false],
 [UJ YP B (Zs ps f) (X3 ps f) 4 g e (([(3,Obj.cells #[.bool false] 4),(2,Obj.cells #[YI 0,YI 0] 94)]++((4,QV)::QL (4+1) []))++X3 ps f) 5 (Le 4) [3,2],∀d:Nat->Value,kW YP 88 ([(3,Obj.cells #[.bool false] 4),(2,Obj.cells #[YI 0,YI 0] 94),(4,Obj.coro none),(3,Obj.cells #[.bool false] 4),(2,Obj.cells #[YI 0,YI 0] 94),(1,Obj.cells #[YI f.a,YI f.b,YI f.c,YI f.d] 111),(0,Obj.coro none)]) (Ms 26 e d)=some (.tuple #[.agg #[YI 0,YI 0],.bool false],[2,3])]):=by intro g e;kernel_rfl
set_option maxHeartbeats 4000000 in
theorem pw(ps:List Qd)(f:F4)(hl:ps.length<=4)(hg:∀i:Int,0<=i->i<ps.length->0<=(ps.getD i.toNat La).goal/\(ps.getD i.toNat La).goal<=1000000)(hf:PW ⟨f.a,f.b,f.c,f.d⟩){B:Lo}(hJ:∀w,B.has w->J0 w):EndsT YP B (Qu YP 88 26 (([Xp ps,.agg #[YI f.a,YI f.b,YI f.c,YI f.d]]).map (Q4 0 4))) (.tuple #[.agg #[YI (Xt f ps 0).2.1,YI (Xt f ps 0).2.2],.bool (Xt f ps 0).1]):=by
 cases q0:Prod.fst (Xt f (List.drop (Lb 0) ps) 0)with
 |true=>
  have rj0:UJ YP B (Zs ps f) (X3 ps f) 4 (OO.ZB (Value.iface 94 (.agg #[YI (Prod.fst (Prod.snd (Xt f (List.drop (Lb 0) ps) 0))),YI (Prod.snd (Prod.snd (Xt f (List.drop (Lb 0) ps) 0)))]))) (([4,5]:List Nat).zip [pA 2 0,pA 3 0]) (([(3,Obj.cells #[.bool false] 4),(2,Obj.cells #[YI 0,YI 0] 94)]++((4,QV)::QL (4+1) []))++X3 ps f) 5 (Le 4) [3,2]:=by
   exact FinU.ujB ((Ri ps f hl hg hf hJ _) (0) true q0 rfl (by omega)
    (GoE.lA ((GoE.refl (P:=YP) (B:=B) (c0:=Zs ps f) uA).widen (Wf:=((([(3,KS.auto),(2,KS.auto)]):List (Nat×KS)).map (·.1))) (by simp) wO) (mm B ps f)
    trivial (by kernel_rfl) (by kernel_rfl) (fun l hl=>by cases hl <;> decide))) (ex:=[]) (by kernel_rfl) (Zb _)
  exact(GoE.endsD okF hJ Q5 GoE.start (mf B ps f)
   (by exact⟨rj0,⟨(fun d=>by kernel_rfl),trivial⟩⟩)).cast (by(rw[show(Xt f ps 0).1=true from q0];rfl))
 |false=>
  have rj0:UJ YP B (Zs ps f) (X3 ps f) 4 (OO.ret (.tuple #[])) (([4,5]:List Nat).zip [pA 2 0,pA 3 0]) (([(3,Obj.cells #[.bool false] 4),(2,Obj.cells #[YI 0,YI 0] 94)]++((4,QV)::QL (4+1) []))++X3 ps f) 5 (Le 4) [3,2]:=by
   exact FinU.ujB ((Ri ps f hl hg hf hJ _) (0) false q0 rfl (by omega)
    (GoE.lA ((GoE.refl (P:=YP) (B:=B) (c0:=Zs ps f) uA).widen (Wf:=((([(3,KS.auto),(2,KS.auto)]):List (Nat×KS)).map (·.1))) (by simp) wO) (me B ps f)
    trivial (by kernel_rfl) (by kernel_rfl) (fun l hl=>by cases hl <;> decide))) (ex:=[]) (by kernel_rfl) (Zb _)
  exact(GoE.endsD okF hJ Q5 GoE.start (md B ps f)
   (by exact⟨rj0,⟨(fun d=>by kernel_rfl),trivial⟩⟩)).cast (by(rw[pL (f:=f) (l:=ps) (i:=0) q0]))
theorem iY(ps:List Qd)(f:F4)(hl:ps.length<=4)(hg:∀i:Int,0<=i->i<ps.length->0<=(ps.getD i.toNat La).goal/\(ps.getD i.toNat La).goal<=1000000)(hf:PW ⟨f.a,f.b,f.c,f.d⟩):Qv YP J0 88 #[Xp ps,.agg #[YI f.a,YI f.b,YI f.c,YI f.d]] (.tuple #[.agg #[YI (Xt f ps 0).2.1,YI (Xt f ps 0).2.2],.bool (Xt f ps 0).1]):=
 Xd (ts:=[Xp ps,.agg #[YI f.a,YI f.b,YI f.c,YI f.d]]) Zc (c0:=Qu YP 88 26 (([Xp ps,.agg #[YI f.a,YI f.b,YI f.c,YI f.d]]).map (Q4 0 4))) (by kernel_rfl) (by kernel_rfl) fun B hJ=>pw ps f hl hg hf hJ
def bJ(rf:Qc)(plan:List Int)(es:List (F4×F4)):Qm:=[(1,.map (mapA Q3 es) es.length),(0,QV)]
def JX(rf:Qc)(plan:List Int)(es:List (F4×F4)):CF:=Qu YP 64 18 [.agg #[Qk 0 (Xp rf.Qa),YI rf.Qh,YI rf.Qb,.map (some 1)],.agg #[YI (plan.getD 0 0),YI (plan.getD 1 0),YI (plan.getD 2 0),YI (plan.getD 3 0)]]
def qv(rf:Qc)(plan:List Int):Array Value:=#[YI (Prod.fst (Prod.snd (Xt (QM rf plan (Lb rf.Qb)) rf.Qa 0))),YI (Prod.snd (Prod.snd (Xt (QM rf plan (Lb rf.Qb)) rf.Qa 0)))]
def gS(B:Lo)(rf:Qc)(plan:List Int)(es:List (F4×F4)):List Prop:=[Qz [QT (mapA Q3 es),QT (mapA Q3 (Xr rf plan (Lb rf.Qb) es))]/\Nv (rf) (plan) (es) rf.Qb]++([]:List Prop)
def qw(rf:Qc)(plan:List Int)(es:List (F4×F4)):QA:=[(12,Qf.wri [1] [0] [true] [] (sh rf plan es rf.Qb) (sg rf plan es rf.Qb) (si rf plan es rf.Qb))]
theorem CS(B:Lo)(rf:Qc)(plan:List Int)(es:List (F4×F4)):let h:=rf.Qa;let g:=Value.tuple #[.agg (qv rf plan),.bool true];let e:=Lb rf.Qb;let i:=Xr rf plan e es;let f:=QM rf plan e;let j:=Prod.snd (Xt f h 0);CE.finK 2 (Qn YP (Q0 YP) J0 B 6 2 (JX rf plan es) (bJ rf plan es) 2
 (qw rf plan es++[(13,Qf.pure g [])]) 0 [] []) [(1,KS.same)] [] []=some (OO.ret (.tuple #[.agg #[YI (Prod.fst j),YI (Prod.snd j)],.bool true]),[(1,Obj.map (mapA Q3 i) i.length)],[],
 [QT (mapA Q3 i),Qz []/\Qv YP J0 88 #[Xo h.length (Qe Qt h),.agg #[YI f.a,YI f.b,YI f.c,YI f.d]] g]++gS B rf plan es):=by intro h g e i f j;kernel_rfl
theorem CQ(B:Lo)(rf:Qc)(plan:List Int)(es:List (F4×F4)):let h:=rf.Qa;let g:=Value.tuple #[.agg (qv rf plan),.bool false];let e:=Lb rf.Qb;let i:=Xr rf plan e es;let f:=QM rf plan e;let j:=Prod.snd (Xt f h 0);CE.finK 2 (Qn YP (Q0 YP) J0 B 6 2 (JX rf plan es) (bJ rf plan es) 2
 (qw rf plan es++[(13,Qf.pure g [])]) 0 [] []) [(1,KS.same)] [] []=some (OO.ret (.tuple #[.agg #[YI (Prod.fst j),YI (Prod.snd j)],.bool false]),[(1,Obj.map (mapA Q3 i) i.length)],[],
 [QT (mapA Q3 i),Qz []/\Qv YP J0 88 #[Xo h.length (Qe Qt h),.agg #[YI f.a,YI f.b,YI f.c,YI f.d]] g]++gS B rf plan es):=by intro h g e i f j;kernel_rfl
set_option maxHeartbeats 4000000 in
theorem GX(rf:Qc)(plan:List Int)(es:List (F4×F4))(hr:X4 rf=true)(hp:XJ rf plan=true)(he:Uf rf es){B:Lo}(hJ:∀w,B.has w->J0 w):FinK YP B (JX rf plan es) (bJ rf plan es) 2 (.ret (.tuple #[.agg #[YI (Xt (QM rf plan rf.Qb.toNat) rf.Qa 0).2.1,YI (Xt (QM rf plan rf.Qb.toNat) rf.Qa 0).2.2],.bool (Xt (QM rf plan rf.Qb.toNat) rf.Qa 0).1])) (([1]:List Nat).zip [.map (mapA Q3 (Xr rf plan rf.Qb.toNat es)) (Xr rf plan rf.Qb.toNat es).length]) [] ([1]:List Nat):=by
 have Zi:=Q2 (Qw hr).1;have hpf:=(Xz hp).1;have hf4:=(Jz (plan:=plan) hr (s:=rf.Qb.toNat) (by omega)).1;have PH:∀i:Int,0<=i->i<rf.Qa.length->0<=(rf.Qa.getD i.toNat La).goal/\(rf.Qa.getD i.toNat La).goal<=1000000:=fun i h0 h1=>(Zg ((Qw hr).2 i h0 h1).1).2.2.1
 have VO:Qz (gS B rf plan es):=by
  exact⟨⟨⟨(QH (fun _=>by kernel_rfl)),⟨(QH (fun _=>by kernel_rfl)),trivial⟩⟩,QbG (rf) (plan) (es) rf.Qb ‹_› ‹_› ‹_› (by omega) (by omega)⟩,trivial⟩
 cases q0:Prod.fst (Xt (QM rf plan (Lb rf.Qb)) rf.Qa 0)with
 |true=>
  exact(GoE.fK ((GoE.refl (P:=YP) (B:=B) (c0:=JX rf plan es) uA).widen (Wf:=((([(1,KS.same)]):List (Nat×KS)).map (·.1))) (by simp) wO) (CS B rf plan es)
   ⟨(by exact QH (fun _=>by kernel_rfl)),⟨⟨trivial,(by have t_:=iY rf.Qa (QM rf plan (Lb rf.Qb)) (by omega) ‹_› ‹_›;rw[q0]at t_;exact t_)⟩,VO⟩⟩).cast (by rfl) (by rfl) (by rfl)
 |false=>
  exact(GoE.fK ((GoE.refl (P:=YP) (B:=B) (c0:=JX rf plan es) uA).widen (Wf:=((([(1,KS.same)]):List (Nat×KS)).map (·.1))) (by simp) wO) (CQ B rf plan es)
   ⟨(by exact QH (fun _=>by kernel_rfl)),⟨⟨trivial,(by have t_:=iY rf.Qa (QM rf plan (Lb rf.Qb)) (by omega) ‹_› ‹_›;rw[q0]at t_;exact t_)⟩,VO⟩⟩).cast (by rfl) (by rfl) (by rfl)
def Jg(rf:Qc)(plan:List Int)(es:List (F4×F4)):OO:=.ret (.tuple #[.agg #[YI (Xt (QM rf plan rf.Qb.toNat) rf.Qa 0).2.1,YI (Xt (QM rf plan rf.Qb.toNat) rf.Qa 0).2.2],.bool (Xt (QM rf plan rf.Qb.toNat) rf.Qa 0).1])
def Jf(rf:Qc)(plan:List Int)(es:List (F4×F4)):List Obj:=[.map (mapA Q3 (Xr rf plan rf.Qb.toNat es)) (Xr rf plan rf.Qb.toNat es).length]
def Jh(rf:Qc)(plan:List Int)(es:List (F4×F4)):List Obj:=[]
def Sl(rf:Qc)(plan:List Int)(es:List (F4×F4)):Prop:=WriC YP J0 64 #[.agg #[Qk 0 (Xp rf.Qa),YI rf.Qh,YI rf.Qb,.map (some 1)],.agg #[YI (plan.getD 0 0),YI (plan.getD 1 0),YI (plan.getD 2 0),YI (plan.getD 3 0)]] [.map (mapA Q3 es) es.length] (Jg rf plan es) (Jf rf plan es) (Jh rf plan es)
theorem gT(rf:Qc)(plan:List Int)(es:List (F4×F4))(hr:X4 rf=true)(hp:XJ rf plan=true)(he:Uf rf es):WriC YP J0 64 #[.agg #[Qk 0 (Xp rf.Qa),YI rf.Qh,YI rf.Qb,.map (some 1)],.agg #[YI (plan.getD 0 0),YI (plan.getD 1 0),YI (plan.getD 2 0),YI (plan.getD 3 0)]] [.map (mapA Q3 es) es.length] (Jg rf plan es) (Jf rf plan es) (Jh rf plan es):=
 FinK.wri (c0:=JX rf plan es) (Hb:=bJ rf plan es) (a:=2) (ws:=([1]:List Nat).zip [.map (mapA Q3 (Xr rf plan rf.Qb.toNat es)) (Xr rf plan rf.Qb.toNat es).length]) (Wf:=([1]:List Nat)) (by kernel_rfl) rfl rfl rfl rfl fun B hJ=>GX rf plan es hr hp he hJ
def X5(rf:Qc)(plan:List Int):Bool×Int×Int:=Xt (QM rf plan rf.Qb.toNat) rf.Qa 0
end
end Go.Proofs.Ytncjjangllkokaa

