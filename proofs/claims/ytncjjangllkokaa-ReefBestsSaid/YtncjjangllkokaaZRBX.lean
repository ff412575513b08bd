/- ReefBests: whatever the input, it returns true, and each argument reads as it did. The row, from the walk. -/
import Derived.Test.YtncjjangllkokaaZRB19
import Derived.Test.YtncjjangllkokaaZRB15
import Derived.JoinedOf
import Derived.Test.YtncjjangllkokaaRows
set_option linter.all false
open Int renaming le_refl->LH,toNat->Lb
open List renaming length->Ld,getD->Ln
open Array renaming extract->Lh
open Nat renaming strongRecOn->LB
open Inhabited renaming default->La
namespace Go.Proofs.Ytncjjangllkokaa
open Go Go.CE Go.RowKit
noncomputable section
set_option maxRecDepth 100000
def Z3(rf:Qc):List (List Int):=Ze (QG rf) fun k=>QR rf k
theorem Nx{b s m:Nat}:PU b s m=(PQ 0 m).map fun k=>⟨s,PJ b s k.toNat⟩:=by
 unfold PU PQ;rw[List.map_map,show((m:Int)-0).toNat=m by omega];refine List.map_congr_left fun k _=> ?_
 show(⟨s,PJ b s k⟩:RW)=⟨s,PJ b s (0+(k:Int)).toNat⟩
 rw[show(0+(k:Int)).toNat=k by omega]
theorem SL{rf:Qc}:(Z3 rf).length=(QG rf).toNat:=Xa
theorem Ju{rf:Qc}{k:Int}(h0:0<=k)(h:k<QG rf):(Z3 rf).getD k.toNat La=QR rf k:=Xc h0 h
theorem zw{rf:Qc}(hs:1<=rf.Qb):Xo (PU (base rf) rf.Qb.toNat (base rf ^ rf.Qb.toNat)).length (Qe QP (PU (base rf) rf.Qb.toNat (base rf ^ rf.Qb.toNat)))=Qb1 (Z3 rf):=by
 have e:Qe QP (PU (base rf) rf.Qb.toNat (base rf ^ rf.Qb.toNat))=Qe XM (Z3 rf):=by
  rw[Nx,jR _ _ _ fun k _=>gh];unfold Z3 Ze;rw[bL hs];congr 1;refine List.map_congr_left fun k _=> ?_
  rw[qW hs]
 show _=Xo (Z3 rf).length (Qe XM (Z3 rf));rw[e,JE,SL,bL hs];rfl
theorem Qbg(rf:Qc)(hp:1<=rf.Qa.length/\rf.Qa.length<=4)(hs:1<=rf.Qb/\rf.Qb<=4)(hm:(rf.Qa.length:Int)*rf.Qb<=6):Qv YP J0 68 #[.agg (Q1 rf).toArray] (Qb1 (Z3 rf)):=by
 rw[<-zw hs.1];exact Qax rf hp hs hm
def Kg(rf:Qc):Nat->Int->Bool->List Int->Bool×List Int
 |0,_,b,pl=>(b,pl)
 |n+1,i,b,pl=>
  bif b && decide (Xk rf pl<=Xk rf (QR rf i))then Kg rf n (i+1) b pl
  else bif (X5 rf (QR rf i)).1 then Kg rf n (i+1) b pl
  else Kg rf n (i+1) true (QR rf i)
theorem dg{rf:Qc}{i:Int}{b:Bool}{pl:List Int}(hi:i<QG rf):Kg rf (QG rf-i).toNat i b pl=bif b && decide (Xk rf pl<=Xk rf (QR rf i))then Kg rf (QG rf-(i+1)).toNat (i+1) b pl
 else bif (X5 rf (QR rf i)).1 then Kg rf (QG rf-(i+1)).toNat (i+1) b pl
 else Kg rf (QG rf-(i+1)).toNat (i+1) true (QR rf i):=by
 rw[show(QG rf-i).toNat=(QG rf-(i+1)).toNat+1 by omega];rfl
theorem AH{rf:Qc}{i:Int}{pl X:List Int}(hx:X=QR rf i)(hi:i<QG rf)(hc:Xk rf pl<=Xk rf X):Kg rf (QG rf-i).toNat i true pl=Kg rf (QG rf-(i+1)).toNat (i+1) true pl:=by
 subst hx;rw[dg hi,decide_eq_true hc];rfl
theorem ry{rf:Qc}{i:Int}{b:Bool}{pl X:List Int}(hx:X=QR rf i)(hi:i<QG rf)(hc:b=false\/¬Xk rf pl<=Xk rf X)(hq:(X5 rf X).1=true):Kg rf (QG rf-i).toNat i b pl=Kg rf (QG rf-(i+1)).toNat (i+1) b pl:=by
 subst hx;rw[dg hi,hq];rcases hc with rfl|hc
 ·rfl
 ·rw[decide_eq_false hc,Bool.and_false];rfl
theorem oZ{rf:Qc}{i:Int}{b:Bool}{pl X:List Int}(hx:X=QR rf i)(hi:i<QG rf)(hc:b=false\/¬Xk rf pl<=Xk rf X)(hq:(X5 rf X).1=false):Kg rf (QG rf-i).toNat i b pl=Kg rf (QG rf-(i+1)).toNat (i+1) true X:=by
 subst hx;rw[dg hi,hq];rcases hc with rfl|hc
 ·rfl
 ·rw[decide_eq_false hc,Bool.and_false];rfl
theorem rv{rf:Qc}{i:Int}{b:Bool}{pl:List Int}(hi:¬i<QG rf):Kg rf (QG rf-i).toNat i b pl=(b,pl):=by
 rw[show(QG rf-i).toNat=0 by omega];rfl
def UA(rf:Qc)(r:Bool×Int):List Int:=if r.1=true then QR rf r.2 else []
theorem kD{rf:Qc}:∀(n:Nat) (i:Int) (b:Bool) (k:Int),Kg rf n i b (UA rf (b,k))=((TL rf n i b k).1,UA rf (TL rf n i b k))
 |0,_,_,_=>rfl
 |n+1,i,b,k=>by
  unfold Kg TL;have e:(b && decide (Xk rf (UA rf (b,k))<=Xk rf (QR rf i)))=(b && decide (Xk rf (QR rf k)<=Xk rf (QR rf i))):=by
   cases b <;> rfl
  rw[e];cases(b && decide (Xk rf (QR rf k)<=Xk rf (QR rf i)))with
  |true=>exact kD n _ _ _
  |false=>
   simp only[cond_false];cases(X5 rf (QR rf i)).1 with
   |true=>exact kD n _ _ _
   |false=>exact kD n (i+1) true i
theorem O7{rf:Qc}(hr:Zo rf=true):Kg rf (QG rf-0).toNat 0 false []=((Xg rf).1,UA rf (Xg rf)):=by
 have hs:=Q2 (Zm hr).1;have hp:=Un (rf:=rf) hs.1 hs.2.2;rw[show QG rf-0=QG rf by omega];have h:=kD (rf:=rf) (QG rf).toNat 0 false 0;rw[show UA rf (false,0)=[]from rfl]at h;rw[h];unfold Xg;cases hl:je rf with
 |false=>rfl
 |true=>
  have hi:=TD (rf:=rf) (QG rf).toNat 0 false 0 (LH _) ⟨fun h=>(by cases h),fun _ j j0 j1=>by omega⟩;cases hb:(TL rf (QG rf).toNat 0 false 0).1 with
  |false=>unfold UA;rw[hb];rfl
  |true=>
   have:=(hi.1 hb).1;rw[Am hr hl (Zh (by omega))]at this;cases this
def Sc(rf:Qc)(i:Int):List Value:=[pA 2 0,Qk 1 (Xo (Ld (Z3 rf)) (Qe XM (Z3 rf))),.slice none 0 0,.bool false,YI i]
def UW(rf:Qc)(i:Int):List Obj:=[Obj.cells #[Qk 1 (Xp rf.Qa),YI rf.Qh,YI rf.Qb] 24]
def Sd:List Item:=([.code [1,1,1,1,0,1,0,0],.inLoop [1,1,1,1,0,1,0,0],.inBlock 0,.code [1,1,1,1,1]]).map (it (Q8 YP 38))
def GD(B:Lo)(c0:CF)(rf:Qc)(i:Int):Prop:=∃dJ:Nat->Value,(∀t,Xh (dJ t))/\GoE YP B c0 Zd 1 (QC 38 50 (([1,4,5,6,7]:List Nat).zip (Sc rf i)) dJ Sd) (Q9 (UW rf i)) (2+(UW rf i).length) []
def KW(rf:Qc)(i:Int)(pl:List Int):List Value:=[pA 2 0,Qk 1 (Xo (Ld (Z3 rf)) (Qe XM (Z3 rf))),Qk 1 (X7 pl),.bool true,YI i]
def WR(rf:Qc)(i:Int)(pl:List Int):List Obj:=[Obj.cells #[Qk 1 (Xp rf.Qa),YI rf.Qh,YI rf.Qb] 24]
def KX:List Item:=([.code [1,1,1,1,0,1,0,0],.inLoop [1,1,1,1,0,1,0,0],.inBlock 0,.code [1,1,1,1,1]]).map (it (Q8 YP 38))
def GC(B:Lo)(c0:CF)(rf:Qc)(i:Int)(pl:List Int):Prop:=∃dJ:Nat->Value,(∀t,Xh (dJ t))/\GoE YP B c0 Zd 1 (QC 38 50 (([1,4,5,6,7]:List Nat).zip (KW rf i pl)) dJ KX) (Q9 (WR rf i pl)) (2+(WR rf i pl).length) []
def al(rf:Qc)(i:Int):Array Value:=#[.agg #[Xp rf.Qa,YI rf.Qh,YI rf.Qb],Xo (Ld (Ln (Z3 rf) i.toNat La)) (Qe Qy (Ln (Z3 rf) i.toNat La))]
def ez(rf:Qc)(i:Int):Value:=(.tuple #[YI (Prod.fst (Prod.snd (X5 rf (Ln (Z3 rf) i.toNat La)))),YI (Prod.snd (Prod.snd (X5 rf (Ln (Z3 rf) i.toNat La)))),.bool false])
def ey(rf:Qc)(i:Int):Value:=(.tuple #[YI (Prod.fst (Prod.snd (X5 rf (Ln (Z3 rf) i.toNat La)))),YI (Prod.snd (Prod.snd (X5 rf (Ln (Z3 rf) i.toNat La)))),.bool true])
def UU(rf:Qc)(i:Int):Array Value:=#[Xo (Ld (Ln (Z3 rf) i.toNat La)) (Qe Qy (Ln (Z3 rf) i.toNat La))]
def lE(B:Lo)(rf:Qc)(i:Int)(Ql:Nat->Value):List Prop:=[i=(↑i.toNat:Int)/\Lb i<Ld (Z3 rf)/\Lh (Qe XM (Z3 rf)) (Lb i*TypeInfo.size Try.t25) (Lb i*TypeInfo.size Try.t25+TypeInfo.size Try.t25)=(UU rf i),XB i (↑(Ld (Z3 rf)):Int)=true]++([]:List Prop)
def v3(rf:Qc)(i:Int)(Ql:Nat->Value):QA:=[(3,Wj),(20,Qf.tidx i.toNat (UU rf i))]
theorem GA(B:Lo)(rf:Qc)(i:Int)(Ql:Nat->Value):landM (Qn YP (Q0 YP) J0 B 21 1 (QC 38 50 (([1,4,5,6,7]:List Nat).zip (Sc rf i)) Ql Sd) (Q9 (UW rf i)) (2+(UW rf i).length)
 (v3 rf i Ql++[(22,Qf.pure (ey rf i) []),(33,Zu (i+1))]) 0 [] []) [1,4,5,6,7] [(2,KS.auto)] []=some ⟨38,50,Sd,[],.run,none,Sc rf (i+1),UW rf (i+1),
 [wq (i+1)=i+1,Qz []/\Qv YP J0 36 (al rf i) (ey rf i)]++lE B rf i Ql⟩:=by kernel_rfl
theorem G9(B:Lo)(rf:Qc)(i:Int)(Ql:Nat->Value):let b:=Lb i;let a:=Ln (Z3 rf) b La;landM (Qn YP (Q0 YP) J0 B 21 1 (QC 38 50 (([1,4,5,6,7]:List Nat).zip (Sc rf i)) Ql Sd) (Q9 (UW rf i)) (2+(UW rf i).length)
 (v3 rf i Ql++[(22,Qf.pure (ez rf i) []),(34,Qf.tidx b (UU rf i)),(39,Zu (i+1))]) 0 [] []) [1,4,5,6,7] [(2,KS.auto)] []=some ⟨38,50,KX,[],.run,none,KW rf (i+1) a,WR rf (i+1) a,
 [wq (i+1)=i+1,i=(↑b:Int)/\Lb i<Ld (Z3 rf)/\Lh (Qe XM (Z3 rf)) (Lb i*TypeInfo.size Try.t25) (Lb i*TypeInfo.size Try.t25+TypeInfo.size Try.t25)=(UU rf i),Qz []/\Qv YP J0 36 (al rf i) (ez rf i)]++lE B rf i Ql⟩:=by intro b a;kernel_rfl
theorem G8(B:Lo)(rf:Qc)(i:Int)(Ql:Nat->Value):Xv (Qn YP (Q0 YP) J0 B 9 1 (QC 38 50 (([1,4,5,6,7]:List Nat).zip (Sc rf i)) Ql Sd) (Q9 (UW rf i)) (2+(UW rf i).length)
 [(3,WC)] 0 [] []) []=some (.tuple #[Xo 0 #[],.bool false],
 [XB i (↑(Ld (Z3 rf)):Int)=false]):=by kernel_rfl
def lD(B:Lo)(rf:Qc)(i:Int)(pl:List Int)(Ql:Nat->Value):List Prop:=[Qz []/\Qv YP J0 40 #[.agg #[Xp rf.Qa,YI rf.Qh,YI rf.Qb],X7 pl] (YI (Xk rf pl)),Qz []/\Qv YP J0 40 (al rf i) (YI (Xk rf (Ln (Z3 rf) i.toNat La))),i=(↑i.toNat:Int)/\Lb i<Ld (Z3 rf)/\Lh (Qe XM (Z3 rf)) (Lb i*TypeInfo.size Try.t25) (Lb i*TypeInfo.size Try.t25+TypeInfo.size Try.t25)=(UU rf i),XB i (↑(Ld (Z3 rf)):Int)=true]++([]:List Prop)
def vz(rf:Qc)(i:Int)(pl:List Int)(Ql:Nat->Value):QA:=[(3,Wj),(9,Qf.tidx i.toNat (UU rf i)),(11,Qf.pure (YI (Xk rf (Ln (Z3 rf) i.toNat La))) []),(14,Qf.pure (YI (Xk rf pl)) [])]
theorem G7(B:Lo)(rf:Qc)(i:Int)(pl:List Int)(Ql:Nat->Value):landM (Qn YP (Q0 YP) J0 B 14 1 (QC 38 50 (([1,4,5,6,7]:List Nat).zip (KW rf i pl)) Ql KX) (Q9 (WR rf i pl)) (2+(WR rf i pl).length)
 (vz rf i pl Ql++[(15,Wj),(18,Zu (i+1))]) 0 [] []) [1,4,5,6,7] [(2,KS.auto)] []=some ⟨38,50,KX,[],.run,none,KW rf (i+1) (pl),WR rf (i+1) (pl),
 [wq (i+1)=i+1,(!XB (Xk rf (Ln (Z3 rf) i.toNat La)) (Xk rf pl))=true]++lD B rf i pl Ql⟩:=by kernel_rfl
def lC(B:Lo)(rf:Qc)(i:Int)(pl:List Int)(Ql:Nat->Value):List Prop:=[i=(↑i.toNat:Int)/\Lb i<Ld (Z3 rf)/\Lh (Qe XM (Z3 rf)) (Lb i*TypeInfo.size Try.t25) (Lb i*TypeInfo.size Try.t25+TypeInfo.size Try.t25)=(UU rf i),(!XB (Xk rf (Ln (Z3 rf) i.toNat La)) (Xk rf pl))=false]++lD B rf i pl Ql
def vy(rf:Qc)(i:Int)(pl:List Int)(Ql:Nat->Value):QA:=vz rf i pl Ql++[(15,WC),(20,Qf.tidx i.toNat (UU rf i))]
theorem G6(B:Lo)(rf:Qc)(i:Int)(pl:List Int)(Ql:Nat->Value):landM (Qn YP (Q0 YP) J0 B 21 1 (QC 38 50 (([1,4,5,6,7]:List Nat).zip (KW rf i pl)) Ql KX) (Q9 (WR rf i pl)) (2+(WR rf i pl).length)
 (vy rf i pl Ql++[(22,Qf.pure (ey rf i) []),(33,Zu (i+1))]) 0 [] []) [1,4,5,6,7] [(2,KS.auto)] []=some ⟨38,50,KX,[],.run,none,KW rf (i+1) (pl),WR rf (i+1) (pl),
 [wq (i+1)=i+1,Qz []/\Qv YP J0 36 (al rf i) (ey rf i)]++lC B rf i pl Ql⟩:=by kernel_rfl
theorem G5(B:Lo)(rf:Qc)(i:Int)(pl:List Int)(Ql:Nat->Value):let b:=Lb i;let a:=Ln (Z3 rf) b La;landM (Qn YP (Q0 YP) J0 B 21 1 (QC 38 50 (([1,4,5,6,7]:List Nat).zip (KW rf i pl)) Ql KX) (Q9 (WR rf i pl)) (2+(WR rf i pl).length)
 (vy rf i pl Ql++[(22,Qf.pure (ez rf i) []),(34,Qf.tidx b (UU rf i)),(39,Zu (i+1))]) 0 [] []) [1,4,5,6,7] [(2,KS.auto)] []=some ⟨38,50,KX,[],.run,none,KW rf (i+1) a,WR rf (i+1) a,
 [wq (i+1)=i+1,i=(↑b:Int)/\Lb i<Ld (Z3 rf)/\Lh (Qe XM (Z3 rf)) (Lb i*TypeInfo.size Try.t25) (Lb i*TypeInfo.size Try.t25+TypeInfo.size Try.t25)=(UU rf i),Qz []/\Qv YP J0 36 (al rf i) (ez rf i)]++lC B rf i pl Ql⟩:=by intro b a;kernel_rfl
theorem G4(B:Lo)(rf:Qc)(i:Int)(pl:List Int)(Ql:Nat->Value):Xv (Qn YP (Q0 YP) J0 B 9 1 (QC 38 50 (([1,4,5,6,7]:List Nat).zip (KW rf i pl)) Ql KX) (Q9 (WR rf i pl)) (2+(WR rf i pl).length)
 [(3,WC)] 0 [] []) []=some (.tuple #[X7 pl,.bool true],
 [XB i (↑(Ld (Z3 rf)):Int)=false]):=by kernel_rfl
theorem G3(B:Lo)(rf:Qc):let a:=Xo (Ld (Z3 rf)) (Qe XM (Z3 rf));landM (Qn YP (Q0 YP) J0 B 13 1 (Qu YP 38 50 (([.agg (Q1 rf).toArray]).map (Q4 0 4))) Zd 1
 [(4,Qf.pure a [])] 0 [] []) [1,4,5,6,7] [(1,KS.auto)] []=some ⟨38,50,Sd,[],.run,none,Sc rf (0),UW rf (0),
 [Qz []/\Qv YP J0 68 #[.agg #[Xp rf.Qa,YI rf.Qh,YI rf.Qb]] a]⟩:=by intro a;kernel_rfl
set_option maxHeartbeats 4000000 in
theorem GB(rf:Qc)(WG:Zo rf=true)(hm:(rf.Qa.length:Int)*rf.Qb<=6){B:Lo}(hJ:∀w,B.has w->J0 w){c0:CF}:∀m:Nat,(∀(i:Int),(QG rf-i).toNat=m->∀(i0:0<=i) (i1:i<=QG rf),GD B c0 rf i->EndsT YP B c0 (.tuple #[X7 (Kg rf (QG rf-i).toNat i false []).2,.bool (Kg rf (QG rf-i).toNat i false []).1]))/\(∀(i:Int) (pl:List Int),(QG rf-i).toNat=m->∀(i0:0<=i) (i1:i<=QG rf) (hpp:XJ rf pl=true),GC B c0 rf i pl->EndsT YP B c0 (.tuple #[X7 (Kg rf (QG rf-i).toNat i true pl).2,.bool (Kg rf (QG rf-i).toNat i true pl).1])):=by
 intro m0;induction m0 using LB with
 |_ m0 ih0=>
  refine⟨?_, ?_⟩
  ·intro i Jw i0 i1 ⟨Ql,Wl,X0⟩;have Rl:=Ys WG;have Zi:=Q2 (Zm WG).1;have hpi:=Un (rf:=rf) Zi.1 Zi.2.2;have hal:=SL (rf:=rf);have Rl:=Ys WG;have Zi:=Q2 (Zm WG).1;have hpi:=Un (rf:=rf) Zi.1 Zi.2.2;have hal:=SL (rf:=rf);by_cases q0:(i:Int)<((↑(Ld (Z3 rf)):Int))
   ·have VO:Qz (lE B rf i Ql):=by
     have PS:=Ju (rf:=rf) i0 (show i<QG rf by omega);have hpk:XJ rf ((Z3 rf).getD i.toNat La)=true:=(by rw[PS];exact Zh (by omega))
     exact⟨(iX (lX 1)),⟨(Xs q0),trivial⟩⟩
    cases q1:Prod.fst (X5 rf (Ln (Z3 rf) i.toNat La))with
    |true=>
     have PS:=Ju (rf:=rf) i0 (show i<QG rf by omega);have hpk:XJ rf ((Z3 rf).getD i.toNat La)=true:=(by rw[PS];exact Zh (by omega))
     exact((ih0 _ (by omega)).1 (i+1) rfl (by omega) (by omega)
      (X0.lM (GA B rf i Ql)
      ⟨wI,⟨⟨trivial,(by have t_:=rG (rf) (Ln (Z3 rf) i.toNat La) ‹_› ‹_›;rw[q1]at t_;exact t_)⟩,VO⟩⟩)).cast (by(rw[ry PS (by omega) (.inl rfl) (by assumption)];done))
    |false=>
     have PS:=Ju (rf:=rf) i0 (show i<QG rf by omega);have hpk:XJ rf ((Z3 rf).getD i.toNat La)=true:=(by rw[PS];exact Zh (by omega))
     exact((ih0 _ (by omega)).2 (i+1) (Ln (Z3 rf) i.toNat La) rfl (by omega) (by omega) ‹_›
      (X0.lM (G9 B rf i Ql)
      ⟨wI,⟨(iX (lX 1)),⟨⟨trivial,(by have t_:=rG (rf) (Ln (Z3 rf) i.toNat La) ‹_› ‹_›;rw[q1]at t_;exact t_)⟩,VO⟩⟩⟩)).cast (by(rw[oZ PS (by omega) (.inl rfl) (by assumption)];done))
   ·exact(GoE.eT X0 (G8 B rf i Ql)
     ⟨(nL q0),trivial⟩).cast (by(rw[rv (by omega)];rfl))
  ·intro i pl Jw i0 i1 hpp ⟨Ql,Wl,X0⟩;have Rl:=Ys WG;have Zi:=Q2 (Zm WG).1;have hpi:=Un (rf:=rf) Zi.1 Zi.2.2;have hal:=SL (rf:=rf);have Rl:=Ys WG;have Zi:=Q2 (Zm WG).1;have hpi:=Un (rf:=rf) Zi.1 Zi.2.2;have hal:=SL (rf:=rf);by_cases q0:(i:Int)<((↑(Ld (Z3 rf)):Int))
   ·have hp1:Qz (lD B rf i pl Ql):=by
     have PS:=Ju (rf:=rf) i0 (show i<QG rf by omega);have hpk:XJ rf ((Z3 rf).getD i.toNat La)=true:=(by rw[PS];exact Zh (by omega))
     exact⟨⟨trivial,G0 (rf) (pl) ‹_› ‹_›⟩,⟨⟨trivial,G0 (rf) (Ln (Z3 rf) i.toNat La) ‹_› ‹_›⟩,⟨(iX (lX 1)),⟨(Xs q0),trivial⟩⟩⟩⟩
    by_cases q1:(Xk rf pl:Int)<=(Xk rf (Ln (Z3 rf) i.toNat La))
    ·have PS:=Ju (rf:=rf) i0 (show i<QG rf by omega);have hpk:XJ rf ((Z3 rf).getD i.toNat La)=true:=(by rw[PS];exact Zh (by omega))
     exact((ih0 _ (by omega)).2 (i+1) (pl) rfl (by omega) (by omega) ‹_›
      (X0.lM (G7 B rf i pl Ql)
      ⟨wI,⟨(VZ q1),hp1⟩⟩)).cast (by(rw[AH PS (by omega) (by omega)];done))
    ·have YF:Qz (lC B rf i pl Ql):=by
      have PS:=Ju (rf:=rf) i0 (show i<QG rf by omega);have hpk:XJ rf ((Z3 rf).getD i.toNat La)=true:=(by rw[PS];exact Zh (by omega))
      exact⟨(iX (lX 1)),⟨(Ua (Int.not_le.1 q1)),hp1⟩⟩
     cases q2:Prod.fst (X5 rf (Ln (Z3 rf) i.toNat La))with
     |true=>
      have PS:=Ju (rf:=rf) i0 (show i<QG rf by omega);have hpk:XJ rf ((Z3 rf).getD i.toNat La)=true:=(by rw[PS];exact Zh (by omega))
      exact((ih0 _ (by omega)).2 (i+1) (pl) rfl (by omega) (by omega) ‹_›
       (X0.lM (G6 B rf i pl Ql)
       ⟨wI,⟨⟨trivial,(by have t_:=rG (rf) (Ln (Z3 rf) i.toNat La) ‹_› ‹_›;rw[q2]at t_;exact t_)⟩,YF⟩⟩)).cast (by(rw[ry PS (by omega) (.inr (by omega)) (by assumption)];done))
     |false=>
      have PS:=Ju (rf:=rf) i0 (show i<QG rf by omega);have hpk:XJ rf ((Z3 rf).getD i.toNat La)=true:=(by rw[PS];exact Zh (by omega))
      exact((ih0 _ (by omega)).2 (i+1) (Ln (Z3 rf) i.toNat La) rfl (by omega) (by omega) ‹_›
       (X0.lM (G5 B rf i pl Ql)
       ⟨wI,⟨(iX (lX 1)),⟨⟨trivial,(by have t_:=rG (rf) (Ln (Z3 rf) i.toNat La) ‹_› ‹_›;rw[q2]at t_;exact t_)⟩,YF⟩⟩⟩)).cast (by(rw[oZ PS (by omega) (.inr (by omega)) (by assumption)];done))
   ·exact(GoE.eT X0 (G4 B rf i pl Ql)
     ⟨(nL q0),trivial⟩).cast (by(rw[rv (by omega)];done))
set_option maxHeartbeats 4000000 in
theorem Nm(rf:Qc)(WG:Zo rf=true)(hm:(rf.Qa.length:Int)*rf.Qb<=6){B:Lo}(hJ:∀w,B.has w->J0 w):EndsT YP B (Qu YP 38 50 (([.agg (Q1 rf).toArray]).map (Q4 0 4))) (.tuple #[X7 (UA rf (Xg rf)),.bool (Xg rf).1]):=by
 have Rl:=Ys WG;have Zi:=Q2 (Zm WG).1;have hpi:=Un (rf:=rf) Zi.1 Zi.2.2;have hal:=SL (rf:=rf);exact((GB rf WG hm hJ _).1 (0) rfl (by omega) (by omega)
  (GoE.start.lM (G3 B rf)
  ⟨⟨trivial,Qbg (rf) (by omega) (by omega) ‹_›⟩,trivial⟩)).cast (by(rw[O7 WG];done))
theorem OM(rf:Qc)(WG:Zo rf=true)(hm:(rf.Qa.length:Int)*rf.Qb<=6):Qv YP J0 38 #[.agg (Q1 rf).toArray] (.tuple #[X7 (UA rf (Xg rf)),.bool (Xg rf).1]):=
 Xd (ts:=[.agg (Q1 rf).toArray]) Zc (c0:=Qu YP 38 50 (([.agg (Q1 rf).toArray]).map (Q4 0 4))) (by kernel_rfl) (by kernel_rfl) fun B hJ=>Nm rf WG hm hJ
theorem QbW(xs ys:List Int)(h:ys=xs):Qv YP J0 39 #[X7 xs,X7 ys] (.bool true):=by
 subst h;exact Qav ys
def JM(rf:Qc):Array Value:=#[.agg #[Xp rf.Qa,YI rf.Qh,YI rf.Qb]]
def gy(B:Lo)(rf:Qc):List Prop:=[Qz []/\Qv YP J0 15 (JM rf) (.bool true)]++([]:List Prop)
def pF(rf:Qc):QA:=[(3,Qf.pure (.bool true) [])]
def gx(B:Lo)(rf:Qc):List Prop:=[wq ((↑rf.Qa.length:Int)*rf.Qb)=(↑rf.Qa.length:Int)*rf.Qb,Qz []/\Qv YP J0 20 (JM rf) (.bool true)]++gy B rf
def pE(rf:Qc):QA:=pF rf++[(7,Qf.pure (.bool true) []),(14,Zu ((↑rf.Qa.length:Int)*rf.Qb))]
theorem BH(B:Lo)(rf:Qc):Xv (Qn YP (Q0 YP) J0 B 10 1 (Qu YP 10 86 (([.agg (Q1 rf).toArray]).map (Q4 0 4))) Zd 1
 (pE rf++[(15,Wj),(18,Qf.pure (.bool true) [])]) 0 [] []) []=some (.bool true,
 [Qz []/\Qv YP J0 16 #[] (.bool true),XB 6 ((↑rf.Qa.length:Int)*rf.Qb)=true]++gx B rf):=by kernel_rfl
def gv(B:Lo)(rf:Qc):List Prop:=[XB 6 ((↑rf.Qa.length:Int)*rf.Qb)=false]++gx B rf
def pD(rf:Qc):QA:=pE rf++[(15,WC)]
def gu(B:Lo)(rf:Qc):List Prop:=let d:=JM rf;let b:=QR rf (Prod.snd (Xg rf));let a:=UA rf (Xg rf);let e:=Qe Qy a;let c:=Ld a;[Qz []/\Qv YP J0 40 #[.agg #[Xp rf.Qa,YI rf.Qh,YI rf.Qb],Xo c e] (YI (Xk rf a)),Qz []/\Qv YP J0 39 #[X7 b,Xo c e] (.bool true),Qz []/\Qv YP J0 38 d (.tuple #[Xo c e,.bool true]),Qz []/\Qv YP J0 20 d (.bool true),Qz []/\Qv YP J0 37 d (.tuple #[X7 b,YI (Xk rf b),YI 0])]++gv B rf
def pC(rf:Qc):QA:=let b:=UA rf (Xg rf);let a:=QR rf (Prod.snd (Xg rf));pD rf++[(19,Qf.pure (.tuple #[X7 a,YI (Xk rf a),YI 0]) []),(28,Qf.pure (.bool true) []),(31,Qf.pure (.tuple #[X7 b,.bool true]) []),(44,Qf.pure (.bool true) []),(50,Qf.pure (YI (Xk rf b)) [])]
theorem BG(B:Lo)(rf:Qc):Xv (Qn YP (Q0 YP) J0 B 25 1 (Qu YP 10 86 (([.agg (Q1 rf).toArray]).map (Q4 0 4))) Zd 1
 (pC rf++[(51,Wj),(54,Qf.pure (.bool true) [])]) 0 [] []) []=some (.bool true,
 [Qz []/\Qv YP J0 16 #[] (.bool true),TO (Xk rf (QR rf (Prod.snd (Xg rf)))) (Xk rf (UA rf (Xg rf)))=true]++gu B rf):=by kernel_rfl
theorem BF(B:Lo)(rf:Qc):Xv (Qn YP (Q0 YP) J0 B 25 1 (Qu YP 10 86 (([.agg (Q1 rf).toArray]).map (Q4 0 4))) Zd 1
 (pC rf++[(51,WC)]) 0 [] []) []=some (.bool false,
 [TO (Xk rf (QR rf (Prod.snd (Xg rf)))) (Xk rf (UA rf (Xg rf)))=false]++gu B rf):=by kernel_rfl
theorem BE(B:Lo)(rf:Qc):let d:=JM rf;let c:=Value.bool true;let b:=Value.tuple #[Xo 0 #[],YI 0,YI 5];let a:=Value.tuple #[Xo (Ld (UA rf (Xg rf))) (Qe Qy (UA rf (Xg rf))),.bool false];Xv (Qn YP (Q0 YP) J0 B 24 1 (Qu YP 10 86 (([.agg (Q1 rf).toArray]).map (Q4 0 4))) Zd 1
 (pD rf++[(19,Qf.pure b []),(28,Qf.pure c []),(31,Qf.pure a []),(51,Qf.pure c [])]) 0 [] []) []=some (.bool true,
 [Qz []/\Qv YP J0 16 #[] c,Qz []/\Qv YP J0 38 d a,Qz []/\Qv YP J0 20 d c,Qz []/\Qv YP J0 37 d b]++gv B rf):=by intro d c b a;kernel_rfl
theorem BD(B:Lo)(rf:Qc):let c:=JM rf;let b:=Value.bool false;let a:=Value.tuple #[Xo 0 #[],YI 0,YI 2];Xv (Qn YP (Q0 YP) J0 B 17 1 (Qu YP 10 86 (([.agg (Q1 rf).toArray]).map (Q4 0 4))) Zd 1
 (pF rf++[(7,Qf.pure b []),(19,Qf.pure a []),(28,Qf.pure b []),(42,Qf.pure (.bool true) [])]) 0 [] []) []=some (.bool true,
 [Qz []/\Qv YP J0 16 #[] (.bool true),Qz []/\Qv YP J0 20 c b,Qz []/\Qv YP J0 37 c a,Qz []/\Qv YP J0 20 c b]++gy B rf):=by intro c b a;kernel_rfl
theorem BC(B:Lo)(rf:Qc):Xv (Qn YP (Q0 YP) J0 B 10 1 (Qu YP 10 86 (([.agg (Q1 rf).toArray]).map (Q4 0 4))) Zd 1
 [(3,Qf.pure (.bool false) []),(18,Qf.pure (.bool true) [])] 0 [] []) []=some (.bool true,
 [Qz []/\Qv YP J0 16 #[] (.bool true),Qz []/\Qv YP J0 15 (JM rf) (.bool false)]):=by kernel_rfl
set_option maxHeartbeats 4000000 in
theorem E4(rf:Qc)  {B:Lo}(hJ:∀w,B.has w->J0 w):EndsT YP B (Qu YP 10 86 (([.agg (Q1 rf).toArray]).map (Q4 0 4))) (.bool true):=by
 cases q0:decide (Ld rf.Qa<=8)with
 |true=>
  have VO:Qz (gy B rf):=by
   exact⟨⟨trivial,(by have t_:=Il (rf);rw[q0]at t_;exact t_)⟩,trivial⟩
  cases q1:Zo rf with
  |true=>
   have hp1:Qz (gx B rf):=by
    have Rl:=Ys ‹Zo rf=true›;have Zi:=Q2 (Zm ‹Zo rf=true›).1;have hml:=Int.mul_le_mul (show(rf.Qa.length:Int)<=4 by omega) (show rf.Qb<=4 by omega) (by omega) (by omega);have hmn:0<=(rf.Qa.length:Int)*rf.Qb:=Int.mul_nonneg (by omega) (by omega);have hpp:=Zh (rf:=rf) (n:=(Xg rf).2) (by omega);exact⟨wI,⟨⟨trivial,(by have t_:=uZ (rf);rw[q1]at t_;exact t_)⟩,VO⟩⟩
   by_cases q2:(6:Int)<((↑rf.Qa.length:Int)*rf.Qb)
   ·exact(GoE.eT GoE.start (BH B rf)
     ⟨⟨trivial,known⟩,⟨(Xs q2),hp1⟩⟩).cast rfl
   ·have YF:Qz (gv B rf):=by
     exact⟨(nL q2),hp1⟩
    cases q3:Prod.fst (Xg rf)with
    |true=>
     have hp3:Qz (gu B rf):=by
      have Rl:=Ys ‹Zo rf=true›;have Zi:=Q2 (Zm ‹Zo rf=true›).1;have hml:=Int.mul_le_mul (show(rf.Qa.length:Int)<=4 by omega) (show rf.Qb<=4 by omega) (by omega) (by omega);have hmn:0<=(rf.Qa.length:Int)*rf.Qb:=Int.mul_nonneg (by omega) (by omega);have hpp:=Zh (rf:=rf) (n:=(Xg rf).2) (by omega);have hbp:UA rf (Xg rf)=QR rf (Xg rf).2:=(by unfold UA;rw[if_pos ‹(Xg rf).1=true›])
      have hpb:XJ rf (UA rf (Xg rf))=true:=(by rw[hbp];exact hpp)
      exact⟨⟨trivial,G0 (rf) (UA rf (Xg rf)) ‹_› ‹_›⟩,⟨⟨trivial,QbW (QR rf (Prod.snd (Xg rf))) (UA rf (Xg rf)) ‹_›⟩,⟨⟨trivial,(by have t_:=OM (rf) ‹_› (by omega);rw[q3]at t_;exact t_)⟩,⟨⟨trivial,(by have t_:=uZ (rf);rw[q1]at t_;exact t_)⟩,⟨⟨trivial,(by have t_:=HV (rf);rw[q1,q3]at t_;exact t_)⟩,YF⟩⟩⟩⟩⟩
     by_cases q4:(Xk rf (QR rf (Prod.snd (Xg rf))):Int)=(Xk rf (UA rf (Xg rf)))
     ·exact(GoE.eT GoE.start (BG B rf)
       ⟨⟨trivial,known⟩,⟨(TI q4),hp3⟩⟩).cast rfl
     ·have Rl:=Ys ‹Zo rf=true›;have Zi:=Q2 (Zm ‹Zo rf=true›).1;have hml:=Int.mul_le_mul (show(rf.Qa.length:Int)<=4 by omega) (show rf.Qb<=4 by omega) (by omega) (by omega);have hmn:0<=(rf.Qa.length:Int)*rf.Qb:=Int.mul_nonneg (by omega) (by omega);have hpp:=Zh (rf:=rf) (n:=(Xg rf).2) (by omega);have hbp:UA rf (Xg rf)=QR rf (Xg rf).2:=(by unfold UA;rw[if_pos ‹(Xg rf).1=true›])
      have hpb:XJ rf (UA rf (Xg rf))=true:=(by rw[hbp];exact hpp)
      exact(GoE.eT GoE.start (BF B rf)
       ⟨(TJ q4),hp3⟩).cast (by(exfalso;simp_all;done))
    |false=>
     have Rl:=Ys ‹Zo rf=true›;have Zi:=Q2 (Zm ‹Zo rf=true›).1;have hml:=Int.mul_le_mul (show(rf.Qa.length:Int)<=4 by omega) (show rf.Qb<=4 by omega) (by omega) (by omega);have hmn:0<=(rf.Qa.length:Int)*rf.Qb:=Int.mul_nonneg (by omega) (by omega);have hpp:=Zh (rf:=rf) (n:=(Xg rf).2) (by omega);exact(GoE.eT GoE.start (BE B rf)
      ⟨⟨trivial,known⟩,⟨⟨trivial,(by have t_:=OM (rf) ‹_› (by omega);rw[q3]at t_;exact t_)⟩,⟨⟨trivial,(by have t_:=uZ (rf);rw[q1]at t_;exact t_)⟩,⟨⟨trivial,(by have t_:=HV (rf);rw[q1,q3]at t_;exact t_)⟩,YF⟩⟩⟩⟩).cast rfl
  |false=>
   exact(GoE.eT GoE.start (BD B rf)
    ⟨⟨trivial,known⟩,⟨⟨trivial,(by have t_:=uZ (rf);rw[q1]at t_;exact t_)⟩,⟨⟨trivial,(by have t_:=HV (rf);rw[q1]at t_;exact t_)⟩,⟨⟨trivial,(by have t_:=uZ (rf);rw[q1]at t_;exact t_)⟩,VO⟩⟩⟩⟩).cast rfl
 |false=>
  exact(GoE.eT GoE.start (BC B rf)
   ⟨⟨trivial,known⟩,⟨⟨trivial,(by have t_:=Il (rf);rw[q0]at t_;exact t_)⟩,trivial⟩⟩).cast rfl
theorem Qaj(rf:Qc)  :Qv YP J0 10 #[.agg (Q1 rf).toArray] (.bool true):=
 Xd (ts:=[.agg (Q1 rf).toArray]) Zc (c0:=Qu YP 10 86 (([.agg (Q1 rf).toArray]).map (Q4 0 4))) (by kernel_rfl) (by kernel_rfl) fun B hJ=>E4 rf  hJ
end
end Go.Proofs.Ytncjjangllkokaa

namespace Go.Proofs.Ytncjjangllkokaa
open Go Go.CE Go.RowKit
theorem Eu:∀trs,tZ [kR] trs->Qv YP J0 10 trs.toArray (.bool true):=by
 rintro trs ⟨t0,_,rfl,h0,rfl⟩;obtain⟨r,rfl⟩:=Mo h0;exact Qaj r
end Go.Proofs.Ytncjjangllkokaa

namespace Go.Proofs.Ytncjjangllkokaa
open Go Go.CE Go.ChangeShapes Go.WideShapes Go.RowKit
set_option maxRecDepth 100000 in
theorem gG(os:Os)(started:os.Started)(H:Type)(enc:TypeId×Value->H):
 ReturnsInHanded {} Try.checked os 10 .any (Rows.reefBestsSpec.pre6 enc YP Try.f10 Rows.reefBestsRow.domain false) (Rows.reefBestsSpec.post enc YP Try.f10 false true false false):=by
 refine returnsInHanded_of_change (C:=Try.checked) (show ownKnob YP.godebug=none by kernel_rfl) started (by kernel_rfl) Try.func10
  (ChangeSpec.witness6 (enc:=enc) (C:=Try.checked) false ⟨#[],#[Sh.zeroA kR],[]⟩ 8 (by kernel_rfl) (by kernel_rfl) (by kernel_rfl) (by kernel_rfl)) ?_
 intro W base args ds gs before hval0 hW _ _;have hval:∀(j:Nat) t v,Try.f10.params[j]? =some t->args[j]? =some v->Value.okWide YP W .any base t v:=hval0;have hW':=hW;obtain⟨p,q,hA0,hV,rfl,_,_⟩:=hW;obtain⟨rfl,rfl⟩:=trodVars_none hV;have hA1:DataW.TrodAll enc YP W 0 (fun _=>true) true Try.f10.params.toList args.toList ds p:=hA0;have Xi:∀x∈p,x.block<W.heap.size:=fun x hx=>hW'.lt x (by simpa using hx)
 have R9:da YP [kR] Try.f10.params.toList=true:=by kernel_rfl
 have hrd:(Try.f10.params.toList.all fun t=>YP.readableRec t && decide (t<YP.types.size))=true:=by kernel_rfl
 refine(I4 (J:=J0) (ss:=[kR]) trivial R9 hA1 (fun j t v h1 h2=>hval j t v (by simpa using h1) h2) Eu).mono fun e W' ⟨he,hB⟩=> ?_
 subst he;have hB2:=cw (show laidOutB YP=true by kernel_rfl) hB _ _ _ _ hrd hA1 Xi;have hA:DataW.TrodAll enc YP W 0 (fun _=>true) true Try.f10.params.toList args.toList ds p:=hA1;rw[Try.params10]at hA;simp only[List.toList_toArray]at hA;have hA:=hA;obtain⟨v0,vs0,d0,ds0,p0,q0,_,rfl,_,h0,_⟩:=CE.trodAll_cons hA;obtain⟨_,rfl,_⟩:=CE.trodAll_nil h0;exact⟨_,rfl,_,_,_,[],_,[],hW',trodAll_mk1 (shut_bool Try.underlying4 _),hB2,rfl,hB.frame _,fun h=>by cases h⟩
theorem reefBests_row:Rows.ReefBestsSaid:=
 OpenClaim.holds_of_wide 10 Try.f10 rfl rfl rfl rfl rfl rfl rfl ⟨rfl,rfl,rfl,rfl,rfl⟩ rfl rfl rfl rfl rfl (by kernel_rfl) Try.func10 (by kernel_rfl)
  (of_decide_eq_true (by kernel_rfl)) (by unfold Func.isWrapper;first|(rw[if_pos (by decide+kernel)];kernel_rfl)|(rw[if_neg (by decide+kernel)];exact⟨rfl,rfl⟩))
  (fun os started H enc _=>gG os started H enc)
end Go.Proofs.Ytncjjangllkokaa
