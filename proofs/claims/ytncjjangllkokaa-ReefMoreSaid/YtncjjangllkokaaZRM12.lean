/- Reef: counts, growth, and how spans are made. -/
import Derived.Test.YtncjjangllkokaaZRM11
set_option linter.all false
open Int renaming tdiv_eq_ediv_of_nonneg->LM,toNat->Lb,tdiv->Le,mul_le_mul_of_nonneg_left->LU,le_refl->LL
open List renaming set->Lw,replicate->Li,range->Lv,length->Lc,length_set->Lf,length_replicate->Lh,getElem?_map->Lx,getD_eq_getElem?_getD->Ll,getElem?_eq_none->Lu,getElem?_eq_getElem->LP
open Array renaming size->LR
open Nat renaming strongRecOn->LK,lt_of_lt_of_eq->LN
open Inhabited renaming default->La
namespace Go.Proofs.Ytncjjangllkokaa
open Go Go.CE Go.RowKit
noncomputable section
set_option maxRecDepth 100000
def DK(miss n:Int):Int:=n+(n*miss).tdiv 1000
def jL(room f g:Int):Int:=if room<=f then 0 else if(f*g).tdiv 1000<room-f then(f*g).tdiv 1000 else room-f
theorem cr{a r:Int}(ha:0<=a/\a<=1000000000000)(hr:0<=r/\r<=2000):0<=a*r/\a*r<=2000000000000000/\0<=(a*r).tdiv 1000/\(a*r).tdiv 1000<=2000000000000:=by
 have e0:0<=a*r:=Int.mul_nonneg ha.1 hr.1;have e1:a*r<=1000000000000*2000:=Int.mul_le_mul ha.2 hr.2 hr.1 (by omega);have e2:(a*r).tdiv 1000=(a*r) / 1000:=LM e0;omega
def XB(x:Qe):Span:=⟨x.glo,x.ghi⟩
def Wm(x:Qe):Span:=⟨x.olo,x.ohi⟩
def Xw(miss:Int)(x:Qe):Span:=⟨x.count,DK miss x.count⟩
def Si(x_:Qe):Array Value:=#[.int .i64 x_.count,.int .i64 x_.room,.int .i64 x_.glo,.int .i64 x_.ghi,.int .i64 x_.drift,.int .i64 x_.into,.int .i64 x_.olo,.int .i64 x_.ohi,.int .i64 x_.slo,.int .i64 x_.shi,.int .i64 x_.goal,.int .i64 x_.worth]
def V8(xs:List Qe)(i:Int):=(xs.getD i.toNat La)
def Sg(xs:List Qe)(i:Int):Value:=(.agg #[.int .i64 (Qe.glo (V8 xs i)),.int .i64 (Qe.ghi (V8 xs i))])
def Sf(xs:List Qe)(i:Int)(ys:List Span):Array Value:=(Qj QN (Lw ys i.toNat {lo:=Qe.glo (V8 xs i),hi:=Qe.ghi (V8 xs i)}))
def lX(xs:List Qe):Array Value:=(Qj (VD [.int .i64 0,.int .i64 0]) (Li xs.length ()))
def Jg(xs:List Qe)(i:Int)(ys:List Span):List Value:=[Value.func (Fn.func 104) #[] #[],.slice (some {block:=2,off:=0}) xs.length 2,QF 1 (Xq xs.length (Qj Qf xs)),.int .i64 (↑xs.length:Int),.int .i64 i]
def Uo(xs:List Qe)(i:Int)(ys:List Span):List Obj:=[.cells (Qj QN ys) 38 (0,0)]
def Jh:List Item:=([.code [1,1,0,1,0,0],.inLoop [1,1,0,1,0,0],.inBlock 0,.code [1,1,1]]).map (it (Xt YP 102))
def yN(B:Lo)(c0:CF)(xs:List Qe)(i:Int)(ys:List Span):Prop:=∃dJ:Nat->Value,(∀t,Zf (dJ t))/\GoE YP B c0 ZH 1 (QJ 102 26 (([1,5,11,12,13]:List Nat).zip (Jg xs i ys)) dJ Jh) (QI (Uo xs i ys)) (2+(Uo xs i ys).length) []
def Ji(xs:List Qe)(i:Int)(ys:List Span)(Qr:Nat->Value):Q0:=[(3,Obj.cells (Si (xs.getD i.toNat La)) 54),(0,Obj.coro none),(1,Obj.coro none),(2,Obj.cells (Qj QN ys) 38)]
def Sj(xs:List Qe)(i:Int)(ys:List Span)(Qr:Nat->Value):CF:=⟨104,ofList 5 [.agg (Si (xs.getD i.toNat La))],[Item.code (Xt YP 104)],[],.run,none⟩
theorem yL(B:Lo)(xs:List Qe)(i:Int)(ys:List Span)(Qr:Nat->Value):CE.finK 4 (Q2 YP (QB YP) J0 B 6 4 (Sj xs i ys Qr) (Ji xs i ys Qr) 4
 [] 0 [] []) [] [] []=some (OO.ret (Sg xs i),[],[],
 []):=by kernel_rfl
theorem yK(B:Lo)(xs:List Qe)(i:Int)(ys:List Span)(Qr:Nat->Value):landM (Q2 YP (QB YP) J0 B 13 1 (QJ 102 26 (([1,5,11,12,13]:List Nat).zip (Jg xs i ys)) Qr Jh) (QI (Uo xs i ys)) (2+(Uo xs i ys).length)
 [(0,V4),(2,Qu.tidx i.toNat (Si (V8 xs i))),(11,Qu.call (Lv 4) (OO.ret (Sg xs i)) ([]++(4,XM)::XJ 5 []) 5 []),(12,Qu.WE (Hint.idx i.toNat)),(13,Qu.WE (Hint.st (Sf xs i ys))),(14,UW (i+1))] 0 [] []) [1,5,11,12,13] [(2,KS.cells [] (Sf xs i ys))] []=some ⟨102,26,Jh,[],.run,none,Jg xs (i+1) (Lw ys i.toNat {lo:=Qe.glo (V8 xs i),hi:=Qe.ghi (V8 xs i)}),Uo xs (i+1) (Lw ys i.toNat {lo:=Qe.glo (V8 xs i),hi:=Qe.ghi (V8 xs i)}),
 [ZG 1 [] (Sf xs i ys) (Sf xs i ys),wq (i+1)=i+1,0+Lb i*2+TypeInfo.size Try.t38<=LR (Qj QN ys)/\splice (Qj QN ys) (0+Lb i*2) (Value.cells (Zc {len:=16000,tr:=Tri.set 14 (Tri.set 14 Tri.lf 22 (Sg xs i)) 23 (.pointer (some {block:=2,off:=0+Lb i*2}))} 22))=Qj QN (Lw ys i.toNat {lo:=Qe.glo (xs.getD i.toNat La),hi:=Qe.ghi (xs.getD i.toNat La)}),i=(↑i.toNat:Int)/\Lb i<Lc xs,FJ YP B (Sj xs i ys Qr) (Ji xs i ys Qr) 4 (OO.ret (Sg xs i)) (([]++((4,XM)::XJ (4+1) []))++Ji xs i ys Qr) 5 (Lv 4) [],Vj i xs.length (Qj Qf xs) Try.t54.size (Si (xs.getD i.toNat La)),Z7 i (↑xs.length:Int)=true]⟩:=by kernel_rfl
theorem yJ(B:Lo)(xs:List Qe)(i:Int)(ys:List Span)(Qr:Nat->Value):QS (Q2 YP (QB YP) J0 B 9 1 (QJ 102 26 (([1,5,11,12,13]:List Nat).zip (Jg xs i ys)) Qr Jh) (QI (Uo xs i ys)) (2+(Uo xs i ys).length)
 [(0,V5)] 0 [] []) [{k:=2,rs:=[],cs:=Qj QN ys}]=some (Xq xs.length (Fz.cs {k:=2,rs:=[],cs:=Qj QN ys}),
 [QC (Fz.rs {k:=2,rs:=[],cs:=Qj QN ys}) (Qj QN ys) (Fz.cs {k:=2,rs:=[],cs:=Qj QN ys}),Z7 i (↑xs.length:Int)=false]):=by kernel_rfl
theorem yI(B:Lo)(xs:List Qe):landM (Q2 YP (QB YP) J0 B 9 1 (Q9 YP 102 26 (([Pg xs,.func (.func 104) #[] #[]]).map (QG 0 4))) ZH 1
 [(3,Qu.WE (Hint.mk xs.length (lX xs)))] 0 [] []) [1,5,11,12,13] [(1,KS.rows [] [] [] (Qj QN (Li xs.length {lo:=0,hi:=0})))] []=some ⟨102,26,Jh,[],.run,none,Jg xs (0) (Li xs.length {lo:=0,hi:=0}),Uo xs (0) (Li xs.length {lo:=0,hi:=0}),
 [ZO 1 [] [] [] (lX xs) (Qj QN (Li xs.length {lo:=0,hi:=0})),Jx YP 36 (Zc {len:=16000,tr:=Tri.set 14 Tri.lf 9 (.int .i64 (↑xs.length:Int))} 9) (Zc {len:=16000,tr:=Tri.set 14 Tri.lf 9 (.int .i64 (↑xs.length:Int))} 9)=some (38,Qj (VD [.int .i64 0,.int .i64 0]) (Li xs.length ()),Lc xs,TypeInfo.size Try.t38)]⟩:=by kernel_rfl
set_option maxHeartbeats 4000000 in
theorem yM(xs:List Qe)(hn:xs.length<=1000000){B:Lo}(hJ:∀w,B.has w->J0 w){c0:CF}:∀m:Nat,(∀(i:Int) (ys:List Span),(xs.length-i.toNat)=m->∀(h0:0<=i) (hy:ys=Yx XB ⟨0,0⟩ xs i),yN B c0 xs i ys->EndsT YP B c0 (Y3 (xs.map XB))):=by
 intro m0;induction m0 using LK with
 |_ m0 ih0=>
  intro i ys hm0 h0 hy ⟨Qr,Jn,X7⟩;have hyl:ys.length=xs.length:=by rw[hy];exact Js
  by_cases q0:(i:Int)<((↑xs.length:Int))
  ·have rj0:FJ YP B (Sj xs i ys Qr) (Ji xs i ys Qr) 4 (OO.ret (.agg #[.int .i64 (Qe.glo (xs.getD i.toNat La)),.int .i64 (Qe.ghi (xs.getD i.toNat La))])) (([]++((4,XM)::XJ (4+1) []))++Ji xs i ys Qr) 5 (Lv 4) []:=by
    exact FinK.fjB (GoE.finK okF hJ Qi (Xd (by kernel_rfl)) (QX (by kernel_rfl)) ((GoE.refl (P:=YP) (B:=B) (c0:=Sj xs i ys Qr) (Xd (by kernel_rfl))).widen (Wf:=((([]):List (Nat×KS)).map (·.1))) (by simp) (QX (by kernel_rfl))) (yL B xs i ys Qr)
     trivial) (ex:=[2]) (by kernel_rfl) ⟨trivial,⟨trivial,⟨trivial,⟨(Yc (t:=38) (fl:=(0,0)) (fun x=>List.all_eq_true.1 (by rfl))),trivial⟩⟩⟩⟩
   exact((ih0 _ (by omega)) (i+1) (Lw ys i.toNat {lo:=Qe.glo (xs.getD i.toNat La),hi:=Qe.ghi (xs.getD i.toNat La)}) rfl (by omega) (by(subst hy;exact Jr (f:=XB) h0 q0))
    (X7.landM okF hJ Qi (yK B xs i ys Qr)
    (by exact⟨(Xk (Xr (fun x=>List.all_eq_true.1 (by rfl)))),⟨(XX (by omega) (by omega)),⟨(by exact KM (z:=2) (k:=Lb i) (fun _=>rfl) (by first|omega|(rw[Lf];omega)|(rw[Lh];omega)) rfl rfl),⟨⟨by omega,by omega⟩,⟨rj0,⟨⟨by omega,by omega,(QW (z:=12) (fun _=>rfl) (by omega))⟩,⟨(Z3 q0),trivial⟩⟩⟩⟩⟩⟩⟩) (by kernel_rfl) (by kernel_rfl))).cast (by rfl)
  ·exact(GoE.endsT okF hJ Qi X7 (yJ B xs i ys Qr)
    ⟨(Qv (fun x=>List.all_eq_true.1 (by rfl))),⟨(Z4 (Int.not_lt.1 q0)),trivial⟩⟩).cast (by exact Tx (hy.trans (Jt (by omega))) (by simp))
set_option maxHeartbeats 4000000 in
theorem Bh(xs:List Qe)(hn:xs.length<=1000000){B:Lo}(hJ:∀w,B.has w->J0 w):EndsT YP B (Q9 YP 102 26 (([Pg xs,.func (.func 104) #[] #[]]).map (QG 0 4))) (Y3 (xs.map XB)):=by
 exact((yM xs hn hJ _) (0) (Li xs.length {lo:=0,hi:=0}) rfl (by omega) (by exact a9)
  (GoE.start.landM okF hJ Qi (yI B xs)
  (by exact⟨(by exact(V0 (by exact⟨(.simple rfl),⟨(.simple rfl),trivial⟩⟩) _)),⟨(cE (bytes:=16) (by kernel_rfl) (by omega) (by omega) (by omega)),trivial⟩⟩) (by kernel_rfl) (by kernel_rfl))).cast (by rfl)
theorem Ey(xs:List Qe)(hn:xs.length<=1000000):Qz YP J0 102 #[Pg xs,.func (.func 104) #[] #[]] (Y3 (xs.map XB)):=
 X8 (ts:=[Pg xs,.func (.func 104) #[] #[]]) ZC (c0:=Q9 YP 102 26 (([Pg xs,.func (.func 104) #[] #[]]).map (QG 0 4))) (by kernel_rfl) (by kernel_rfl) fun B hJ=>Bh xs hn hJ
def RX(rf:Qk):=(List.map XB rf.Qb)
def lR(rf:Qk):Value:=(Xq (Lc (RX rf)) (Qj QN (RX rf)))
theorem yx(B:Lo)(rf:Qk)(Qa:List Int):QS (Q2 YP (QB YP) J0 B 6 1 (Q9 YP 83 7 (([.agg (QY rf Qa).toArray]).map (QG 0 4))) ZH 1
 [(5,Qu.pure (lR rf) [])] 0 [] []) []=some (Xq (Lc (RX rf)) (Qj QN (RX rf)),
 [Q3 []/\Qz YP J0 102 #[Xq rf.Qb.length (Qj Qf rf.Qb),Value.func (Fn.func 104) #[] #[]] (lR rf)]):=by kernel_rfl
set_option maxHeartbeats 4000000 in
theorem AT(rf:Qk)(Qa:List Int)(hn:rf.Qb.length<=1000000){B:Lo}(hJ:∀w,B.has w->J0 w):EndsT YP B (Q9 YP 83 7 (([.agg (QY rf Qa).toArray]).map (QG 0 4))) (Y3 (rf.Qb.map XB)):=by
 exact(GoE.endsT okF hJ Qi GoE.start (yx B rf Qa)
  ⟨⟨trivial,Ey rf.Qb (by with_reducible assumption)⟩,trivial⟩).cast (by rfl)
theorem AU(rf:Qk)(Qa:List Int)(hn:rf.Qb.length<=1000000):Qz YP J0 83 #[.agg (QY rf Qa).toArray] (Y3 (rf.Qb.map XB)):=
 X8 (ts:=[.agg (QY rf Qa).toArray]) ZC (c0:=Q9 YP 83 7 (([.agg (QY rf Qa).toArray]).map (QG 0 4))) (by kernel_rfl) (by kernel_rfl) fun B hJ=>AT rf Qa hn hJ
def JH(x_:Qe):Array Value:=#[.int .i64 x_.count,.int .i64 x_.room,.int .i64 x_.glo,.int .i64 x_.ghi,.int .i64 x_.drift,.int .i64 x_.into,.int .i64 x_.olo,.int .i64 x_.ohi,.int .i64 x_.slo,.int .i64 x_.shi,.int .i64 x_.goal,.int .i64 x_.worth]
def Ud(rf:Qk)(i:Int):=(rf.Qb.getD i.toNat La)
def ZF(rf:Qk)(i:Int):=(Ud rf i)
def gL(rf:Qk)(i:Int):Value:=(.agg #[.int .i64 (Qe.count (Ud rf i)),.int .i64 (Qe.count (Ud rf i)+Le (Qe.count (Ud rf i)*rf.miss) 1000)])
def UG(rf:Qk)(i:Int):=(Qe.count (ZF rf i)*rf.miss)
def gK(rf:Qk)(i:Int)(ys:List Span):Array Value:=(Qj QN (Lw ys i.toNat {lo:=Qe.count (Ud rf i),hi:=Qe.count (Ud rf i)+Le (Qe.count (Ud rf i)*rf.miss) 1000}))
def JG(rf:Qk):=(List.map (Xw rf.miss) rf.Qb)
def gJ(rf:Qk):Value:=(QF 2 (Xq (Lc (JG rf)) (Qj QN (JG rf))))
def gI(rf:Qk)(i:Int):Value:=(.agg #[.int .i64 (Qe.count (ZF rf i)),.int .i64 (Qe.count (ZF rf i)+Le (UG rf i) 1000)])
def gH(rf:Qk):Array Value:=(Qj (VD [.int .i64 0,.int .i64 0]) (Li rf.Qb.length ()))
def gG(rf:Qk)(i:Int)(ys:List Span):Array Value:=(Qj QN (Lw ys i.toNat {lo:=Qe.count (ZF rf i),hi:=Qe.count (ZF rf i)+Le (UG rf i) 1000}))
def cX(rf:Qk):Array Value:=(Qj QN (Li rf.Qb.length {lo:=0,hi:=0}))
def Wu(rf:Qk)(Qa:List Int):Q0:=[(1,Obj.cells #[QF 0 (Xq rf.Qb.length (Qj Qf rf.Qb)),.int .i64 rf.miss,.int .i64 rf.seasons,.int .i64 (Qa.getD 0 0),.int .i64 (Qa.getD 1 0),.int .i64 (Qa.getD 2 0),.int .i64 (Qa.getD 3 0)] 84),(0,Obj.coro none)]
def UH(rf:Qk)(Qa:List Int):CF:=⟨102,ofList 26 [QF 0 (Xq rf.Qb.length (Qj Qf rf.Qb)),Value.func (Fn.func 103) #[] #[pA 1 0]],[Item.code (Xt YP 102)],[],.run,none⟩
def VK(rf:Qk)(Qa:List Int)(i:Int)(ys:List Span):List Value:=[Value.func (Fn.func 103) #[] #[pA 1 0],.slice (some {block:=3,off:=0}) rf.Qb.length 2,QF 0 (Xq rf.Qb.length (Qj Qf rf.Qb)),.int .i64 (↑rf.Qb.length:Int),.int .i64 i]
def VJ(rf:Qk)(Qa:List Int)(i:Int)(ys:List Span):List Obj:=[]
def Wa(rf:Qk)(Qa:List Int)(i:Int)(ys:List Span):List Obj:=[.cells (Qj QN ys) 38 (0,0)]
def VL:List Item:=([.code [1,1,0,1,0,0],.inLoop [1,1,0,1,0,0],.inBlock 0,.code [1,1,1]]).map (it (Xt YP 102))
def KW(rf:Qk)(Qa:List Int)(i:Int)(ys:List Span)(Qr:Nat->Value):Q0:=[(4,Obj.cells (JH (rf.Qb.getD i.toNat La)) 54),(2,Obj.coro none),(3,Obj.cells (Qj QN ys) 38),(1,Obj.cells #[QF 0 (Xq rf.Qb.length (Qj Qf rf.Qb)),.int .i64 rf.miss,.int .i64 rf.seasons,.int .i64 (Qa.getD 0 0),.int .i64 (Qa.getD 1 0),.int .i64 (Qa.getD 2 0),.int .i64 (Qa.getD 3 0)] 84),(0,Obj.coro none)]
def JI(rf:Qk)(Qa:List Int)(i:Int)(ys:List Span)(Qr:Nat->Value):CF:=⟨103,ofList 13 [.agg (JH (rf.Qb.getD i.toNat La)),pA 1 0],[Item.code (Xt YP 103)],[],.run,none⟩
theorem sY(B:Lo)(rf:Qk)(Qa:List Int)(i:Int)(ys:List Span)(Qr:Nat->Value):CE.finK 5 (Q2 YP (QB YP) J0 B 6 5 (JI rf Qa i ys Qr) (KW rf Qa i ys Qr) 5
 [(9,Qu.pure (.int .i64 (Qe.count (ZF rf i)+Le (UG rf i) 1000)) [])] 0 [] []) [] [] []=some (OO.ret (gI rf i),[],[],
 [Q3 []/\Qz YP J0 100 #[.int .i64 (Qe.count (rf.Qb.getD i.toNat La)),.int .i64 rf.miss] (.int .i64 (Qe.count (rf.Qb.getD i.toNat La)+Le (Qe.count (rf.Qb.getD i.toNat La)*rf.miss) 1000))]):=by kernel_rfl
theorem sX(B:Lo)(rf:Qk)(Qa:List Int)(i:Int)(ys:List Span)(Qr:Nat->Value):CE.landA 2 (Q2 YP (QB YP) J0 B 13 2 (VO (none) 102 26 (([1,5,11,12,13]:List Nat).zip (VK rf Qa i ys)) Qr VL) (Wt (Wu rf Qa) 2 (([]:List Nat).zip (VJ rf Qa i ys)) (Wa rf Qa i ys)) (2+1+(Wa rf Qa i ys).length)
 [(0,V4),(2,Qu.tidx i.toNat (JH (ZF rf i))),(11,Qu.call (Lv 5) (OO.ret (gI rf i)) ([]++(5,XM)::XJ 6 []) 6 []),(12,Qu.WE (Hint.idx i.toNat)),(13,Qu.WE (Hint.st (gG rf i ys))),(14,UW (i+1))] 0 [] []) [1,5,11,12,13] [] [(3,KS.cells [] (gG rf i ys))] []=some ⟨102,26,VL,[],.run,none,VK rf Qa (i+1) (Lw ys i.toNat {lo:=Qe.count (ZF rf i),hi:=Qe.count (ZF rf i)+Le (UG rf i) 1000}),([]:List Nat).zip (VJ rf Qa (i+1) (Lw ys i.toNat {lo:=Qe.count (ZF rf i),hi:=Qe.count (ZF rf i)+Le (UG rf i) 1000})),Wa rf Qa (i+1) (Lw ys i.toNat {lo:=Qe.count (ZF rf i),hi:=Qe.count (ZF rf i)+Le (UG rf i) 1000}),
 [ZG 2 [] (gK rf i ys) (gK rf i ys),wq (i+1)=i+1,0+Lb i*2+TypeInfo.size Try.t38<=LR (Qj QN ys)/\splice (Qj QN ys) (0+Lb i*2) (Value.cells (Zc {len:=16000,tr:=Tri.set 14 (Tri.set 14 Tri.lf 22 (gL rf i)) 23 (.pointer (some {block:=3,off:=0+Lb i*2}))} 22))=Qj QN (Lw ys i.toNat {lo:=Qe.count (rf.Qb.getD i.toNat La),hi:=Qe.count (rf.Qb.getD i.toNat La)+Le (Qe.count (rf.Qb.getD i.toNat La)*rf.miss) 1000}),i=(↑i.toNat:Int)/\Lb i<Lc rf.Qb,FJ YP B (JI rf Qa i ys Qr) (KW rf Qa i ys Qr) 5 (OO.ret (gL rf i)) (([]++((5,XM)::XJ (5+1) []))++KW rf Qa i ys Qr) 6 (Lv 5) [],Vj i rf.Qb.length (Qj Qf rf.Qb) Try.t54.size (JH (rf.Qb.getD i.toNat La)),Z7 i (↑rf.Qb.length:Int)=true]⟩:=by kernel_rfl
theorem sW(B:Lo)(rf:Qk)(Qa:List Int)(i:Int)(ys:List Span)(Qr:Nat->Value):CE.finK 2 (Q2 YP (QB YP) J0 B 9 2 (VO (none) 102 26 (([1,5,11,12,13]:List Nat).zip (VK rf Qa i ys)) Qr VL) (Wt (Wu rf Qa) 2 (([]:List Nat).zip (VJ rf Qa i ys)) (Wa rf Qa i ys)) (2+1+(Wa rf Qa i ys).length)
 [(0,V5)] 0 [] []) [] [] [{k:=3,rs:=[],cs:=Qj QN ys}]=some (OO.ret (QF 2 (Xq rf.Qb.length (Fz.cs {k:=3,rs:=[],cs:=Qj QN ys}))),[],[],
 [QC (Fz.rs {k:=3,rs:=[],cs:=Qj QN ys}) (Qj QN ys) (Fz.cs {k:=3,rs:=[],cs:=Qj QN ys}),Z7 i (↑rf.Qb.length:Int)=false]):=by kernel_rfl
set_option maxHeartbeats 4000000 in
theorem kD(rf:Qk)(Qa:List Int)(hn:rf.Qb.length<=1000000)(hm:0<=rf.miss/\rf.miss<=2000)(hc:∀k:Int,0<=k->k<rf.Qb.length->0<=(rf.Qb.getD k.toNat La).count/\(rf.Qb.getD k.toNat La).count<=1000000){B:Lo}(hJ:∀w,B.has w->J0 w):∀m:Nat,(∀(i:Int) (ys:List Span),(rf.Qb.length-i.toNat)=m->∀(h0:0<=i) (hy:ys=Yx (Xw rf.miss) ⟨0,0⟩ rf.Qb i),(∃Qr:Nat->Value,(∀t,Zf (Qr t))/\GoE YP B (UH rf Qa) (Wu rf Qa) 2 (VO (none) 102 26 (([1,5,11,12,13]:List Nat).zip (VK rf Qa i ys)) Qr VL) (Wt (Wu rf Qa) 2 (([]:List Nat).zip (VJ rf Qa i ys)) (Wa rf Qa i ys)) (2+1+(Wa rf Qa i ys).length) ([]:List Nat))->FinK YP B (UH rf Qa) (Wu rf Qa) 2 (.ret (QF 2 (Y3 (rf.Qb.map (Xw rf.miss))))) (([]:List Nat).zip ([])) ([]) ([]:List Nat)):=by
 intro m0;induction m0 using LK with
 |_ m0 ih0=>
  intro i ys hm0 h0 hy ⟨Qr,Jn,X7⟩;have hyl:ys.length=rf.Qb.length:=by rw[hy];exact Js
  by_cases q0:(i:Int)<((↑rf.Qb.length:Int))
  ·have rj1:FJ YP B (JI rf Qa i ys Qr) (KW rf Qa i ys Qr) 5 (OO.ret (.agg #[.int .i64 (Qe.count (rf.Qb.getD i.toNat La)),.int .i64 (Qe.count (rf.Qb.getD i.toNat La)+Le (Qe.count (rf.Qb.getD i.toNat La)*rf.miss) 1000)])) (([]++((5,XM)::XJ (5+1) []))++KW rf Qa i ys Qr) 6 (Lv 5) []:=by
    have hc1:=hc i h0 q0;exact FinK.fjB (GoE.finK okF hJ Qi (Xd (by kernel_rfl)) (QX (by kernel_rfl)) ((GoE.refl (P:=YP) (B:=B) (c0:=JI rf Qa i ys Qr) (Xd (by kernel_rfl))).widen (Wf:=((([]):List (Nat×KS)).map (·.1))) (by simp) (QX (by kernel_rfl))) (sY B rf Qa i ys Qr)
     ⟨⟨trivial,tc (Qe.count (rf.Qb.getD i.toNat La)) rf.miss (by omega) (by omega)⟩,trivial⟩) (ex:=[3]) (by kernel_rfl) ⟨trivial,⟨trivial,⟨(Yc (t:=38) (fl:=(0,0)) (fun x=>List.all_eq_true.1 (by rfl))),⟨trivial,⟨trivial,trivial⟩⟩⟩⟩⟩
   have hc1:=hc i h0 q0;exact((ih0 _ (by omega)) (i+1) (Lw ys i.toNat {lo:=Qe.count (rf.Qb.getD i.toNat La),hi:=Qe.count (rf.Qb.getD i.toNat La)+Le (Qe.count (rf.Qb.getD i.toNat La)*rf.miss) 1000}) rfl (by omega) (by(subst hy;exact Jr (f:=Xw rf.miss) h0 q0))
    (GoE.landA okF hJ Qi (Xd (by kernel_rfl)) (QX (by kernel_rfl)) X7 (sX B rf Qa i ys Qr)
    (by exact⟨(Xk (Xr (fun x=>List.all_eq_true.1 (by rfl)))),⟨(XX (by omega) (by omega)),⟨(by exact KM (z:=2) (k:=Lb i) (fun _=>rfl) (by first|omega|(rw[Lf];omega)|(rw[Lh];omega)) rfl rfl),⟨⟨by omega,by omega⟩,⟨rj1,⟨⟨by omega,by omega,(QW (z:=12) (fun _=>rfl) (by omega))⟩,⟨(Z3 q0),trivial⟩⟩⟩⟩⟩⟩⟩) (by kernel_rfl) (by kernel_rfl) (fun l hl=>by cases hl <;> decide))).cast (by rfl) (by rfl) (by rfl)
  ·exact(GoE.finK okF hJ Qi (Xd (by kernel_rfl)) (QX (by kernel_rfl)) X7 (sW B rf Qa i ys Qr)
    ⟨(Qv (fun x=>List.all_eq_true.1 (by rfl))),⟨(Z4 (Int.not_lt.1 q0)),trivial⟩⟩).cast (by exact congrArg (fun v=>OO.ret (QF _ v)) (Tx (hy.trans (Jt (by omega))) (by simp))) (by rfl) (by rfl)

theorem sZ(B:Lo)(rf:Qk)(Qa:List Int):CE.landA 2 (Q2 YP (QB YP) J0 B 9 2 (UH rf Qa) (Wu rf Qa) 2
 [(3,Qu.WE (Hint.mk rf.Qb.length (gH rf)))] 0 [] []) [1,5,11,12,13] [] [(2,KS.rows [] [] [] (cX rf))] []=some ⟨102,26,VL,[],.run,none,VK rf Qa (0) (Li rf.Qb.length {lo:=0,hi:=0}),([]:List Nat).zip (VJ rf Qa (0) (Li rf.Qb.length {lo:=0,hi:=0})),Wa rf Qa (0) (Li rf.Qb.length {lo:=0,hi:=0}),
 [ZO 2 [] [] [] (gH rf) (cX rf),Jx YP 36 (Zc {len:=16000,tr:=Tri.set 14 Tri.lf 9 (.int .i64 (↑rf.Qb.length:Int))} 9) (Zc {len:=16000,tr:=Tri.set 14 Tri.lf 9 (.int .i64 (↑rf.Qb.length:Int))} 9)=some (38,Qj (VD [.int .i64 0,.int .i64 0]) (Li rf.Qb.length ()),Lc rf.Qb,TypeInfo.size Try.t38)]⟩:=by kernel_rfl
theorem sV(B:Lo)(rf:Qk)(Qa:List Int):QS (Q2 YP (QB YP) J0 B 6 1 (Q9 YP 82 8 (([.agg (QY rf Qa).toArray]).map (QG 0 4))) ZH 1
 [(6,Qu.call (Lv 2) (OO.ret (gJ rf)) ([]++(2,XM)::XJ 3 []) 3 [])] 0 [] []) []=some (Xq (Lc (JG rf)) (Qj QN (JG rf)),
 [FJ YP B (UH rf Qa) (Wu rf Qa) 2 (OO.ret (gJ rf)) (([]++((2,XM)::XJ (2+1) []))++Wu rf Qa) 3 (Lv 2) []]):=by kernel_rfl
set_option maxHeartbeats 4000000 in
theorem yq(rf:Qk)(Qa:List Int)(hn:rf.Qb.length<=1000000)(hm:0<=rf.miss/\rf.miss<=2000)(hc:∀k:Int,0<=k->k<rf.Qb.length->0<=(rf.Qb.getD k.toNat La).count/\(rf.Qb.getD k.toNat La).count<=1000000){B:Lo}(hJ:∀w,B.has w->J0 w):EndsT YP B (Q9 YP 82 8 (([.agg (QY rf Qa).toArray]).map (QG 0 4))) (Y3 (rf.Qb.map (Xw rf.miss))):=by
 have rj0:FJ YP B (UH rf Qa) (Wu rf Qa) 2 (OO.ret (QF 2 (Xq (Lc (List.map (Xw rf.miss) rf.Qb)) (Qj QN (List.map (Xw rf.miss) rf.Qb))))) (([]++((2,XM)::XJ (2+1) []))++Wu rf Qa) 3 (Lv 2) []:=by
  exact FinK.fjB ((kD rf Qa hn hm hc hJ _) (0) (Li rf.Qb.length {lo:=0,hi:=0}) rfl (by omega) (by exact a9)
   (GoE.landA okF hJ Qi (Xd (by kernel_rfl)) (QX (by kernel_rfl)) ((GoE.refl (P:=YP) (B:=B) (c0:=UH rf Qa) (Xd (by kernel_rfl))).widen (Wf:=((([]):List (Nat×KS)).map (·.1))) (by simp) (QX (by kernel_rfl))) (sZ B rf Qa)
   ⟨(by exact(V0 (by exact⟨(.simple rfl),⟨(.simple rfl),trivial⟩⟩) _)),⟨(cE (bytes:=16) (by kernel_rfl) (by omega) (by omega) (by omega)),trivial⟩⟩ (by kernel_rfl) (by kernel_rfl) (fun l hl=>by cases hl <;> decide))) (ex:=[]) (by kernel_rfl) (PH _)
 exact(GoE.endsT okF hJ Qi GoE.start (sV B rf Qa)
  ⟨rj0,trivial⟩).cast (by rfl)
theorem vw(rf:Qk)(Qa:List Int)(hn:rf.Qb.length<=1000000)(hm:0<=rf.miss/\rf.miss<=2000)(hc:∀k:Int,0<=k->k<rf.Qb.length->0<=(rf.Qb.getD k.toNat La).count/\(rf.Qb.getD k.toNat La).count<=1000000):Qz YP J0 82 #[.agg (QY rf Qa).toArray] (Y3 (rf.Qb.map (Xw rf.miss))):=
 X8 (ts:=[.agg (QY rf Qa).toArray]) ZC (c0:=Q9 YP 82 8 (([.agg (QY rf Qa).toArray]).map (QG 0 4))) (by kernel_rfl) (by kernel_rfl) fun B hJ=>yq rf Qa hn hm hc hJ
end
end Go.Proofs.Ytncjjangllkokaa

namespace Go.Proofs.Ytncjjangllkokaa
open Go Go.CE Go.RowKit
noncomputable section
set_option maxRecDepth 100000
def KJ{β:Type}(n:Int)(f:Int->β):List β:=(fF 0 n).map f
theorem XR{β:Type}{n:Int}{f:Int->β}:(KJ n f).length=n.toNat:=by simp[KJ,fF]
theorem Kc{β:Type}{n:Int}{f:Int->β}{k:Nat}(h:k<n.toNat):(KJ n f)[k]? =some (f k):=by
 unfold KJ fF;rw[Lx,Lx,List.getElem?_range (by omega)];simp
theorem XU{β:Type}[Inhabited β]{n k:Int}{f:Int->β}(h0:0<=k)(h:k<n):(KJ n f).getD k.toNat La=f k:=by
 rw[Ll,Kc (by omega),show((k.toNat:Nat):Int)=k by omega];rfl
theorem VX{β:Type}{n:Int}{f g:Int->β}(h:∀k,0<=k->k<n->f k=g k):KJ n f=KJ n g:=by
 refine List.ext_getElem? fun k=> ?_
 by_cases hk:k<n.toNat
 ·rw[Kc hk,Kc hk,h k (by omega) (by omega)]
 ·rw[Lu (by rw[XR];omega),Lu (by rw[XR];omega)]
theorem fM{β:Type}{n i:Int}{f:Int->β}{v:β}(h0:0<=i)(h:i<n):(KJ n f).set i.toNat v=KJ n (fun k=>if k=i then v else f k):=by
 refine List.ext_getElem? fun k=> ?_
 by_cases hk:k<n.toNat
 ·rw[List.getElem?_set,XR,Kc hk,Kc hk];by_cases e:i.toNat=k
  ·rw[if_pos e,if_pos (by omega),if_pos (by omega)]
  ·rw[if_neg e,if_neg (by omega)]
 ·rw[Lu (by rw[Lf,XR];omega),Lu (by rw[XR];omega)]
theorem De{α β:Type}[Inhabited α]{xs:List α}{f:α->β}:xs.map f=KJ xs.length (fun k=>f (xs.getD k.toNat La)):=by
 refine List.ext_getElem? fun k=> ?_
 by_cases hk:k<xs.length
 ·rw[Kc (by omega),Lx,LP hk];simp[Ll,hk]
 ·rw[Lu (by simp;omega),Lu (by rw[XR];omega)]
def mG(x:Qe):Span:=⟨x.slo,x.shi⟩
def VE(p k:Int)(x:Qe):Span:=if hasB p k then mG x else Wm x
def X6(ps:List Qe)(p:Int):List Span:=KJ ps.length fun k=>VE p k (ps.getD k.toNat La)
def J6(ps:List Qe)(p i:Int):List Span:=KJ ps.length fun k=>if k<i then VE p k (ps.getD k.toNat La)else Wm (ps.getD k.toNat La)
theorem zU{ps:List Qe}{p:Int}:ps.map Wm=J6 ps p 0:=by
 rw[De];exact VX fun k h0 _=>by rw[if_neg (by omega)]
theorem sC{ps:List Qe}{p i:Int}(h:ps.length<=i):J6 ps p i=X6 ps p:=VX fun k h0 h1=>by rw[if_pos (by omega)]
theorem xO{ps:List Qe}{p i:Int}(h0:0<=i)(h:hasB p i=false):J6 ps p i=J6 ps p (i+1):=VX fun k g0 g1=>by
 by_cases e:k=i
 ·subst e;rw[if_neg (by omega),if_pos (by omega),VE,h];rfl
 ·by_cases e2:k<i
  ·rw[if_pos e2,if_pos (by omega)]
  ·rw[if_neg e2,if_neg (by omega)]
theorem fK{ps:List Qe}{p i:Int}(h0:0<=i)(h1:i<ps.length)(h:hasB p i=true):(J6 ps p i).set i.toNat (mG (ps.getD i.toNat La))=J6 ps p (i+1):=by
 unfold J6;rw[fM h0 h1];refine VX fun k g0 g1=> ?_
 by_cases e:k=i
 ·subst e;rw[if_pos rfl,if_pos (by omega),VE,h];rfl
 ·rw[if_neg e];by_cases e2:k<i
  ·rw[if_pos e2,if_pos (by omega)]
  ·rw[if_neg e2,if_neg (by omega)]
theorem Eb{n k:Int}(hn:0<=n):0<=((Ss n k:Nat):Int)/\((Ss n k:Nat):Int)<=n:=by
 have:=Cz (a:=n) (n:=k);omega
def KB(x_:Qe):Array Value:=#[.int .i64 x_.count,.int .i64 x_.room,.int .i64 x_.glo,.int .i64 x_.ghi,.int .i64 x_.drift,.int .i64 x_.into,.int .i64 x_.olo,.int .i64 x_.ohi,.int .i64 x_.slo,.int .i64 x_.shi,.int .i64 x_.goal,.int .i64 x_.worth]
def RT(rf:Qk)(Qa:List Int)(k:Int):Array Value:=#[.agg #[QF 0 (Xq rf.Qb.length (Qj Qf rf.Qb)),.int .i64 rf.miss,.int .i64 rf.seasons,.int .i64 (Qa.getD 0 0),.int .i64 (Qa.getD 1 0),.int .i64 (Qa.getD 2 0),.int .i64 (Qa.getD 3 0)],.int .i64 k,pA 1 0,.tuple #[],.slice none 0 0,pA 4 0,.tuple #[],pA 1 0,pA 1 0,QF 0 (Xq rf.Qb.length (Qj Qf rf.Qb)),.slice (some {block:=3,off:=0}) rf.Qb.length 2,.agg #[QF 0 (Xq rf.Qb.length (Qj Qf rf.Qb)),.int .i64 rf.miss,.int .i64 rf.seasons,.int .i64 (Qa.getD 0 0),.int .i64 (Qa.getD 1 0),.int .i64 (Qa.getD 2 0),.int .i64 (Qa.getD 3 0)],.int .i64 k,Value.func (Fn.func 112) #[] #[QF 5 (Y5 0 #[Xq rf.Qb.length (Qj Qf rf.Qb),.int .i64 rf.miss,.int .i64 rf.seasons,.int .i64 (Qa.getD 0 0),.int .i64 (Qa.getD 1 0),.int .i64 (Qa.getD 2 0),.int .i64 (Qa.getD 3 0)]),QF 5 (Y5 0 #[.int .i64 k])],.tuple #[],.tuple #[],.tuple #[],.tuple #[],.tuple #[],.tuple #[],.tuple #[],.tuple #[],.tuple #[],.tuple #[],.tuple #[],.tuple #[]]
def YQ(rf:Qk)(Qa:List Int):Array Value:=#[Xq rf.Qb.length (Qj Qf rf.Qb),.int .i64 rf.miss,.int .i64 rf.seasons,.int .i64 (Qa.getD 0 0),.int .i64 (Qa.getD 1 0),.int .i64 (Qa.getD 2 0),.int .i64 (Qa.getD 3 0)]
def cb(rf:Qk)(i:Int):Value:=(.agg #[.int .i64 (Qe.olo (rf.Qb.getD i.toNat La)),.int .i64 (Qe.ohi (rf.Qb.getD i.toNat La))])
def Vd(rf:Qk)(Qa:List Int)(k:Int):Q0:=[(1,Obj.cells #[QF 0 (Xq rf.Qb.length (Qj Qf rf.Qb)),.int .i64 rf.miss,.int .i64 rf.seasons,.int .i64 (Qa.getD 0 0),.int .i64 (Qa.getD 1 0),.int .i64 (Qa.getD 2 0),.int .i64 (Qa.getD 3 0)] 84),(0,Obj.coro none)]
def KD(rf:Qk)(Qa:List Int)(k:Int):CF:=⟨102,ofList 26 [QF 0 (Xq rf.Qb.length (Qj Qf rf.Qb)),Value.func (Fn.func 105) #[] #[]],[Item.code (Xt YP 102)],[],.run,none⟩
def U4(rf:Qk)(Qa:List Int)(k:Int)(i:Int)(ys:List Span):List Value:=[Value.func (Fn.func 105) #[] #[],.slice (some {block:=3,off:=0}) rf.Qb.length 2,QF 0 (Xq rf.Qb.length (Qj Qf rf.Qb)),.int .i64 (↑rf.Qb.length:Int),.int .i64 i]
def U3(rf:Qk)(Qa:List Int)(k:Int)(i:Int)(ys:List Span):List Obj:=[]
def Wq(rf:Qk)(Qa:List Int)(k:Int)(i:Int)(ys:List Span):List Obj:=[.cells (Qj QN ys) 38 (0,0)]
def U5:List Item:=([.code [1,1,0,1,0,0],.inLoop [1,1,0,1,0,0],.inBlock 0,.code [1,1,1]]).map (it (Xt YP 102))
def YU(rf:Qk)(Qa:List Int)(k:Int)(i:Int)(ys:List Span)(Qr:Nat->Value):Q0:=[(4,Obj.cells (KB (rf.Qb.getD i.toNat La)) 54),(2,Obj.coro none),(3,Obj.cells (Qj QN ys) 38),(1,Obj.cells #[QF 0 (Xq rf.Qb.length (Qj Qf rf.Qb)),.int .i64 rf.miss,.int .i64 rf.seasons,.int .i64 (Qa.getD 0 0),.int .i64 (Qa.getD 1 0),.int .i64 (Qa.getD 2 0),.int .i64 (Qa.getD 3 0)] 84),(0,Obj.coro none)]
def RW(rf:Qk)(Qa:List Int)(k:Int)(i:Int)(ys:List Span)(Qr:Nat->Value):CF:=⟨105,ofList 5 [.agg (KB (rf.Qb.getD i.toNat La))],[Item.code (Xt YP 105)],[],.run,none⟩
theorem yn(B:Lo)(rf:Qk)(Qa:List Int)(k:Int)(i:Int)(ys:List Span)(Qr:Nat->Value):CE.finK 5 (Q2 YP (QB YP) J0 B 6 5 (RW rf Qa k i ys Qr) (YU rf Qa k i ys Qr) 5
 [] 0 [] []) [] [] []=some (OO.ret (.agg #[.int .i64 (Qe.olo (rf.Qb.getD i.toNat La)),.int .i64 (Qe.ohi (rf.Qb.getD i.toNat La))]),[],[],
 []):=by kernel_rfl
theorem ym(B:Lo)(rf:Qk)(Qa:List Int)(k:Int)(i:Int)(ys:List Span)(Qr:Nat->Value):CE.landA 2 (Q2 YP (QB YP) J0 B 13 2 (VO (none) 102 26 (([1,5,11,12,13]:List Nat).zip (U4 rf Qa k i ys)) Qr U5) (Wt (Vd rf Qa k) 2 (([]:List Nat).zip (U3 rf Qa k i ys)) (Wq rf Qa k i ys)) (2+1+(Wq rf Qa k i ys).length)
 [(0,V4),(2,Qu.tidx i.toNat (KB (rf.Qb.getD i.toNat La))),(11,Qu.call (Lv 5) (OO.ret (cb rf i)) ([]++(5,XM)::XJ 6 []) 6 []),(12,Qu.WE (Hint.idx i.toNat)),(13,Qu.WE (Hint.st (Qj QN (Lw ys i.toNat {lo:=Qe.olo (rf.Qb.getD i.toNat La),hi:=Qe.ohi (rf.Qb.getD i.toNat La)})))),(14,UW (i+1))] 0 [] []) [1,5,11,12,13] [] [(3,KS.cells [] (Qj QN (Lw ys i.toNat {lo:=Qe.olo (rf.Qb.getD i.toNat La),hi:=Qe.ohi (rf.Qb.getD i.toNat La)})))] []=some ⟨102,26,U5,[],.run,none,U4 rf Qa k (i+1) (Lw ys i.toNat {lo:=Qe.olo (rf.Qb.getD i.toNat La),hi:=Qe.ohi (rf.Qb.getD i.toNat La)}),([]:List Nat).zip (U3 rf Qa k (i+1) (Lw ys i.toNat {lo:=Qe.olo (rf.Qb.getD i.toNat La),hi:=Qe.ohi (rf.Qb.getD i.toNat La)})),Wq rf Qa k (i+1) (Lw ys i.toNat {lo:=Qe.olo (rf.Qb.getD i.toNat La),hi:=Qe.ohi (rf.Qb.getD i.toNat La)}),
 [ZG 2 [] (Qj QN (Lw ys i.toNat {lo:=Qe.olo (rf.Qb.getD i.toNat La),hi:=Qe.ohi (rf.Qb.getD i.toNat La)})) (Qj QN (Lw ys i.toNat {lo:=Qe.olo (rf.Qb.getD i.toNat La),hi:=Qe.ohi (rf.Qb.getD i.toNat La)})),wq (i+1)=i+1,0+Lb i*2+TypeInfo.size Try.t38<=LR (Qj QN ys)/\splice (Qj QN ys) (0+Lb i*2) (Value.cells (Zc {len:=16000,tr:=Tri.set 14 (Tri.set 14 Tri.lf 22 (cb rf i)) 23 (.pointer (some {block:=3,off:=0+Lb i*2}))} 22))=Qj QN (Lw ys i.toNat {lo:=Qe.olo (rf.Qb.getD i.toNat La),hi:=Qe.ohi (rf.Qb.getD i.toNat La)}),i=(↑i.toNat:Int)/\Lb i<Lc rf.Qb,FJ YP B (RW rf Qa k i ys Qr) (YU rf Qa k i ys Qr) 5 (OO.ret (cb rf i)) (([]++((5,XM)::XJ (5+1) []))++YU rf Qa k i ys Qr) 6 (Lv 5) [],i=(↑i.toNat:Int)/\Lb i<Lc rf.Qb/\Array.extract (Qj Qf rf.Qb) (Lb i*TypeInfo.size Try.t54) (Lb i*TypeInfo.size Try.t54+TypeInfo.size Try.t54)=(KB (rf.Qb.getD i.toNat La)),Z7 i (↑rf.Qb.length:Int)=true]⟩:=by kernel_rfl
theorem yl(B:Lo)(rf:Qk)(Qa:List Int)(k:Int)(i:Int)(ys:List Span)(Qr:Nat->Value):CE.finK 2 (Q2 YP (QB YP) J0 B 9 2 (VO (none) 102 26 (([1,5,11,12,13]:List Nat).zip (U4 rf Qa k i ys)) Qr U5) (Wt (Vd rf Qa k) 2 (([]:List Nat).zip (U3 rf Qa k i ys)) (Wq rf Qa k i ys)) (2+1+(Wq rf Qa k i ys).length)
 [(0,V5)] 0 [] []) [] [(3,KS.cells [] (Qj QN ys))] []=some (OO.ret (.slice (some {block:=3,off:=0}) rf.Qb.length 2),[],[Obj.cells (Qj QN ys) 38],
 [ZG 2 [] (Qj QN ys) (Qj QN ys),Z7 i (↑rf.Qb.length:Int)=false]):=by kernel_rfl
set_option maxHeartbeats 4000000 in
theorem mQ(rf:Qk)(Qa:List Int)(k:Int)(hn:rf.Qb.length<=4)(hl:Qa.length<=4)(k0:0<=k)(k1:k<4)(hp:∀j:Nat,0<=Qa.getD j 0/\Qa.getD j 0<=1000000){B:Lo}(hJ:∀w,B.has w->J0 w):∀m:Nat,(∀(i:Int) (ys:List Span),(rf.Qb.length-i.toNat)=m->∀(h0:0<=i) (hy:ys=Yx Wm ⟨0,0⟩ rf.Qb i),(∃Qr:Nat->Value,(∀t,Zf (Qr t))/\GoE YP B (KD rf Qa k) (Vd rf Qa k) 2 (VO (none) 102 26 (([1,5,11,12,13]:List Nat).zip (U4 rf Qa k i ys)) Qr U5) (Wt (Vd rf Qa k) 2 (([]:List Nat).zip (U3 rf Qa k i ys)) (Wq rf Qa k i ys)) (2+1+(Wq rf Qa k i ys).length) ([]:List Nat))->FinK YP B (KD rf Qa k) (Vd rf Qa k) 2 (.ret (.slice (some ⟨3,0,none⟩) rf.Qb.length 2)) (([]:List Nat).zip ([])) ([.cells (Qj QN (rf.Qb.map Wm)) 38 (0,0)]) ([]:List Nat)):=by
 intro m0;induction m0 using LK with
 |_ m0 ih0=>
  intro i ys hm0 h0 hy ⟨Qr,Jn,X7⟩;have hyl:ys.length=rf.Qb.length:=by rw[hy];exact Js
  by_cases q0:(i:Int)<((↑rf.Qb.length:Int))
  ·have rj1:FJ YP B (RW rf Qa k i ys Qr) (YU rf Qa k i ys Qr) 5 (OO.ret (.agg #[.int .i64 (Qe.olo (rf.Qb.getD i.toNat La)),.int .i64 (Qe.ohi (rf.Qb.getD i.toNat La))])) (([]++((5,XM)::XJ (5+1) []))++YU rf Qa k i ys Qr) 6 (Lv 5) []:=by
    exact FinK.fjB (GoE.finK okF hJ Qi (Xd (by kernel_rfl)) (QX (by kernel_rfl)) ((GoE.refl (P:=YP) (B:=B) (c0:=RW rf Qa k i ys Qr) (Xd (by kernel_rfl))).widen (Wf:=((([]):List (Nat×KS)).map (·.1))) (by simp) (QX (by kernel_rfl))) (yn B rf Qa k i ys Qr)
     trivial) (ex:=[3]) (by kernel_rfl) ⟨trivial,⟨trivial,⟨(Yc (t:=38) (fl:=(0,0)) (fun x=>List.all_eq_true.1 (by rfl))),⟨trivial,⟨trivial,trivial⟩⟩⟩⟩⟩
   exact((ih0 _ (by omega)) (i+1) (Lw ys i.toNat {lo:=Qe.olo (rf.Qb.getD i.toNat La),hi:=Qe.ohi (rf.Qb.getD i.toNat La)}) rfl (by omega) (by(subst hy;exact Jr (f:=Wm) h0 q0))
    (GoE.landA okF hJ Qi (Xd (by kernel_rfl)) (QX (by kernel_rfl)) X7 (ym B rf Qa k i ys Qr)
    (by exact⟨(Xk (Xr (fun x=>List.all_eq_true.1 (by rfl)))),⟨(XX (by omega) (by omega)),⟨(by exact KM (z:=2) (k:=Lb i) (fun _=>rfl) (by first|omega|(rw[Lf];omega)|(rw[Lh];omega)) rfl rfl),⟨⟨by omega,by omega⟩,⟨rj1,⟨⟨by omega,by omega,(QW (z:=12) (fun _=>rfl) (by omega))⟩,⟨(Z3 q0),trivial⟩⟩⟩⟩⟩⟩⟩) (by kernel_rfl) (by kernel_rfl) (fun l hl=>by cases hl <;> decide))).cast (by rfl) (by rfl) (by rfl)
  ·exact(GoE.finK okF hJ Qi (Xd (by kernel_rfl)) (QX (by kernel_rfl)) X7 (yl B rf Qa k i ys Qr)
    ⟨(Xk (Xr (fun x=>List.all_eq_true.1 (by rfl)))),⟨(Z4 (Int.not_lt.1 q0)),trivial⟩⟩).cast (by rfl) (by rfl) (by(rw[hy,Jt (by omega)];done))

theorem yo(B:Lo)(rf:Qk)(Qa:List Int)(k:Int):CE.landA 2 (Q2 YP (QB YP) J0 B 9 2 (KD rf Qa k) (Vd rf Qa k) 2
 [(3,Qu.WE (Hint.mk rf.Qb.length (Qj (VD [.int .i64 0,.int .i64 0]) (Li rf.Qb.length ()))))] 0 [] []) [1,5,11,12,13] [] [(2,KS.rows [] [] [] (Qj QN (Li rf.Qb.length {lo:=0,hi:=0})))] []=some ⟨102,26,U5,[],.run,none,U4 rf Qa k (0) (Li rf.Qb.length {lo:=0,hi:=0}),([]:List Nat).zip (U3 rf Qa k (0) (Li rf.Qb.length {lo:=0,hi:=0})),Wq rf Qa k (0) (Li rf.Qb.length {lo:=0,hi:=0}),
 [ZO 2 [] [] [] (Qj (VD [.int .i64 0,.int .i64 0]) (Li rf.Qb.length ())) (Qj QN (Li rf.Qb.length {lo:=0,hi:=0})),Jx YP 36 (Zc {len:=16000,tr:=Tri.set 14 Tri.lf 9 (.int .i64 (↑rf.Qb.length:Int))} 9) (Zc {len:=16000,tr:=Tri.set 14 Tri.lf 9 (.int .i64 (↑rf.Qb.length:Int))} 9)=some (38,Qj (VD [.int .i64 0,.int .i64 0]) (Li rf.Qb.length ()),Lc rf.Qb,TypeInfo.size Try.t38)]⟩:=by kernel_rfl
def YT(rf:Qk)(Qa:List Int)(k:Int):Q0:=[(4,Obj.cells #[.slice (some {block:=3,off:=0}) rf.Qb.length 2] 36),(2,Obj.coro none),(3,Obj.cells (Qj QN (List.map Wm rf.Qb)) 38),(1,Obj.cells #[QF 0 (Xq rf.Qb.length (Qj Qf rf.Qb)),.int .i64 rf.miss,.int .i64 rf.seasons,.int .i64 (Qa.getD 0 0),.int .i64 (Qa.getD 1 0),.int .i64 (Qa.getD 2 0),.int .i64 (Qa.getD 3 0)] 84),(0,Obj.coro none)]
def RV(rf:Qk)(Qa:List Int)(k:Int):CF:=⟨91,ofList 6 [.agg #[QF 0 (Xq rf.Qb.length (Qj Qf rf.Qb)),.int .i64 rf.miss,.int .i64 rf.seasons,.int .i64 (Qa.getD 0 0),.int .i64 (Qa.getD 1 0),.int .i64 (Qa.getD 2 0),.int .i64 (Qa.getD 3 0)],.int .i64 k],[Item.code (Xt YP 91)],[],.run,none⟩
theorem yj(B:Lo)(rf:Qk)(Qa:List Int)(k:Int):CE.finK 5 (Q2 YP (QB YP) J0 B 6 5 (RV rf Qa k) (YT rf Qa k) 5
 [] 0 [] []) [] [] [{k:=5,rs:=[0],cs:=#[Xq rf.Qb.length (Qj Qf rf.Qb),.int .i64 rf.miss,.int .i64 rf.seasons,.int .i64 (Qa.getD 0 0),.int .i64 (Qa.getD 1 0),.int .i64 (Qa.getD 2 0),.int .i64 (Qa.getD 3 0)]},{k:=6,rs:=[],cs:=#[.int .i64 k]}]=some (OO.ret (Value.func (Fn.func 112) #[] #[QF 5 (Y5 0 #[Xq rf.Qb.length (Qj Qf rf.Qb),.int .i64 rf.miss,.int .i64 rf.seasons,.int .i64 (Qa.getD 0 0),.int .i64 (Qa.getD 1 0),.int .i64 (Qa.getD 2 0),.int .i64 (Qa.getD 3 0)]),QF 5 (Y5 0 #[.int .i64 k])]),[],[],
 [QC (Fz.rs {k:=5,rs:=[0],cs:=(YQ rf Qa)}) #[QF 0 (Xq rf.Qb.length (Qj Qf rf.Qb)),.int .i64 rf.miss,.int .i64 rf.seasons,.int .i64 (Qa.getD 0 0),.int .i64 (Qa.getD 1 0),.int .i64 (Qa.getD 2 0),.int .i64 (Qa.getD 3 0)] (Fz.cs {k:=5,rs:=[0],cs:=(YQ rf Qa)}),QC (Fz.rs {k:=6,rs:=[],cs:=#[.int .i64 k]}) #[.int .i64 k] (Fz.cs {k:=6,rs:=[],cs:=#[.int .i64 k]})]):=by kernel_rfl
def WB(rf:Qk)(Qa:List Int)(k:Int):Q0:=[(7,Obj.loop {state:=LoopState.ready,pending:=none,fn:=84,tmps:=#[.agg #[QF 0 (Xq rf.Qb.length (Qj Qf rf.Qb)),.int .i64 rf.miss,.int .i64 rf.seasons,.int .i64 (Qa.getD 0 0),.int .i64 (Qa.getD 1 0),.int .i64 (Qa.getD 2 0),.int .i64 (Qa.getD 3 0)],.int .i64 k,pA 1 0,.tuple #[],.slice none 0 0,pA 4 0,.tuple #[],pA 1 0,pA 1 0,QF 0 (Xq rf.Qb.length (Qj Qf rf.Qb)),.slice (some {block:=3,off:=0}) rf.Qb.length 2,.agg #[QF 0 (Xq rf.Qb.length (Qj Qf rf.Qb)),.int .i64 rf.miss,.int .i64 rf.seasons,.int .i64 (Qa.getD 0 0),.int .i64 (Qa.getD 1 0),.int .i64 (Qa.getD 2 0),.int .i64 (Qa.getD 3 0)],.int .i64 k,Value.func (Fn.func 112) #[] #[QF 5 (Y5 0 #[Xq rf.Qb.length (Qj Qf rf.Qb),.int .i64 rf.miss,.int .i64 rf.seasons,.int .i64 (Qa.getD 0 0),.int .i64 (Qa.getD 1 0),.int .i64 (Qa.getD 2 0),.int .i64 (Qa.getD 3 0)]),QF 5 (Y5 0 #[.int .i64 k])],.tuple #[],.tuple #[],.tuple #[],.tuple #[],.tuple #[],.tuple #[],.tuple #[],.tuple #[],.tuple #[],.tuple #[],.tuple #[],.tuple #[]],params:=#[14],assign:=J3 (Xt YP 84) [1,1,0,1,0,0],body:=J3 (Xt YP 84) [1,1,0,1,0,1],defers:=6}),(6,Obj.deferred (some [])),(5,Obj.coro none),(4,Obj.cells #[.slice (some {block:=3,off:=0}) rf.Qb.length 2] 36),(2,Obj.coro none),(3,Obj.cells (Qj QN (List.map Wm rf.Qb)) 38),(1,Obj.cells #[QF 0 (Xq rf.Qb.length (Qj Qf rf.Qb)),.int .i64 rf.miss,.int .i64 rf.seasons,.int .i64 (Qa.getD 0 0),.int .i64 (Qa.getD 1 0),.int .i64 (Qa.getD 2 0),.int .i64 (Qa.getD 3 0)] 84),(0,Obj.coro none)]
def KC(rf:Qk)(Qa:List Int)(k:Int):CF:=⟨112,ofList 27 [Value.func (Fn.yield 7) #[] #[],QF 5 (Y5 0 #[Xq rf.Qb.length (Qj Qf rf.Qb),.int .i64 rf.miss,.int .i64 rf.seasons,.int .i64 (Qa.getD 0 0),.int .i64 (Qa.getD 1 0),.int .i64 (Qa.getD 2 0),.int .i64 (Qa.getD 3 0)]),QF 5 (Y5 0 #[.int .i64 k])],[Item.code (Xt YP 112)],[],.run,none⟩
def WQ(rf:Qk)(Qa:List Int)(k:Int)(i:Int)(ys:List Span):List Value:=[Value.func (Fn.yield 7) #[] #[],QF 5 (Y5 0 #[Xq rf.Qb.length (Qj Qf rf.Qb),.int .i64 rf.miss,.int .i64 rf.seasons,.int .i64 (Qa.getD 0 0),.int .i64 (Qa.getD 1 0),.int .i64 (Qa.getD 2 0),.int .i64 (Qa.getD 3 0)]),QF 5 (Y5 0 #[.int .i64 k]),.int .i64 (↑rf.Qb.length:Int),.int .i64 i]
def WO(rf:Qk)(Qa:List Int)(k:Int)(i:Int)(ys:List Span):List Obj:=[Obj.loop {state:=LoopState.ready,pending:=none,fn:=84,tmps:=#[.agg #[QF 0 (Xq rf.Qb.length (Qj Qf rf.Qb)),.int .i64 rf.miss,.int .i64 rf.seasons,.int .i64 (Qa.getD 0 0),.int .i64 (Qa.getD 1 0),.int .i64 (Qa.getD 2 0),.int .i64 (Qa.getD 3 0)],.int .i64 k,pA 1 0,.tuple #[],.slice none 0 0,pA 4 0,.tuple #[],pA 1 0,pA 1 0,QF 0 (Xq rf.Qb.length (Qj Qf rf.Qb)),.slice (some {block:=3,off:=0}) rf.Qb.length 2,.agg #[QF 0 (Xq rf.Qb.length (Qj Qf rf.Qb)),.int .i64 rf.miss,.int .i64 rf.seasons,.int .i64 (Qa.getD 0 0),.int .i64 (Qa.getD 1 0),.int .i64 (Qa.getD 2 0),.int .i64 (Qa.getD 3 0)],.int .i64 k,Value.func (Fn.func 112) #[] #[QF 5 (Y5 0 #[Xq rf.Qb.length (Qj Qf rf.Qb),.int .i64 rf.miss,.int .i64 rf.seasons,.int .i64 (Qa.getD 0 0),.int .i64 (Qa.getD 1 0),.int .i64 (Qa.getD 2 0),.int .i64 (Qa.getD 3 0)]),QF 5 (Y5 0 #[.int .i64 k])],.tuple #[],.tuple #[],.tuple #[],.tuple #[],.tuple #[],.tuple #[],.tuple #[],.tuple #[],.tuple #[],.tuple #[],.tuple #[],.tuple #[]],params:=#[14],assign:=J3 (Xt YP 84) [1,1,0,1,0,0],body:=J3 (Xt YP 84) [1,1,0,1,0,1],defers:=6},.cells (Qj QN ys) 38 (0,0)]
def Z0(rf:Qk)(Qa:List Int)(k:Int)(i:Int)(ys:List Span):List Obj:=[]
def WR:List Item:=([.code [1,0,0],.inLoop [1,0,0],.inBlock 0]).map (it (Xt YP 112))
def cc(B:Lo)(rf:Qk)(Qa:List Int)(k:Int)(i:Int)(ys:List Span)(Qr:Nat->Value):List Prop:=[kA YP BinOp.and 3 (Zc {len:=16000,tr:=Tri.set 14 Tri.lf 17 (.int .i64 (↑(Ss (Qs [Qa.getD 0 0,Qa.getD 1 0,Qa.getD 2 0,Qa.getD 3 0] k.toNat) i):Int))} 17) (.int .i64 1) (.int .i64 (↑(og (↑(Ss (Qs [Qa.getD 0 0,Qa.getD 1 0,Qa.getD 2 0,Qa.getD 3 0] k.toNat) i):Int) 1):Int)),kA YP BinOp.shr 3 (Zc {len:=16000,tr:=Tri.set 14 (Tri.set 14 Tri.lf 16 (.int .i64 i)) 15 (.int .i64 (Qs [Qa.getD 0 0,Qa.getD 1 0,Qa.getD 2 0,Qa.getD 3 0] k.toNat))} 15) (Zc {len:=16000,tr:=Tri.set 14 (Tri.set 14 Tri.lf 16 (.int .i64 i)) 15 (.int .i64 (Qs [Qa.getD 0 0,Qa.getD 1 0,Qa.getD 2 0,Qa.getD 3 0] k.toNat))} 16) (.int .i64 (↑(Ss (Qs [Qa.getD 0 0,Qa.getD 1 0,Qa.getD 2 0,Qa.getD 3 0] k.toNat) i):Int)),k=(↑k.toNat:Int)/\Lb k<4/\Array.extract (YQ rf Qa) (3+Lb k*TypeInfo.size Try.t3) (3+Lb k*TypeInfo.size Try.t3+TypeInfo.size Try.t3)=#[.int .i64 (Qs [Qa.getD 0 0,Qa.getD 1 0,Qa.getD 2 0,Qa.getD 3 0] k.toNat)],Z7 i (↑rf.Qb.length:Int)=true]++([]:List Prop)
def lO(rf:Qk)(Qa:List Int)(k:Int)(i:Int)(ys:List Span)(Qr:Nat->Value):QA:=[(0,V4),(5,Qu.tarr k.toNat #[.int .i64 (Qs [Qa.getD 0 0,Qa.getD 1 0,Qa.getD 2 0,Qa.getD 3 0] k.toNat)]),(8,Qu.bin (.int .i64 (↑(Ss (Qs [Qa.getD 0 0,Qa.getD 1 0,Qa.getD 2 0,Qa.getD 3 0] k.toNat) i):Int))),(9,Qu.bin (.int .i64 (↑(og (↑(Ss (Qs [Qa.getD 0 0,Qa.getD 1 0,Qa.getD 2 0,Qa.getD 3 0] k.toNat) i):Int) 1):Int)))]
def YS(rf:Qk)(Qa:List Int)(k:Int)(i:Int)(ys:List Span)(Qr:Nat->Value):Q0:=[(7,Obj.loop {state:=LoopState.ready,pending:=none,fn:=84,tmps:=#[.agg #[QF 0 (Xq rf.Qb.length (Qj Qf rf.Qb)),.int .i64 rf.miss,.int .i64 rf.seasons,.int .i64 (Qa.getD 0 0),.int .i64 (Qa.getD 1 0),.int .i64 (Qa.getD 2 0),.int .i64 (Qa.getD 3 0)],.int .i64 k,pA 1 0,.tuple #[],.slice none 0 0,pA 4 0,.tuple #[],pA 1 0,pA 1 0,QF 0 (Xq rf.Qb.length (Qj Qf rf.Qb)),.slice (some {block:=3,off:=0}) rf.Qb.length 2,.agg #[QF 0 (Xq rf.Qb.length (Qj Qf rf.Qb)),.int .i64 rf.miss,.int .i64 rf.seasons,.int .i64 (Qa.getD 0 0),.int .i64 (Qa.getD 1 0),.int .i64 (Qa.getD 2 0),.int .i64 (Qa.getD 3 0)],.int .i64 k,Value.func (Fn.func 112) #[] #[QF 5 (Y5 0 #[Xq rf.Qb.length (Qj Qf rf.Qb),.int .i64 rf.miss,.int .i64 rf.seasons,.int .i64 (Qa.getD 0 0),.int .i64 (Qa.getD 1 0),.int .i64 (Qa.getD 2 0),.int .i64 (Qa.getD 3 0)]),QF 5 (Y5 0 #[.int .i64 k])],.tuple #[],.tuple #[],.tuple #[],.tuple #[],.tuple #[],.tuple #[],.tuple #[],.tuple #[],.tuple #[],.tuple #[],.tuple #[],.tuple #[]],params:=#[14],assign:=J3 (Xt YP 84) [1,1,0,1,0,0],body:=J3 (Xt YP 84) [1,1,0,1,0,1],defers:=6}),(3,Obj.cells (Qj QN ys) 38),(8,Obj.coro none),(7,Obj.loop {state:=LoopState.ready,pending:=none,fn:=84,tmps:=#[.agg #[QF 0 (Xq rf.Qb.length (Qj Qf rf.Qb)),.int .i64 rf.miss,.int .i64 rf.seasons,.int .i64 (Qa.getD 0 0),.int .i64 (Qa.getD 1 0),.int .i64 (Qa.getD 2 0),.int .i64 (Qa.getD 3 0)],.int .i64 k,pA 1 0,.tuple #[],.slice none 0 0,pA 4 0,.tuple #[],pA 1 0,pA 1 0,QF 0 (Xq rf.Qb.length (Qj Qf rf.Qb)),.slice (some {block:=3,off:=0}) rf.Qb.length 2,.agg #[QF 0 (Xq rf.Qb.length (Qj Qf rf.Qb)),.int .i64 rf.miss,.int .i64 rf.seasons,.int .i64 (Qa.getD 0 0),.int .i64 (Qa.getD 1 0),.int .i64 (Qa.getD 2 0),.int .i64 (Qa.getD 3 0)],.int .i64 k,Value.func (Fn.func 112) #[] #[QF 5 (Y5 0 #[Xq rf.Qb.length (Qj Qf rf.Qb),.int .i64 rf.miss,.int .i64 rf.seasons,.int .i64 (Qa.getD 0 0),.int .i64 (Qa.getD 1 0),.int .i64 (Qa.getD 2 0),.int .i64 (Qa.getD 3 0)]),QF 5 (Y5 0 #[.int .i64 k])],.tuple #[],.tuple #[],.tuple #[],.tuple #[],.tuple #[],.tuple #[],.tuple #[],.tuple #[],.tuple #[],.tuple #[],.tuple #[],.tuple #[]],params:=#[14],assign:=J3 (Xt YP 84) [1,1,0,1,0,0],body:=J3 (Xt YP 84) [1,1,0,1,0,1],defers:=6}),(6,Obj.deferred (some [])),(5,Obj.coro none),(4,Obj.cells #[.slice (some {block:=3,off:=0}) rf.Qb.length 2] 36),(2,Obj.coro none),(3,Obj.cells (Qj QN (List.map Wm rf.Qb)) 38),(1,Obj.cells #[QF 0 (Xq rf.Qb.length (Qj Qf rf.Qb)),.int .i64 rf.miss,.int .i64 rf.seasons,.int .i64 (Qa.getD 0 0),.int .i64 (Qa.getD 1 0),.int .i64 (Qa.getD 2 0),.int .i64 (Qa.getD 3 0)] 84),(0,Obj.coro none)]
def RU(rf:Qk)(Qa:List Int)(k:Int)(i:Int)(ys:List Span)(Qr:Nat->Value):CF:=⟨84,ofList 26 [.agg #[QF 0 (Xq rf.Qb.length (Qj Qf rf.Qb)),.int .i64 rf.miss,.int .i64 rf.seasons,.int .i64 (Qa.getD 0 0),.int .i64 (Qa.getD 1 0),.int .i64 (Qa.getD 2 0),.int .i64 (Qa.getD 3 0)],.int .i64 k,pA 1 0,.tuple #[],.slice none 0 0,pA 4 0,.tuple #[],pA 1 0,pA 1 0,QF 0 (Xq rf.Qb.length (Qj Qf rf.Qb)),.slice (some {block:=3,off:=0}) rf.Qb.length 2,.agg #[QF 0 (Xq rf.Qb.length (Qj Qf rf.Qb)),.int .i64 rf.miss,.int .i64 rf.seasons,.int .i64 (Qa.getD 0 0),.int .i64 (Qa.getD 1 0),.int .i64 (Qa.getD 2 0),.int .i64 (Qa.getD 3 0)],.int .i64 k,Value.func (Fn.func 112) #[] #[QF 5 (Y5 0 #[Xq rf.Qb.length (Qj Qf rf.Qb),.int .i64 rf.miss,.int .i64 rf.seasons,.int .i64 (Qa.getD 0 0),.int .i64 (Qa.getD 1 0),.int .i64 (Qa.getD 2 0),.int .i64 (Qa.getD 3 0)]),QF 5 (Y5 0 #[.int .i64 k])],.int .i64 i,.tuple #[],.tuple #[],.tuple #[],.tuple #[],.tuple #[],.tuple #[],.tuple #[],.tuple #[],.tuple #[],.tuple #[],.tuple #[]],[Item.code (J3 (Xt YP 84) [1,1,0,1,0,0]),Item.beginRound,Item.code (J3 (Xt YP 84) [1,1,0,1,0,1])],[],.run,some 7⟩
theorem yh(B:Lo)(rf:Qk)(Qa:List Int)(k:Int)(i:Int)(ys:List Span)(Qr:Nat->Value):CE.finK 9 (Q2 YP (QB YP) J0 B 6 9 (RU rf Qa k i ys Qr) (YS rf Qa k i ys Qr) 9
 [(7,Qu.tidx i.toNat (KB (rf.Qb.getD i.toNat La))),(10,Qu.WE (Hint.idx i.toNat)),(11,Qu.WE (Hint.st (Qj QN (Lw ys i.toNat {lo:=Qe.slo (rf.Qb.getD i.toNat La),hi:=Qe.shi (rf.Qb.getD i.toNat La)}))))] 0 [] []) [(7,KS.auto),(3,KS.cells [] (Qj QN (Lw ys i.toNat {lo:=Qe.slo (rf.Qb.getD i.toNat La),hi:=Qe.shi (rf.Qb.getD i.toNat La)})))] [] []=some (OO.ret (.bool true),[(7,Obj.loop {state:=LoopState.ready,pending:=none,fn:=84,tmps:=#[.agg #[QF 0 (Xq rf.Qb.length (Qj Qf rf.Qb)),.int .i64 rf.miss,.int .i64 rf.seasons,.int .i64 (Qa.getD 0 0),.int .i64 (Qa.getD 1 0),.int .i64 (Qa.getD 2 0),.int .i64 (Qa.getD 3 0)],.int .i64 k,pA 1 0,.tuple #[],.slice none 0 0,pA 4 0,.tuple #[],pA 1 0,pA 1 0,QF 0 (Xq rf.Qb.length (Qj Qf rf.Qb)),.slice (some {block:=3,off:=0}) rf.Qb.length 2,.agg #[QF 0 (Xq rf.Qb.length (Qj Qf rf.Qb)),.int .i64 rf.miss,.int .i64 rf.seasons,.int .i64 (Qa.getD 0 0),.int .i64 (Qa.getD 1 0),.int .i64 (Qa.getD 2 0),.int .i64 (Qa.getD 3 0)],.int .i64 k,Value.func (Fn.func 112) #[] #[QF 5 (Y5 0 #[Xq rf.Qb.length (Qj Qf rf.Qb),.int .i64 rf.miss,.int .i64 rf.seasons,.int .i64 (Qa.getD 0 0),.int .i64 (Qa.getD 1 0),.int .i64 (Qa.getD 2 0),.int .i64 (Qa.getD 3 0)]),QF 5 (Y5 0 #[.int .i64 k])],.tuple #[],.tuple #[],.tuple #[],.tuple #[],.tuple #[],.tuple #[],.tuple #[],.tuple #[],.tuple #[],.tuple #[],.tuple #[],.tuple #[]],params:=#[14],assign:=J3 (Xt YP 84) [1,1,0,1,0,0],body:=J3 (Xt YP 84) [1,1,0,1,0,1],defers:=6}),(3,Obj.cells (Qj QN (Lw ys i.toNat {lo:=Qe.slo (rf.Qb.getD i.toNat La),hi:=Qe.shi (rf.Qb.getD i.toNat La)})) 38)],[],
 [ZG 9 [] (Qj QN (Lw ys i.toNat {lo:=Qe.slo (rf.Qb.getD i.toNat La),hi:=Qe.shi (rf.Qb.getD i.toNat La)})) (Qj QN (Lw ys i.toNat {lo:=Qe.slo (rf.Qb.getD i.toNat La),hi:=Qe.shi (rf.Qb.getD i.toNat La)})),0+Lb i*2+TypeInfo.size Try.t38<=LR (Qj QN ys)/\splice (Qj QN ys) (0+Lb i*2) (Value.cells (Zc {len:=16000,tr:=Tri.set 14 (Tri.set 14 Tri.lf 23 (.agg #[.int .i64 (Qe.slo (rf.Qb.getD i.toNat La)),.int .i64 (Qe.shi (rf.Qb.getD i.toNat La))])) 24 (.pointer (some {block:=3,off:=0+Lb i*2}))} 23))=Qj QN (Lw ys i.toNat {lo:=Qe.slo (rf.Qb.getD i.toNat La),hi:=Qe.shi (rf.Qb.getD i.toNat La)}),i=(↑i.toNat:Int)/\Lb i<Lc rf.Qb,i=(↑i.toNat:Int)/\Lb i<Lc rf.Qb/\Array.extract (Qj Qf rf.Qb) (Lb i*TypeInfo.size Try.t54) (Lb i*TypeInfo.size Try.t54+TypeInfo.size Try.t54)=(KB (rf.Qb.getD i.toNat La))]):=by kernel_rfl
theorem yg(B:Lo)(rf:Qk)(Qa:List Int)(k:Int)(i:Int)(ys:List Span)(Qr:Nat->Value):CE.landA 8 (Q2 YP (QB YP) J0 B 16 8 (VO (none) 112 27 (([0,1,2,8,9]:List Nat).zip (WQ rf Qa k i ys)) Qr WR) (Wt (WB rf Qa k) 8 (([7,3]:List Nat).zip (WO rf Qa k i ys)) (Z0 rf Qa k i ys)) (8+1+(Z0 rf Qa k i ys).length)
 (lO rf Qa k i ys Qr++[(10,V4),(14,Qu.call (Lv 9) (OO.ret (.bool true)) ([(7,Obj.loop {state:=LoopState.ready,pending:=none,fn:=84,tmps:=(RT rf Qa k),params:=#[14],assign:=J3 (Xt YP 84) [1,1,0,1,0,0],body:=J3 (Xt YP 84) [1,1,0,1,0,1],defers:=6}),(3,Obj.cells (Qj QN (Lw ys i.toNat {lo:=Qe.slo (rf.Qb.getD i.toNat La),hi:=Qe.shi (rf.Qb.getD i.toNat La)})) 38)]++(9,XM)::XJ 10 []) 10 [7,3]),(17,UW (i+1))]) 0 [] []) [0,1,2,8,9] [(7,KS.auto),(3,KS.cells [] (Qj QN (Lw ys i.toNat {lo:=Qe.slo (rf.Qb.getD i.toNat La),hi:=Qe.shi (rf.Qb.getD i.toNat La)})))] [] []=some ⟨112,27,WR,[],.run,none,WQ rf Qa k (i+1) (Lw ys i.toNat {lo:=Qe.slo (rf.Qb.getD i.toNat La),hi:=Qe.shi (rf.Qb.getD i.toNat La)}),([7,3]:List Nat).zip (WO rf Qa k (i+1) (Lw ys i.toNat {lo:=Qe.slo (rf.Qb.getD i.toNat La),hi:=Qe.shi (rf.Qb.getD i.toNat La)})),Z0 rf Qa k (i+1) (Lw ys i.toNat {lo:=Qe.slo (rf.Qb.getD i.toNat La),hi:=Qe.shi (rf.Qb.getD i.toNat La)}),
 [ZG 8 [] (Qj QN (Lw ys i.toNat {lo:=Qe.slo (rf.Qb.getD i.toNat La),hi:=Qe.shi (rf.Qb.getD i.toNat La)})) (Qj QN (Lw ys i.toNat {lo:=Qe.slo (rf.Qb.getD i.toNat La),hi:=Qe.shi (rf.Qb.getD i.toNat La)})),wq (i+1)=i+1,FJ YP B (RU rf Qa k i ys Qr) (YS rf Qa k i ys Qr) 9 (OO.ret (.bool true)) (([(7,Obj.loop {state:=LoopState.ready,pending:=none,fn:=84,tmps:=(RT rf Qa k),params:=#[14],assign:=J3 (Xt YP 84) [1,1,0,1,0,0],body:=J3 (Xt YP 84) [1,1,0,1,0,1],defers:=6}),(3,Obj.cells (Qj QN (Lw ys i.toNat {lo:=Qe.slo (rf.Qb.getD i.toNat La),hi:=Qe.shi (rf.Qb.getD i.toNat La)})) 38)]++((9,XM)::XJ (9+1) []))++YS rf Qa k i ys Qr) 10 (Lv 9) [7,3],Yo (↑(og (↑(Ss (Qs [Qa.getD 0 0,Qa.getD 1 0,Qa.getD 2 0,Qa.getD 3 0] k.toNat) i):Int) 1):Int) 1=true]++cc B rf Qa k i ys Qr⟩:=by kernel_rfl
theorem yf(B:Lo)(rf:Qk)(Qa:List Int)(k:Int)(i:Int)(ys:List Span)(Qr:Nat->Value):CE.landA 8 (Q2 YP (QB YP) J0 B 16 8 (VO (none) 112 27 (([0,1,2,8,9]:List Nat).zip (WQ rf Qa k i ys)) Qr WR) (Wt (WB rf Qa k) 8 (([7,3]:List Nat).zip (WO rf Qa k i ys)) (Z0 rf Qa k i ys)) (8+1+(Z0 rf Qa k i ys).length)
 (lO rf Qa k i ys Qr++[(10,V5),(17,UW (i+1))]) 0 [] []) [0,1,2,8,9] [(7,KS.auto),(3,KS.cells [] (Qj QN ys))] [] []=some ⟨112,27,WR,[],.run,none,WQ rf Qa k (i+1) (ys),([7,3]:List Nat).zip (WO rf Qa k (i+1) (ys)),Z0 rf Qa k (i+1) (ys),
 [ZG 8 [] (Qj QN ys) (Qj QN ys),wq (i+1)=i+1,Yo (↑(og (↑(Ss (Qs [Qa.getD 0 0,Qa.getD 1 0,Qa.getD 2 0,Qa.getD 3 0] k.toNat) i):Int) 1):Int) 1=false]++cc B rf Qa k i ys Qr⟩:=by kernel_rfl
theorem ye(B:Lo)(rf:Qk)(Qa:List Int)(k:Int)(i:Int)(ys:List Span)(Qr:Nat->Value):CE.finK 8 (Q2 YP (QB YP) J0 B 7 8 (VO (none) 112 27 (([0,1,2,8,9]:List Nat).zip (WQ rf Qa k i ys)) Qr WR) (Wt (WB rf Qa k) 8 (([7,3]:List Nat).zip (WO rf Qa k i ys)) (Z0 rf Qa k i ys)) (8+1+(Z0 rf Qa k i ys).length)
 [(0,V5)] 0 [] []) [(7,KS.auto),(3,KS.cells [] (Qj QN ys))] [] []=some (OO.ret (.tuple #[]),[(7,Obj.loop {state:=LoopState.ready,pending:=none,fn:=84,tmps:=#[.agg #[QF 0 (Xq rf.Qb.length (Qj Qf rf.Qb)),.int .i64 rf.miss,.int .i64 rf.seasons,.int .i64 (Qa.getD 0 0),.int .i64 (Qa.getD 1 0),.int .i64 (Qa.getD 2 0),.int .i64 (Qa.getD 3 0)],.int .i64 k,pA 1 0,.tuple #[],.slice none 0 0,pA 4 0,.tuple #[],pA 1 0,pA 1 0,QF 0 (Xq rf.Qb.length (Qj Qf rf.Qb)),.slice (some {block:=3,off:=0}) rf.Qb.length 2,.agg #[QF 0 (Xq rf.Qb.length (Qj Qf rf.Qb)),.int .i64 rf.miss,.int .i64 rf.seasons,.int .i64 (Qa.getD 0 0),.int .i64 (Qa.getD 1 0),.int .i64 (Qa.getD 2 0),.int .i64 (Qa.getD 3 0)],.int .i64 k,Value.func (Fn.func 112) #[] #[QF 5 (Y5 0 #[Xq rf.Qb.length (Qj Qf rf.Qb),.int .i64 rf.miss,.int .i64 rf.seasons,.int .i64 (Qa.getD 0 0),.int .i64 (Qa.getD 1 0),.int .i64 (Qa.getD 2 0),.int .i64 (Qa.getD 3 0)]),QF 5 (Y5 0 #[.int .i64 k])],.tuple #[],.tuple #[],.tuple #[],.tuple #[],.tuple #[],.tuple #[],.tuple #[],.tuple #[],.tuple #[],.tuple #[],.tuple #[],.tuple #[]],params:=#[14],assign:=J3 (Xt YP 84) [1,1,0,1,0,0],body:=J3 (Xt YP 84) [1,1,0,1,0,1],defers:=6}),(3,Obj.cells (Qj QN ys) 38)],[],
 [ZG 8 [] (Qj QN ys) (Qj QN ys),Z7 i (↑rf.Qb.length:Int)=false]):=by kernel_rfl
set_option maxHeartbeats 4000000 in
theorem mP(rf:Qk)(Qa:List Int)(k:Int)(hn:rf.Qb.length<=4)(hl:Qa.length<=4)(k0:0<=k)(k1:k<4)(hp:∀j:Nat,0<=Qa.getD j 0/\Qa.getD j 0<=1000000){B:Lo}(hJ:∀w,B.has w->J0 w):∀m:Nat,(∀(i:Int) (ys:List Span),rf.Qb.length-i.toNat=m->∀(i0:0<=i) (hy:ys=J6 rf.Qb (Qa.getD k.toNat 0) i),(∃Qr:Nat->Value,(∀t,Zf (Qr t))/\GoE YP B (KC rf Qa k) (WB rf Qa k) 8 (VO (none) 112 27 (([0,1,2,8,9]:List Nat).zip (WQ rf Qa k i ys)) Qr WR) (Wt (WB rf Qa k) 8 (([7,3]:List Nat).zip (WO rf Qa k i ys)) (Z0 rf Qa k i ys)) (8+1+(Z0 rf Qa k i ys).length) ([7,3]:List Nat))->FinK YP B (KC rf Qa k) (WB rf Qa k) 8 (.ret (.tuple #[])) (([7,3]:List Nat).zip ([Obj.loop {state:=LoopState.ready,pending:=none,fn:=84,tmps:=#[.agg #[QF 0 (Xq rf.Qb.length (Qj Qf rf.Qb)),.int .i64 rf.miss,.int .i64 rf.seasons,.int .i64 (Qa.getD 0 0),.int .i64 (Qa.getD 1 0),.int .i64 (Qa.getD 2 0),.int .i64 (Qa.getD 3 0)],.int .i64 k,pA 1 0,.tuple #[],.slice none 0 0,pA 4 0,.tuple #[],pA 1 0,pA 1 0,QF 0 (Xq rf.Qb.length (Qj Qf rf.Qb)),.slice (some {block:=3,off:=0}) rf.Qb.length 2,.agg #[QF 0 (Xq rf.Qb.length (Qj Qf rf.Qb)),.int .i64 rf.miss,.int .i64 rf.seasons,.int .i64 (Qa.getD 0 0),.int .i64 (Qa.getD 1 0),.int .i64 (Qa.getD 2 0),.int .i64 (Qa.getD 3 0)],.int .i64 k,Value.func (Fn.func 112) #[] #[QF 5 (Y5 0 #[Xq rf.Qb.length (Qj Qf rf.Qb),.int .i64 rf.miss,.int .i64 rf.seasons,.int .i64 (Qa.getD 0 0),.int .i64 (Qa.getD 1 0),.int .i64 (Qa.getD 2 0),.int .i64 (Qa.getD 3 0)]),QF 5 (Y5 0 #[.int .i64 k])],.tuple #[],.tuple #[],.tuple #[],.tuple #[],.tuple #[],.tuple #[],.tuple #[],.tuple #[],.tuple #[],.tuple #[],.tuple #[],.tuple #[]],params:=#[14],assign:=J3 (Xt YP 84) [1,1,0,1,0,0],body:=J3 (Xt YP 84) [1,1,0,1,0,1],defers:=6},.cells (Qj QN (X6 rf.Qb (Qa.getD k.toNat 0))) 38 (0,0)])) ([]) ([7,3]:List Nat)):=by
 intro m0;induction m0 using LK with
 |_ m0 ih0=>
  intro i ys hm0 i0 hy ⟨Qr,Jn,X7⟩;have hyl:ys.length=rf.Qb.length:=by rw[hy];simp[J6,XR]
  have hpk:=hp k.toNat;have XK:=EY (k:=k.toNat) hl;have Yu:=Eb (n:=Qs [Qa.getD 0 0,Qa.getD 1 0,Qa.getD 2 0,Qa.getD 3 0] k.toNat) (k:=i) (by omega);by_cases q0:(i:Int)<((↑rf.Qb.length:Int))
  ·have UX:Q3 (cc B rf Qa k i ys Qr):=by
    exact⟨(D5 (by omega) (by omega) (by omega) (by omega)),⟨(D4 (by omega) (by omega) (by omega)),⟨⟨by omega,by omega,Cj (fs:=[Qa.getD 0 0,Qa.getD 1 0,Qa.getD 2 0,Qa.getD 3 0]) rfl (LN (m:=4) (by omega) rfl)⟩,⟨(Z3 q0),trivial⟩⟩⟩⟩
   by_cases q1:((↑(og (↑(Ss (Qs [Qa.getD 0 0,Qa.getD 1 0,Qa.getD 2 0,Qa.getD 3 0] k.toNat) i):Int) 1):Int):Int)=(1)
   ·have rj3:FJ YP B (RU rf Qa k i ys Qr) (YS rf Qa k i ys Qr) 9 (OO.ret (.bool true)) (([(7,Obj.loop {state:=LoopState.ready,pending:=none,fn:=84,tmps:=#[.agg #[QF 0 (Xq rf.Qb.length (Qj Qf rf.Qb)),.int .i64 rf.miss,.int .i64 rf.seasons,.int .i64 (Qa.getD 0 0),.int .i64 (Qa.getD 1 0),.int .i64 (Qa.getD 2 0),.int .i64 (Qa.getD 3 0)],.int .i64 k,pA 1 0,.tuple #[],.slice none 0 0,pA 4 0,.tuple #[],pA 1 0,pA 1 0,QF 0 (Xq rf.Qb.length (Qj Qf rf.Qb)),.slice (some {block:=3,off:=0}) rf.Qb.length 2,.agg #[QF 0 (Xq rf.Qb.length (Qj Qf rf.Qb)),.int .i64 rf.miss,.int .i64 rf.seasons,.int .i64 (Qa.getD 0 0),.int .i64 (Qa.getD 1 0),.int .i64 (Qa.getD 2 0),.int .i64 (Qa.getD 3 0)],.int .i64 k,Value.func (Fn.func 112) #[] #[QF 5 (Y5 0 #[Xq rf.Qb.length (Qj Qf rf.Qb),.int .i64 rf.miss,.int .i64 rf.seasons,.int .i64 (Qa.getD 0 0),.int .i64 (Qa.getD 1 0),.int .i64 (Qa.getD 2 0),.int .i64 (Qa.getD 3 0)]),QF 5 (Y5 0 #[.int .i64 k])],.tuple #[],.tuple #[],.tuple #[],.tuple #[],.tuple #[],.tuple #[],.tuple #[],.tuple #[],.tuple #[],.tuple #[],.tuple #[],.tuple #[]],params:=#[14],assign:=J3 (Xt YP 84) [1,1,0,1,0,0],body:=J3 (Xt YP 84) [1,1,0,1,0,1],defers:=6}),(3,Obj.cells (Qj QN (Lw ys i.toNat {lo:=Qe.slo (rf.Qb.getD i.toNat La),hi:=Qe.shi (rf.Qb.getD i.toNat La)})) 38)]++((9,XM)::XJ (9+1) []))++YS rf Qa k i ys Qr) 10 (Lv 9) [7,3]:=by
     have hyes:=fK (ps:=rf.Qb) (p:=Qa.getD k.toNat 0) i0 q0 (by rw[<-mH,<-XK];exact decide_eq_true q1);exact FinK.fjB (GoE.finK okF hJ Qi (Xd (by kernel_rfl)) (QX (by kernel_rfl)) ((GoE.refl (P:=YP) (B:=B) (c0:=RU rf Qa k i ys Qr) (Xd (by kernel_rfl))).widen (Wf:=((([(7,KS.auto),(3,KS.cells [] (Qj QN (Lw ys i.toNat {lo:=Qe.slo (rf.Qb.getD i.toNat La),hi:=Qe.shi (rf.Qb.getD i.toNat La)})))]):List (Nat×KS)).map (·.1))) (by simp) (QX (by kernel_rfl))) (yh B rf Qa k i ys Qr)
      ⟨(Xk (Xr (fun x=>List.all_eq_true.1 (by rfl)))),⟨(by exact KM (z:=2) (k:=Lb i) (fun _=>rfl) (by first|omega|(rw[Lf];omega)|(rw[Lh];omega)) rfl rfl),⟨⟨by omega,by omega⟩,⟨⟨by omega,by omega,(QW (z:=12) (fun _=>rfl) (by omega))⟩,trivial⟩⟩⟩⟩) (ex:=[3]) (by kernel_rfl) ⟨trivial,⟨(Yc (t:=38) (fl:=(0,0)) (fun x=>List.all_eq_true.1 (by rfl))),⟨trivial,⟨trivial,⟨trivial,⟨trivial,⟨trivial,⟨trivial,⟨(Yc (t:=38) (fl:=(0,0)) (fun x=>List.all_eq_true.1 (by rfl))),⟨trivial,⟨trivial,trivial⟩⟩⟩⟩⟩⟩⟩⟩⟩⟩⟩
    have hyes:=fK (ps:=rf.Qb) (p:=Qa.getD k.toNat 0) i0 q0 (by rw[<-mH,<-XK];exact decide_eq_true q1);exact((ih0 _ (by omega)) (i+1) (Lw ys i.toNat {lo:=Qe.slo (rf.Qb.getD i.toNat La),hi:=Qe.shi (rf.Qb.getD i.toNat La)}) rfl (by omega) (by(rw[hy];exact hyes))
     (GoE.landA okF hJ Qi (Xd (by kernel_rfl)) (QX (by kernel_rfl)) X7 (yg B rf Qa k i ys Qr)
     (by exact⟨(Xk (Xr (fun x=>List.all_eq_true.1 (by rfl)))),⟨(XX (by omega) (by omega)),⟨rj3,⟨(az q1),UX⟩⟩⟩⟩) (by kernel_rfl) (by kernel_rfl) (fun l hl=>by cases hl <;> decide))).cast (by rfl) (by rfl) (by rfl)
   ·have hno:=xO (ps:=rf.Qb) (p:=Qa.getD k.toNat 0) i0 (by rw[<-mH,<-XK];exact decide_eq_false q1);exact((ih0 _ (by omega)) (i+1) (ys) rfl (by omega) (by(rw[hy];exact hno))
     (GoE.landA okF hJ Qi (Xd (by kernel_rfl)) (QX (by kernel_rfl)) X7 (yf B rf Qa k i ys Qr)
     ⟨(Xk (Xr (fun x=>List.all_eq_true.1 (by rfl)))),⟨(XX (by omega) (by omega)),⟨(a6 q1),UX⟩⟩⟩ (by kernel_rfl) (by kernel_rfl) (fun l hl=>by cases hl <;> decide))).cast (by rfl) (by rfl) (by rfl)
  ·exact(GoE.finK okF hJ Qi (Xd (by kernel_rfl)) (QX (by kernel_rfl)) X7 (ye B rf Qa k i ys Qr)
    ⟨(Xk (Xr (fun x=>List.all_eq_true.1 (by rfl)))),⟨(Z4 (Int.not_lt.1 q0)),trivial⟩⟩).cast (by rfl) (by(rw[hy,sC (by omega)];rfl)) (by rfl)

theorem yi(B:Lo)(rf:Qk)(Qa:List Int)(k:Int):CE.landA 8 (Q2 YP (QB YP) J0 B 4 8 (KC rf Qa k) (WB rf Qa k) 8
 [] 0 [] []) [0,1,2,8,9] [(7,KS.auto),(3,KS.cells [] (Qj QN (List.map Wm rf.Qb)))] [] []=some ⟨112,27,WR,[],.run,none,WQ rf Qa k (0) (List.map Wm rf.Qb),([7,3]:List Nat).zip (WO rf Qa k (0) (List.map Wm rf.Qb)),Z0 rf Qa k (0) (List.map Wm rf.Qb),
 [ZG 8 [] (Qj QN (List.map Wm rf.Qb)) (Qj QN (List.map Wm rf.Qb))]⟩:=by kernel_rfl
theorem sL(B:Lo)(rf:Qk)(Qa:List Int)(k:Int):QS (Q2 YP (QB YP) J0 B 16 1 (Q9 YP 84 26 (([.agg (QY rf Qa).toArray,.int .i64 k]).map (QG 0 4))) ZH 1
 [(5,Qu.call (Lv 2) (OO.ret (.slice (some {block:=3,off:=0}) rf.Qb.length 2)) ([]++(2,XM)::XJ 3 [Obj.cells (Qj QN (List.map Wm rf.Qb)) 38]) 4 []),(10,Qu.call (Lv 5) (OO.ret (Value.func (Fn.func 112) #[] #[QF 5 (Y5 0 (YQ rf Qa)),QF 5 (Y5 0 #[.int .i64 k])])) ([]++(5,XM)::XJ 6 []) 6 []),(11,Qu.call (Lv 8) (OO.ret (.tuple #[])) ([(7,Obj.loop {state:=LoopState.ready,pending:=none,fn:=84,tmps:=(RT rf Qa k),params:=#[14],assign:=J3 (Xt YP 84) [1,1,0,1,0,0],body:=J3 (Xt YP 84) [1,1,0,1,0,1],defers:=6}),(3,Obj.cells (Qj QN (X6 rf.Qb (Qa.getD k.toNat 0))) 38)]++(8,XM)::XJ 9 []) 9 [7,3])] 0 [] []) [{k:=3,rs:=[],cs:=Qj QN (X6 rf.Qb (Qa.getD k.toNat 0))}]=some (Xq rf.Qb.length (Fz.cs {k:=3,rs:=[],cs:=Qj QN (X6 rf.Qb (Qa.getD k.toNat 0))}),
 [QC (Fz.rs {k:=3,rs:=[],cs:=Qj QN (X6 rf.Qb (Qa.getD k.toNat 0))}) (Qj QN (X6 rf.Qb (Qa.getD k.toNat 0))) (Fz.cs {k:=3,rs:=[],cs:=Qj QN (X6 rf.Qb (Qa.getD k.toNat 0))}),FJ YP B (KC rf Qa k) (WB rf Qa k) 8 (OO.ret (.tuple #[])) (([(7,Obj.loop {state:=LoopState.ready,pending:=none,fn:=84,tmps:=(RT rf Qa k),params:=#[14],assign:=J3 (Xt YP 84) [1,1,0,1,0,0],body:=J3 (Xt YP 84) [1,1,0,1,0,1],defers:=6}),(3,Obj.cells (Qj QN (X6 rf.Qb (Qa.getD k.toNat 0))) 38)]++((8,XM)::XJ (8+1) []))++WB rf Qa k) 9 (Lv 8) [7,3],FJ YP B (RV rf Qa k) (YT rf Qa k) 5 (OO.ret (Value.func (Fn.func 112) #[] #[QF 5 (Y5 0 (YQ rf Qa)),QF 5 (Y5 0 #[.int .i64 k])])) (([]++((5,XM)::XJ (5+1) []))++YT rf Qa k) 6 (Lv 5) [],FJ YP B (KD rf Qa k) (Vd rf Qa k) 2 (OO.ret (.slice (some {block:=3,off:=0}) rf.Qb.length 2)) (([]++((2,XM)::XJ (2+1) [Obj.cells (Qj QN (List.map Wm rf.Qb)) 38]))++Vd rf Qa k) 4 (Lv 2) []]):=by kernel_rfl
set_option maxHeartbeats 4000000 in
theorem AJ(rf:Qk)(Qa:List Int)(k:Int)(hn:rf.Qb.length<=4)(hl:Qa.length<=4)(k0:0<=k)(k1:k<4)(hp:∀j:Nat,0<=Qa.getD j 0/\Qa.getD j 0<=1000000){B:Lo}(hJ:∀w,B.has w->J0 w):EndsT YP B (Q9 YP 84 26 (([.agg (QY rf Qa).toArray,.int .i64 k]).map (QG 0 4))) (Y3 (X6 rf.Qb (Qa.getD k.toNat 0))):=by
 have rj0:FJ YP B (KD rf Qa k) (Vd rf Qa k) 2 (OO.ret (.slice (some {block:=3,off:=0}) rf.Qb.length 2)) (([]++((2,XM)::XJ (2+1) [Obj.cells (Qj QN (List.map Wm rf.Qb)) 38]))++Vd rf Qa k) 4 (Lv 2) []:=by
  exact FinK.fjB ((mQ rf Qa k hn hl k0 k1 hp hJ _) (0) (Li rf.Qb.length {lo:=0,hi:=0}) rfl (by omega) (by exact a9)
   (GoE.landA okF hJ Qi (Xd (by kernel_rfl)) (QX (by kernel_rfl)) ((GoE.refl (P:=YP) (B:=B) (c0:=KD rf Qa k) (Xd (by kernel_rfl))).widen (Wf:=((([]):List (Nat×KS)).map (·.1))) (by simp) (QX (by kernel_rfl))) (yo B rf Qa k)
   ⟨(by exact(V0 (by exact⟨(.simple rfl),⟨(.simple rfl),trivial⟩⟩) _)),⟨(cE (bytes:=16) (by kernel_rfl) (by omega) (by omega) (by omega)),trivial⟩⟩ (by kernel_rfl) (by kernel_rfl) (fun l hl=>by cases hl <;> decide))) (ex:=[]) (by kernel_rfl) (PH _)
 have rj1:FJ YP B (RV rf Qa k) (YT rf Qa k) 5 (OO.ret (Value.func (Fn.func 112) #[] #[QF 5 (Y5 0 #[Xq rf.Qb.length (Qj Qf rf.Qb),.int .i64 rf.miss,.int .i64 rf.seasons,.int .i64 (Qa.getD 0 0),.int .i64 (Qa.getD 1 0),.int .i64 (Qa.getD 2 0),.int .i64 (Qa.getD 3 0)]),QF 5 (Y5 0 #[.int .i64 k])])) (([]++((5,XM)::XJ (5+1) []))++YT rf Qa k) 6 (Lv 5) []:=by
  exact FinK.fjB (GoE.finK okF hJ Qi (Xd (by kernel_rfl)) (QX (by kernel_rfl)) ((GoE.refl (P:=YP) (B:=B) (c0:=RV rf Qa k) (Xd (by kernel_rfl))).widen (Wf:=((([]):List (Nat×KS)).map (·.1))) (by simp) (QX (by kernel_rfl))) (yj B rf Qa k)
   ⟨(zw (by kernel_rfl)),⟨(Sz (by kernel_rfl)),trivial⟩⟩) (ex:=[3]) (by kernel_rfl) ⟨trivial,⟨trivial,⟨(Yc (t:=38) (fl:=(0,0)) (fun x=>List.all_eq_true.1 (by rfl))),⟨trivial,⟨trivial,trivial⟩⟩⟩⟩⟩
 have rj2:FJ YP B (KC rf Qa k) (WB rf Qa k) 8 (OO.ret (.tuple #[])) (([(7,Obj.loop {state:=LoopState.ready,pending:=none,fn:=84,tmps:=#[.agg #[QF 0 (Xq rf.Qb.length (Qj Qf rf.Qb)),.int .i64 rf.miss,.int .i64 rf.seasons,.int .i64 (Qa.getD 0 0),.int .i64 (Qa.getD 1 0),.int .i64 (Qa.getD 2 0),.int .i64 (Qa.getD 3 0)],.int .i64 k,pA 1 0,.tuple #[],.slice none 0 0,pA 4 0,.tuple #[],pA 1 0,pA 1 0,QF 0 (Xq rf.Qb.length (Qj Qf rf.Qb)),.slice (some {block:=3,off:=0}) rf.Qb.length 2,.agg #[QF 0 (Xq rf.Qb.length (Qj Qf rf.Qb)),.int .i64 rf.miss,.int .i64 rf.seasons,.int .i64 (Qa.getD 0 0),.int .i64 (Qa.getD 1 0),.int .i64 (Qa.getD 2 0),.int .i64 (Qa.getD 3 0)],.int .i64 k,Value.func (Fn.func 112) #[] #[QF 5 (Y5 0 #[Xq rf.Qb.length (Qj Qf rf.Qb),.int .i64 rf.miss,.int .i64 rf.seasons,.int .i64 (Qa.getD 0 0),.int .i64 (Qa.getD 1 0),.int .i64 (Qa.getD 2 0),.int .i64 (Qa.getD 3 0)]),QF 5 (Y5 0 #[.int .i64 k])],.tuple #[],.tuple #[],.tuple #[],.tuple #[],.tuple #[],.tuple #[],.tuple #[],.tuple #[],.tuple #[],.tuple #[],.tuple #[],.tuple #[]],params:=#[14],assign:=J3 (Xt YP 84) [1,1,0,1,0,0],body:=J3 (Xt YP 84) [1,1,0,1,0,1],defers:=6}),(3,Obj.cells (Qj QN (X6 rf.Qb (Qa.getD k.toNat 0))) 38)]++((8,XM)::XJ (8+1) []))++WB rf Qa k) 9 (Lv 8) [7,3]:=by
  exact FinK.fjB ((mP rf Qa k hn hl k0 k1 hp hJ _) (0) (List.map Wm rf.Qb) rfl (by omega) (by exact zU)
   (GoE.landA okF hJ Qi (Xd (by kernel_rfl)) (QX (by kernel_rfl)) ((GoE.refl (P:=YP) (B:=B) (c0:=KC rf Qa k) (Xd (by kernel_rfl))).widen (Wf:=((([(7,KS.auto),(3,KS.cells [] (Qj QN (List.map Wm rf.Qb)))]):List (Nat×KS)).map (·.1))) (by simp) (QX (by kernel_rfl))) (yi B rf Qa k)
   ⟨(Xk (Xr (fun x=>List.all_eq_true.1 (by rfl)))),trivial⟩ (by kernel_rfl) (by kernel_rfl) (fun l hl=>by cases hl <;> decide))) (ex:=[3]) (by kernel_rfl) ⟨trivial,⟨trivial,⟨trivial,⟨trivial,⟨trivial,⟨(Yc (t:=38) (fl:=(0,0)) (fun x=>List.all_eq_true.1 (by rfl))),⟨trivial,⟨trivial,trivial⟩⟩⟩⟩⟩⟩⟩⟩
 exact(GoE.endsT okF hJ Qi GoE.start (sL B rf Qa k)
  ⟨(Qv (fun x=>List.all_eq_true.1 (by rfl))),⟨rj2,⟨rj1,⟨rj0,trivial⟩⟩⟩⟩).cast (by exact Tx rfl (by rw[X6,XR];omega))
theorem AK(rf:Qk)(Qa:List Int)(k:Int)(hn:rf.Qb.length<=4)(hl:Qa.length<=4)(k0:0<=k)(k1:k<4)(hp:∀j:Nat,0<=Qa.getD j 0/\Qa.getD j 0<=1000000):Qz YP J0 84 #[.agg (QY rf Qa).toArray,.int .i64 k] (Y3 (X6 rf.Qb (Qa.getD k.toNat 0))):=
 X8 (ts:=[.agg (QY rf Qa).toArray,.int .i64 k]) ZC (c0:=Q9 YP 84 26 (([.agg (QY rf Qa).toArray,.int .i64 k]).map (QG 0 4))) (by kernel_rfl) (by kernel_rfl) fun B hJ=>AJ rf Qa k hn hl k0 k1 hp hJ
end
end Go.Proofs.Ytncjjangllkokaa

namespace Go.Proofs.Ytncjjangllkokaa
open Go Go.CE Go.RowKit
def Zy(a b:Int)(g:Int->Int):Int:=oE ((fF a b).map g)
theorem VI{a b:Int}{g:Int->Int}(h:b<=a):Zy a b g=0:=by
 unfold Zy;rw[vh h];rfl
theorem oD:∀(l m:List Int),oE (l++m)=oE l+oE m
 |[],m=>by simp[oE]
 |x::l,m=>by simp only[List.cons_append,oE,oD l m];omega
theorem ZE{i:Int}{g:Int->Int}(h:0<=i):Zy 0 (i+1) g=Zy 0 i g+g i:=by
 have e:fF 0 (i+1)=fF 0 i++[i]:=by
  unfold fF;rw[show(i+1-0).toNat=(i-0).toNat+1 by omega,List.range_succ,List.map_append];congr 1;simp;omega
 unfold Zy;rw[e,List.map_append,oD];simp[oE]
theorem RK{g:Int->Int}{K:Int}:∀(k:Nat),(∀m:Int,0<=m->m<k->0<=g m/\g m<=K)->0<=Zy 0 k g/\Zy 0 k g<=K*k
 |0,_=>by rw[VI (by omega)];omega
 |k+1,h=>by
  have ih:=RK k fun m h0 h1=>h m h0 (by omega)
  have h2:=h k (by omega) (by omega);rw[show((k+1:Nat):Int)=(k:Int)+1 by omega,ZE (by omega),Int.mul_add,Int.mul_one];omega
structure F4 where
 a:Int
 b:Int
 c:Int
 d:Int
deriving Inhabited
def F4.at(f:F4)(k:Int):Int:=Qs [f.a,f.b,f.c,f.d] k.toNat
def F4.sum(f:F4):Int:=f.a+f.b+f.c+f.d
def sD(g:Int->Int):F4:=⟨g 0,g 1,g 2,g 3⟩
theorem Ta{i:Int}(h0:0<=i)(h:i<4):i=0\/i=1\/i=2\/i=3:=by omega
theorem RI{g:Int->Int}{k:Int}(h0:0<=k)(h:k<4):(sD g).at k=g k:=by
 rcases Ta h0 h with rfl|rfl|rfl|rfl <;> rfl
def Yn(f:F4):Prop:=(0<=f.a/\0<=f.b/\0<=f.c/\0<=f.d)/\f.sum<=100000000000
theorem Kv{f:F4}(hf:Yn f){i:Int}(h0:0<=i)(h:i<4):0<=f.at i/\f.at i<=f.sum/\f.sum<=100000000000:=by
 obtain⟨⟨h1,h2,h3,h4⟩,h5⟩:=hf;have e:f.sum=f.a+f.b+f.c+f.d:=rfl;have h5':=h5;rw[e]at h5' ⊢;rcases Ta h0 h with rfl|rfl|rfl|rfl
 ·have:f.at 0=f.a:=rfl;omega
 ·have:f.at 1=f.b:=rfl;omega
 ·have:f.at 2=f.c:=rfl;omega
 ·have:f.at 3=f.d:=rfl;omega
abbrev Uw(ps:List Qe)(k:Int):Qe:=ps.getD k.toNat La
abbrev nth(xs:List Int)(k:Int):Int:=xs.getD k.toNat La
def KX(ps:List Qe):Prop:=ps.length<=4/\∀k:Int,0<=k->k<ps.length->(0<=(Uw ps k).room/\(Uw ps k).room<=1000000)/\(0<=(Uw ps k).drift/\(Uw ps k).drift<=1000)/\Kt ps.length (Uw ps k).into=true/\(Uw ps k).into≠k
def VF(n:Nat)(xs:List Int)(m:Int):Prop:=xs.length=n/\∀k:Int,0<=k->k<n->0<=nth xs k/\nth xs k<=m
def Wi(gs:List Int)(ps:List Qe)(f:F4)(k:Int):Int:=jL (Uw ps k).room (f.at k) (nth gs k)
def Xm(gs:List Int)(ps:List Qe)(f:F4)(i j:Int):Int:=if j<i then f.at j+Wi gs ps f j else f.at j
def mj(gs:List Int)(ps:List Qe)(f:F4):F4:=sD (Xm gs ps f ps.length)
def Wz(ps:List Qe)(b:F4)(k:Int):Int:=(b.at k*(Uw ps k).drift).tdiv 1000
def Wk(ps:List Qe)(b:F4)(i j:Int):Int:=b.at j-(if j<i then Wz ps b j else 0)+Zy 0 i (fun m=>if(Uw ps m).into=j then Wz ps b m else 0)
def vI(ps:List Qe)(b:F4):F4:=sD (Wk ps b ps.length)
def Wy(ps:List Qe)(b:F4)(j:Int):Int:=if(Uw ps j).into= -1 then Wz ps b j else 0
def WA(ts:List Int)(b:F4)(k:Int):Int:=if nth ts k<b.at k then nth ts k else b.at k
def J5(ts:List Int)(b:F4)(i j:Int):Int:=if j<i then b.at j-WA ts b j else b.at j
def Co(ts:List Int)(ps:List Qe)(b:F4):F4:=sD (J5 ts b ps.length)
def QT(gs ts:List Int)(ps:List Qe)(f:F4):F4:=Co ts ps (vI ps (mj gs ps f))
theorem Tv{g:Int->Int}{i:Int}(h0:0<=i)(h:i<4):Qs [g 0,g 1,g 2,g 3] i.toNat=g i:=by
 rcases Ta h0 h with rfl|rfl|rfl|rfl <;> rfl
theorem EA{gs:List Int}{ps:List Qe}{f:F4}{i:Int}:Xm gs ps f i i=f.at i:=by
 unfold Xm;rw[if_neg (by omega)]
theorem B8{gs:List Int}{ps:List Qe}{f:F4}{i:Int}{j:Nat}:(if i.toNat=j then f.at i+Wi gs ps f i else Xm gs ps f i j)=Xm gs ps f (i+1) j\/i<0:=by
 by_cases h0:0<=i
 ·refine .inl ?_;unfold Xm;by_cases h:i.toNat=j
  ·have e1:i=(j:Int):=by omega
   rw[if_pos h,if_pos (by omega),e1]
  ·rw[if_neg h];by_cases h2:(j:Int)<i
   ·rw[if_pos h2,if_pos (by omega)]
   ·rw[if_neg h2,if_neg (by omega)]
 ·exact .inr (by omega)
theorem eQ{gs:List Int}{ps:List Qe}{f:F4}{i:Int}{j:Nat}(h0:0<=i):(if i.toNat=j then f.at i+Wi gs ps f i else Xm gs ps f i j)=Xm gs ps f (i+1) j:=B8.resolve_right (by omega)
theorem Cc{room s t:Int}{w:Int}(ht:t=w.tdiv 1000)(h:0<=t):(if(if room-s > 0 then room-s else 0)<t then(if room-s > 0 then room-s else 0)else t)=if room<=s then 0 else if t<room-s then t else room-s:=by
 by_cases h1:room<=s
 ·rw[if_pos h1,if_neg (show ¬room-s > 0 by omega)];by_cases h2:0<t
  ·rw[if_pos h2]
  ·rw[if_neg h2];omega
 ·rw[if_neg h1,if_pos (show room-s > 0 by omega)];by_cases h2:room-s<t
  ·rw[if_pos h2,if_neg (by omega)]
  ·by_cases h3:t<room-s
   ·rw[if_neg h2,if_pos h3]
   ·rw[if_neg h2,if_neg h3];omega
theorem nX{gs:List Int}{ps:List Qe}{f:F4}{i:Int}(hp:KX ps)(hg:VF ps.length gs 2000)(hf:Yn f)(h0:0<=i)(h:i<ps.length):0<=Wi gs ps f i/\Wi gs ps f i<=1000000:=by
 have h1:=hp.2 i h0 h;have h2:=hg.2 i h0 h;have ha:=Kv hf h0 (by have:=hp.1;omega);have hm:=cr (a:=f.at i) (r:=nth gs i) (by omega) (by omega);unfold Wi jL;split
 ·omega
 ·split <;> omega
theorem Jq{ps:List Qe}{b:F4}{i j:Int}(h:0<=i):Wk ps b (i+1) j=Wk ps b i j-(if j=i then Wz ps b i else 0)+(if(Uw ps i).into=j then Wz ps b i else 0):=by
 unfold Wk;rw[ZE h];by_cases e:j=i
 ·subst e;rw[if_pos (show j<j+1 by omega),if_neg (show ¬j<j by omega),if_pos rfl];omega
 ·rw[if_neg e];by_cases e2:j<i
  ·rw[if_pos e2,if_pos (by omega)];omega
  ·rw[if_neg e2,if_neg (by omega)];omega
theorem dB{ps:List Qe}{b:F4}{j:Int}(h:0<=j):Wk ps b 0 j=b.at j:=by
 unfold Wk;rw[if_neg (by omega),VI (by omega)];omega
theorem Ea{ts:List Int}{b:F4}{i:Int}:J5 ts b i i=b.at i:=by
 unfold J5;rw[if_neg (by omega)]
theorem eE{ts:List Int}{b:F4}{i:Int}{j:Nat}(h0:0<=i):(if i.toNat=j then b.at i-WA ts b i else J5 ts b i j)=J5 ts b (i+1) j:=by
 unfold J5;by_cases h:i.toNat=j
 ·have e1:i=(j:Int):=by omega
  rw[if_pos h,if_pos (by omega),e1]
 ·rw[if_neg h];by_cases h2:(j:Int)<i
  ·rw[if_pos h2,if_pos (by omega)]
  ·rw[if_neg h2,if_neg (by omega)]
theorem eX{ps:List Qe}{b:F4}{i:Int}{j:Nat}(h0:0<=i)(h:(Uw ps i).into= -1):(if i.toNat=j then Wk ps b i i-Wz ps b i else Wk ps b i j)=Wk ps b (i+1) j:=by
 rw[Jq h0,h,if_neg (show ¬(-1:Int)=(j:Int)by omega)];by_cases h1:i.toNat=j
 ·have e1:i=(j:Int):=by omega
  rw[if_pos h1,if_pos (by omega),e1];omega
 ·rw[if_neg h1,if_neg (by omega)];omega
theorem eY{ps:List Qe}{b:F4}{i v:Int}{j:Nat}(h0:0<=i)(hv:(Uw ps i).into=v)(v0:0<=v)(hn:v≠i):(if v.toNat=j then Wk ps b i v+Wz ps b i else if i.toNat=j then Wk ps b i i-Wz ps b i else Wk ps b i j)=Wk ps b (i+1) j:=by
 rw[Jq h0,hv];by_cases h1:v.toNat=j
 ·have e1:v=(j:Int):=by omega
  rw[if_pos h1,if_neg (show ¬(j:Int)=i by omega),if_pos e1,e1];omega
 ·rw[if_neg h1,if_neg (show ¬v=(j:Int)by omega)];by_cases h2:i.toNat=j
  ·have e1:i=(j:Int):=by omega
   rw[if_pos h2,if_pos (by omega),e1];omega
  ·rw[if_neg h2,if_neg (by omega)];omega
theorem Sq{ps:List Qe}{b:F4}{i:Int}(hp:KX ps)(hf:Yn b)(h0:0<=i)(h:i<ps.length):0<=Wz ps b i/\Wz ps b i<=b.at i:=by
 have h1:=hp.2 i h0 h;have ha:=Kv hf h0 (by have:=hp.1;omega);have e0:0<=b.at i*(Uw ps i).drift:=Int.mul_nonneg ha.1 h1.2.1.1;have e1:b.at i*(Uw ps i).drift<=b.at i*1000:=LU h1.2.1.2 ha.1;have e2:(b.at i*(Uw ps i).drift).tdiv 1000=(b.at i*(Uw ps i).drift) / 1000:=LM e0;unfold Wz;rw[e2];omega
theorem PO{ps:List Qe}{b:F4}{i j:Int}(hp:KX ps)(hf:Yn b)(h0:0<=i)(h:i<=ps.length)(j0:0<=j)(j1:j<4):0<=Wk ps b i j/\Wk ps b i j<=500000000000:=by
 have ha:=Kv hf j0 j1;have hs:=RK (g:=fun m=>if(Uw ps m).into=j then Wz ps b m else 0) (K:=100000000000) i.toNat fun m m0 m1=>by
  have h9:=hp.1;have:=Sq hp hf (i:=m) m0 (by omega);have hm:=Kv hf (i:=m) m0 (by omega);split <;> omega
 rw[show((i.toNat:Nat):Int)=i by omega]at hs;have h4:=hp.1;unfold Wk;split
 ·have:=Sq hp hf j0 (by omega);omega
 ·omega
theorem fL{ts:List Int}{b:F4}{n:Nat}{m i:Int}(ht:VF n ts m)(hf:Yn b)(h0:0<=i)(h:i<n)(h4:n<=4):0<=WA ts b i/\WA ts b i<=b.at i/\WA ts b i<=m:=by
 have ha:=Kv hf h0 (by omega);have h1:=ht.2 i h0 h;unfold WA;split <;> omega
theorem vE{gs:List Int}{ps:List Qe}{f:F4}{i j:Int}(hp:KX ps)(hg:VF ps.length gs 2000)(hf:Yn f)(h:i<=ps.length)(j0:0<=j)(j1:j<4):0<=Xm gs ps f i j/\Xm gs ps f i j<=f.at j+1000000:=by
 have ha:=Kv hf j0 j1;unfold Xm;split
 ·have:=nX hp hg hf j0 (show j<ps.length by omega);omega
 ·omega
theorem B7{gs:List Int}{ps:List Qe}{f:F4}(hp:KX ps)(hg:VF ps.length gs 2000)(hf:Yn f):(0<=(mj gs ps f).a/\0<=(mj gs ps f).b/\0<=(mj gs ps f).c/\0<=(mj gs ps f).d)/\(mj gs ps f).sum<=f.sum+4000000:=by
 have h0:=vE hp hg hf (LL _) (j:=0) (by omega) (by omega);have h1:=vE hp hg hf (LL _) (j:=1) (by omega) (by omega);have h2:=vE hp hg hf (LL _) (j:=2) (by omega) (by omega);have h3:=vE hp hg hf (LL _) (j:=3) (by omega) (by omega);refine⟨⟨h0.1,h1.1,h2.1,h3.1⟩, ?_⟩;show Xm gs ps f ps.length 0+Xm gs ps f ps.length 1+Xm gs ps f ps.length 2+Xm gs ps f ps.length 3<=f.a+f.b+f.c+f.d+4000000;have e0:f.at 0=f.a:=rfl;have e1:f.at 1=f.b:=rfl;have e2:f.at 2=f.c:=rfl;have e3:f.at 3=f.d:=rfl;omega
def ES(ps:List Qe)(b:F4)(i:Int):Int:=Wk ps b i 0+Wk ps b i 1+Wk ps b i 2+Wk ps b i 3
theorem BM{ps:List Qe}{b:F4}{i:Int}(hp:KX ps)(h0:0<=i)(h:i<ps.length):ES ps b (i+1)=ES ps b i-Wy ps b i:=by
 have h1:=hp.1;have h2:=(hp.2 i h0 h).2.2.1;unfold ES Wy;rw[Jq h0,Jq h0,Jq h0,Jq h0];simp only[Kt,Bool.or_eq_true,decide_eq_true_iff,Ky]at h2;generalize (Uw ps i).into=v at *;generalize Wz ps b i=w at *;have hi:=Ta h0 (show i<4 by omega);by_cases hv:v= -1
 ·subst hv;rcases hi with rfl|rfl|rfl|rfl <;> simp <;> omega
 ·have ZK:=Ta (show 0<=v by omega) (show v<4 by omega);rcases hi with rfl|rfl|rfl|rfl <;> rcases ZK with rfl|rfl|rfl|rfl <;> simp <;> omega
theorem vH{ps:List Qe}{b:F4}(hp:KX ps):∀k:Nat,k<=ps.length->ES ps b k=b.sum-Zy 0 k (Wy ps b)
 |0,_=>by
  rw[show((0:Nat):Int)=0 from rfl,VI (by omega)];unfold ES;rw[dB (by omega),dB (by omega),dB (by omega),dB (by omega)];have e:b.sum=b.at 0+b.at 1+b.at 2+b.at 3:=rfl;omega
 |k+1,h=>by
  rw[show((k+1:Nat):Int)=(k:Int)+1 by omega,BM hp (by omega) (by omega),vH hp k (by omega),ZE (by omega)];omega
end Go.Proofs.Ytncjjangllkokaa
