/- Reef: Short. -/
import Derived.Test.YtncjjangllkokaaZRC17
import Derived.Test.YtncjjangllkokaaZRC16
set_option linter.all false
open List renaming getD_eq_getElem?_getD->MU,range->MP,length->MO,length_append->NH,length_cons->NF,getElem?_eq_none->Nf
open Int renaming toNat->MM,tdiv_eq_ediv_of_nonneg->ND,le_refl->Nx
open Nat renaming strongRecOn->No,lt_of_lt_of_eq->NA
open Array renaming extract->Nu
open List.Mem renaming head->NC
open Inhabited renaming default->ML
namespace Go.Proofs.Ytncjjangllkokaa
open Go Go.CE Go.RowKit
noncomputable section
set_option maxRecDepth 100000
def rJ(rf:Qe)(Qb:List Int)(es:List (F4×F4))(k:Int):OO:=.ret (.agg #[.int .i64 (Qz rf Qb k.toNat).a,.int .i64 (Qz rf Qb k.toNat).b,.int .i64 (Qz rf Qb k.toNat).c,.int .i64 (Qz rf Qb k.toNat).d])
def rI(rf:Qe)(Qb:List Int)(es:List (F4×F4))(k:Int):List Obj:=[.map (mapA Q7 (Xl rf Qb k.toNat es)) (Xl rf Qb k.toNat es).length]
def rK(rf:Qe)(Qb:List Int)(es:List (F4×F4))(k:Int):List Obj:=[]
def GM(rf:Qe)(Qb:List Int)(es:List (F4×F4))(k:Int):Prop:=WriC YP J0 89 #[.agg #[Qv 0 (Kj rf.Qa),.int .i64 rf.Qk,.int .i64 rf.Qc,.map (some 1)],.agg #[.int .i64 (Qb.getD 0 0),.int .i64 (Qb.getD 1 0),.int .i64 (Qb.getD 2 0),.int .i64 (Qb.getD 3 0)],.int .i64 k] [.map (mapA Q7 es) es.length] (rJ rf Qb es k) (rI rf Qb es k) (rK rf Qb es k)
theorem LQ(rf:Qe)(Qb:List Int)(es:List (F4×F4))(k:Int)(hr:ZE rf=true)(hp:QQ rf Qb=true)(he:Pd rf es)(k0:0<=k)(hk:k<=rf.Qc):WriC YP J0 89 #[.agg #[Qv 0 (Kj rf.Qa),.int .i64 rf.Qk,.int .i64 rf.Qc,.map (some 1)],.agg #[.int .i64 (Qb.getD 0 0),.int .i64 (Qb.getD 1 0),.int .i64 (Qb.getD 2 0),.int .i64 (Qb.getD 3 0)],.int .i64 k] [.map (mapA Q7 es) es.length] (rJ rf Qb es k) (rI rf Qb es k) (rK rf Qb es k):=by
 have ZN:=Q6 (QH hr).1;rcases(show k=0\/k=1\/k=2\/k=3\/k=4 by omega)with rfl|rfl|rfl|rfl|rfl
 ·exact Il rf Qb es hr hp he
 ·exact Ik rf Qb es hr hp he hk
 ·exact Ij rf Qb es hr hp he hk
 ·exact Ii rf Qb es hr hp he hk
 ·exact Mb rf Qb es hr hp he hk
def X3(f:F4):List Qd->Int->Bool×Int×Int
 |[],_=>(false,0,0)
 |x::l,i=>bif decide (0<x.goal-f.at i)then(true,i,x.goal-f.at i)else X3 f l (i+1)
theorem Ks{f:F4}{l:List Qd}{i:Int}(h0:0<=i)(h:i<l.length):X3 f (l.drop i.toNat) i=bif decide (0<(l.getD i.toNat ML).goal-f.at i)then(true,i,(l.getD i.toNat ML).goal-f.at i)else X3 f (l.drop (i+1).toNat) (i+1):=by
 obtain⟨k,rfl⟩:∃k:Nat,i=k:=⟨i.toNat,by omega⟩
 have hk:k<l.length:=by omega
 have e1:((k:Int)).toNat=k:=by omega
 have e2:((k:Int)+1).toNat=k+1:=by omega
 rw[e1,e2,List.drop_eq_getElem_cons hk];simp[X3,MU,hk]
theorem jV{f:F4}{l:List Qd}{i:Int}(h:l.length<=i):X3 f (l.drop i.toNat) i=(false,0,0):=by
 rw[List.drop_eq_nil_of_le (by omega)];rfl
theorem aw{f:F4}:∀{l:List Qd} {i:Int},(X3 f l i).1=false->X3 f l i=(false,0,0)
 |[],_,_=>rfl
 |x::l,i,h=>by
  unfold X3 at h ⊢;cases e:decide (0<x.goal-f.at i)with
  |true=>rw[e]at h;cases h
  |false=>rw[e]at h;exact aw h
def JJ(x_:Qd):Array Value:=#[.int .i64 x_.count,.int .i64 x_.room,.int .i64 x_.WO,.int .i64 x_.Sa,.int .i64 x_.QM,.int .i64 x_.XM,.int .i64 x_.K3,.int .i64 x_.ZT,.int .i64 x_.UI,.int .i64 x_.ZD,.int .i64 x_.goal,.int .i64 x_.Vh]
def KD(ps:List Qd)(f:F4)(i:Int):Value:=(Value.iface 94 (.agg #[.int .i64 i,.int .i64 (Qd.goal (ps.getD i.toNat ML)-Qi [f.a,f.b,f.c,f.d] i.toNat)]))
def TG  :Array Value:=#[.int .i64 0,.int .i64 0]
def TF(f:F4)(i:Int):Value:=(.int .i64 (Qi [f.a,f.b,f.c,f.d] i.toNat))
def XI(ps:List Qd)(f:F4):Qm:=[(3,Obj.cells #[.bool false] 4),(2,Obj.cells #[.int .i64 0,.int .i64 0] 94),(1,Obj.cells #[.int .i64 f.a,.int .i64 f.b,.int .i64 f.c,.int .i64 f.d] 111),(0,Obj.coro none)]
def Z3(ps:List Qd)(f:F4):CF:=⟨88,ofList 26 [Qv 0 (QJ ps.length (Qg Qj ps)),.agg #[.int .i64 f.a,.int .i64 f.b,.int .i64 f.c,.int .i64 f.d],.tuple #[],pA 1 0,pA 2 0,pA 3 0,.tuple #[],.tuple #[],Value.func (Fn.func 109) #[] #[pA 2 0,pA 3 0],.tuple #[],.tuple #[],.tuple #[],.tuple #[],.tuple #[],.tuple #[],.tuple #[],.tuple #[],.tuple #[],.tuple #[],.tuple #[],.tuple #[],.tuple #[],.tuple #[],.tuple #[],.tuple #[],.tuple #[]],[Item.code (Code.seq (Code.seq (Code.region 2 #[{dst:=some 9,op:=Op.move (Operand.tmp 0),type:=22,pos:= "best.go:49",after:=#[],guard:=none},{dst:=some 10,op:=Op.call {callee:=Callee.builtin Builtin.len,args:=#[Operand.tmp 9],argTypes:=#[22]},type:=3,pos:= "best.go:49",after:=#[{on:=0,ground:=Ground.data}],guard:=none},{dst:=some 11,op:=Op.move (Operand.const (.int .i64 0)),type:=3,pos:= "best.go:49",after:=#[],guard:=none}] false) (Code.block 0 (Code.loop (Code.seq (Code.region 3 #[{dst:=some 12,op:=Op.binOp BinOp.lss 3 (Operand.tmp 11) (Operand.tmp 10) 3,type:=0,pos:= "best.go:49",after:=#[],guard:=none}] false) (Code.seq (Code.cond (Operand.tmp 12) Code.skip (Code.exit 0)) (Code.seq (Code.block 1 (Code.seq (Code.region 4 #[{dst:=some 13,op:=Op.move (Operand.tmp 11),type:=3,pos:= "best.go:49",after:=#[],guard:=none},{dst:=some 14,op:=Op.indexAddr 22 (Operand.tmp 9) (Operand.tmp 11),type:=0,pos:= "best.go:49",after:=#[],guard:=none},{dst:=some 15,op:=Op.load 54 (Operand.tmp 14),type:=54,pos:= "best.go:49",after:=#[{on:=1,ground:=Ground.data}],guard:=none},{dst:=some 7,op:=Op.alloc 54,type:=0,pos:= "best.go:49",after:=#[],guard:=none},{dst:=some 6,op:=Op.assign (Operand.tmp 13),type:=3,pos:= "best.go:49",after:=#[{on:=0,ground:=Ground.data},{on:=0,ground:=Ground.phase},{on:=1,ground:=Ground.phase},{on:=2,ground:=Ground.phase},{on:=3,ground:=Ground.phase}],guard:=none},{dst:=none,op:=Op.store 54 (Operand.tmp 7) (Operand.tmp 15),type:=0,pos:= "best.go:49",after:=#[{on:=3,ground:=Ground.data},{on:=2,ground:=Ground.data},{on:=4,ground:=Ground.chain},{on:=0,ground:=Ground.phase},{on:=1,ground:=Ground.phase},{on:=2,ground:=Ground.phase},{on:=3,ground:=Ground.phase},{on:=4,ground:=Ground.phase}],guard:=none}] false) (Code.region 5 #[{dst:=some 16,op:=Op.move (Operand.tmp 6),type:=3,pos:= "best.go:50",after:=#[],guard:=none},{dst:=some 17,op:=Op.fieldAddr 54 (Operand.tmp 7) 7,type:=0,pos:= "best.go:50",after:=#[],guard:=none},{dst:=some 18,op:=Op.load 3 (Operand.tmp 17),type:=3,pos:= "best.go:50",after:=#[{on:=1,ground:=Ground.data}],guard:=none},{dst:=some 19,op:=Op.move (Operand.tmp 6),type:=3,pos:= "best.go:50",after:=#[],guard:=none},{dst:=some 20,op:=Op.indexAddr 111 (Operand.tmp 3) (Operand.tmp 19),type:=0,pos:= "best.go:50",after:=#[{on:=3,ground:=Ground.data}],guard:=none},{dst:=some 21,op:=Op.load 3 (Operand.tmp 20),type:=3,pos:= "best.go:50",after:=#[{on:=4,ground:=Ground.data}],guard:=none},{dst:=some 22,op:=Op.binOp BinOp.sub 3 (Operand.tmp 18) (Operand.tmp 21) 3,type:=3,pos:= "best.go:50",after:=#[{on:=2,ground:=Ground.data},{on:=5,ground:=Ground.data}],guard:=none},{dst:=some 23,op:=Op.call {callee:=Callee.value (Operand.func 110),args:=#[Operand.tmp 16,Operand.tmp 22],argTypes:=#[3,3]},type:=0,pos:= "best.go:50",after:=#[{on:=0,ground:=Ground.data},{on:=6,ground:=Ground.data}],guard:=none}] true))) (Code.region 6 #[{dst:=some 24,op:=Op.binOp BinOp.add 3 (Operand.tmp 11) (Operand.const (.int .i64 1)) 3,type:=3,pos:= "best.go:49",after:=#[],guard:=none},{dst:=some 11,op:=Op.move (Operand.tmp 24),type:=3,pos:= "best.go:49",after:=#[{on:=0,ground:=Ground.data}],guard:=none}] false))))))) (Code.seq (Code.region 7 #[{dst:=some 25,op:=Op.build 94 #[],type:=94,pos:= "best.go:52",after:=#[],guard:=none},{dst:=none,op:=Op.store 94 (Operand.tmp 4) (Operand.tmp 25),type:=0,pos:= "best.go:52",after:=#[{on:=0,ground:=Ground.data},{on:=0,ground:=Ground.phase}],guard:=none},{dst:=none,op:=Op.store 4 (Operand.tmp 5) (Operand.const (.bool false)),type:=0,pos:= "best.go:52",after:=#[{on:=1,ground:=Ground.chain},{on:=0,ground:=Ground.phase},{on:=1,ground:=Ground.phase}],guard:=none}] false) Code.ret))],[],.run,none⟩
def ZK(ps:List Qd)(f:F4)(i:Int):List Value:=[pA 1 0,pA 2 0,pA 3 0,Qv 0 (QJ ps.length (Qg Qj ps)),.int .i64 (↑ps.length:Int),.int .i64 i]
def ZJ(ps:List Qd)(f:F4)(i:Int):List Obj:=[Obj.cells #[.bool false] 4,Obj.cells #[.int .i64 0,.int .i64 0] 94]
def XQ(ps:List Qd)(f:F4)(i:Int):List Obj:=[]
def ZL:List Item:=([.code [1,1,0,1,0,0],.inLoop [1,1,0,1,0,0],.inBlock 0,.code [1,1,1]]).map (it (Xf YP 88))
def JK(B:Lo)(ps:List Qd)(f:F4)(i:Int)(Qt:Nat->Value):List Prop:=[wq (Qd.goal (ps.getD i.toNat ML)-Qi [f.a,f.b,f.c,f.d] i.toNat)=Qd.goal (ps.getD i.toNat ML)-Qi [f.a,f.b,f.c,f.d] i.toNat,#[Value.int .i64 f.a,.int .i64 f.b,.int .i64 f.c,.int .i64 f.d][0+MM i*1]? =some (TF f i),i=(↑i.toNat:Int)/\MM i<4,Ug i ps.length (Qg Qj ps) Try.t54.size (JJ (ps.getD i.toNat ML)),Zq i (↑ps.length:Int)=true]++([]:List Prop)
def TH(ps:List Qd)(f:F4)(i:Int)(Qt:Nat->Value):QB:=[(0,WR),(2,Ql.tidx i.toNat (JJ (ps.getD i.toNat ML))),(11,Ql.WM (Hint.idx i.toNat)),(12,Ql.WM (Hint.ld (TF f i))),(13,U2 (Qd.goal (ps.getD i.toNat ML)-Qi [f.a,f.b,f.c,f.d] i.toNat))]
def Z4(ps:List Qd)(f:F4)(i:Int)(Qt:Nat->Value):Qm:=[(5,Obj.cells (JJ (ps.getD i.toNat ML)) 54),(3,Obj.cells #[.bool false] 4),(2,Obj.cells #[.int .i64 0,.int .i64 0] 94),(4,Obj.coro none),(3,Obj.cells #[.bool false] 4),(2,Obj.cells #[.int .i64 0,.int .i64 0] 94),(1,Obj.cells #[.int .i64 f.a,.int .i64 f.b,.int .i64 f.c,.int .i64 f.d] 111),(0,Obj.coro none)]
def Wo(ps:List Qd)(f:F4)(i:Int)(Qt:Nat->Value):CF:=⟨110,ofList 10 [.int .i64 i,.int .i64 (Qd.goal (ps.getD i.toNat ML)-Qi [f.a,f.b,f.c,f.d] i.toNat)],[Item.code (Xf YP 110)],[],.run,none⟩
theorem lB(B:Lo)(ps:List Qd)(f:F4)(i:Int)(Qt:Nat->Value):CE.finK 6 (Qu YP (Q8 YP) J0 B 5 6 (Wo ps f i Qt) (Z4 ps f i Qt) 6
 [(1,WR)] 0 [] []) [] [] []=some (OO.ZG (KD ps f i),[],[],
 [Zq 0 (Qd.goal (ps.getD i.toNat ML)-Qi [f.a,f.b,f.c,f.d] i.toNat)=true]):=by kernel_rfl
theorem lA(B:Lo)(ps:List Qd)(f:F4)(i:Int)(Qt:Nat->Value):CE.landU 4 (Qu YP (Q8 YP) J0 B 10 4 (VK (none) 88 26 (([3,4,5,9,10,11]:List Nat).zip (ZK ps f i)) Qt ZL) (Wi (XI ps f) 4 (([3,2]:List Nat).zip (ZJ ps f i)) (XQ ps f i)) (4+1+(XQ ps f i).length)
 (TH ps f i Qt++[(14,Ql.call (MP 6) (OO.ZG (KD ps f i)) ([]++(6,Xo)::Xc 7 []) 7 [])]) 0 [] []) [4,5] [(3,KS.auto),(2,KS.auto)] [] []=some (88,26,none,OO.ZG (KD ps f i),[pA 2 0,pA 3 0],[(3,Obj.cells #[.bool false] 4),(2,Obj.cells TG 94)],[],
 [FJ YP B (Wo ps f i Qt) (Z4 ps f i Qt) 6 (OO.ZG (KD ps f i)) (([]++((6,Xo)::Xc (6+1) []))++Z4 ps f i Qt) 7 (MP 6) []]++JK B ps f i Qt):=by kernel_rfl
theorem l9(B:Lo)(ps:List Qd)(f:F4)(i:Int)(Qt:Nat->Value):CE.finK 6 (Qu YP (Q8 YP) J0 B 6 6 (Wo ps f i Qt) (Z4 ps f i Qt) 6
 [(1,Vs)] 0 [] []) [] [] []=some (OO.ret (.tuple #[]),[],[],
 [Zq 0 (Qd.goal (ps.getD i.toNat ML)-Qi [f.a,f.b,f.c,f.d] i.toNat)=false]):=by kernel_rfl
theorem l8(B:Lo)(ps:List Qd)(f:F4)(i:Int)(Qt:Nat->Value):CE.landA 4 (Qu YP (Q8 YP) J0 B 13 4 (VK (none) 88 26 (([3,4,5,9,10,11]:List Nat).zip (ZK ps f i)) Qt ZL) (Wi (XI ps f) 4 (([3,2]:List Nat).zip (ZJ ps f i)) (XQ ps f i)) (4+1+(XQ ps f i).length)
 (TH ps f i Qt++[(14,Ql.call (MP 6) (OO.ret (.tuple #[])) ([]++(6,Xo)::Xc 7 []) 7 []),(15,U2 (i+1))]) 0 [] []) [3,4,5,9,10,11] [(3,KS.auto),(2,KS.auto)] [] []=some ⟨88,26,ZL,[],.run,none,ZK ps f (i+1),([3,2]:List Nat).zip (ZJ ps f (i+1)),XQ ps f (i+1),
 [wq (i+1)=i+1,FJ YP B (Wo ps f i Qt) (Z4 ps f i Qt) 6 (OO.ret (.tuple #[])) (([]++((6,Xo)::Xc (6+1) []))++Z4 ps f i Qt) 7 (MP 6) []]++JK B ps f i Qt⟩:=by kernel_rfl
theorem l7(B:Lo)(ps:List Qd)(f:F4)(i:Int)(Qt:Nat->Value):CE.landU 4 (Qu YP (Q8 YP) J0 B 8 4 (VK (none) 88 26 (([3,4,5,9,10,11]:List Nat).zip (ZK ps f i)) Qt ZL) (Wi (XI ps f) 4 (([3,2]:List Nat).zip (ZJ ps f i)) (XQ ps f i)) (4+1+(XQ ps f i).length)
 [(0,Vs)] 0 [] []) [4,5] [(3,KS.auto),(2,KS.auto)] [] []=some (88,26,none,OO.ret (.tuple #[]),[pA 2 0,pA 3 0],[(3,Obj.cells #[.bool false] 4),(2,Obj.cells TG 94)],[],
 [Zq i (↑ps.length:Int)=false]):=by kernel_rfl
set_option maxHeartbeats 4000000 in
theorem Pw(ps:List Qd)(f:F4)(hl:ps.length<=4)(hg:∀i:Int,0<=i->i<ps.length->0<=(ps.getD i.toNat ML).goal/\(ps.getD i.toNat ML).goal<=1000000)(hf:JX ⟨f.a,f.b,f.c,f.d⟩){B:Lo}(hJ:∀w,B.has w->J0 w):∀m:Nat,(∀(i:Int),∀(r:Bool),((X3 f (ps.drop i.toNat) i).1)=r->(ps.length-i.toNat)=m->∀(h0:0<=i),(∃Qt:Nat->Value,(∀t,XP (Qt t))/\GoE YP B (Z3 ps f) (XI ps f) 4 (VK (none) 88 26 (([3,4,5,9,10,11]:List Nat).zip (ZK ps f i)) Qt ZL) (Wi (XI ps f) 4 (([3,2]:List Nat).zip (ZJ ps f i)) (XQ ps f i)) (4+1+(XQ ps f i).length) ([3,2]:List Nat))->FinU YP B (Z3 ps f) (XI ps f) 4 (bif r then .ZG (.iface 94 (.agg #[.int .i64 (X3 f (ps.drop i.toNat) i).2.1,.int .i64 (X3 f (ps.drop i.toNat) i).2.2]))else .ret (.tuple #[])) (([4,5]:List Nat).zip [pA 2 0,pA 3 0]) (([3,2]:List Nat).zip ([Obj.cells #[.bool false] 4,Obj.cells #[.int .i64 0,.int .i64 0] 94])) ([]) ([3,2]:List Nat)):=by
 intro m0;induction m0 using No with
 |_ m0 ih0=>
  intro i r1 hr1 hm0 h0 ⟨Qt,Kn,Zk⟩;have YF:Qi [f.a,f.b,f.c,f.d] i.toNat=f.at i:=rfl;by_cases q0:(i:Int)<((↑ps.length:Int))
  ·have Vb:Q3 (JK B ps f i Qt):=by
    have hgi:=hg i h0 q0;have hfi:=W5 (f:=f) hf h0 (by omega);have s1:=Ks (f:=f) h0 q0;exact⟨(XH (by omega) (by omega)),⟨(SY rfl (NA (m:=4) (by omega) rfl)),⟨⟨by omega,by omega⟩,⟨⟨by omega,by omega,(QA (z:=12) (fun _=>rfl) (by omega))⟩,⟨(Zh q0),trivial⟩⟩⟩⟩⟩
   by_cases q1:(0:Int)<(Qd.goal (ps.getD i.toNat ML)-Qi [f.a,f.b,f.c,f.d] i.toNat)
   ·have rj1:FJ YP B (Wo ps f i Qt) (Z4 ps f i Qt) 6 (OO.ZG (Value.iface 94 (.agg #[.int .i64 i,.int .i64 (Qd.goal (ps.getD i.toNat ML)-Qi [f.a,f.b,f.c,f.d] i.toNat)]))) (([]++((6,Xo)::Xc (6+1) []))++Z4 ps f i Qt) 7 (MP 6) []:=by
     have hgi:=hg i h0 q0;have hfi:=W5 (f:=f) hf h0 (by omega);have s1:=Ks (f:=f) h0 q0;rw[decide_eq_true (show 0<(ps.getD i.toNat ML).goal-f.at i from q1),cond_true]at s1;exact FinK.fjB (GoE.finK okF hJ Qf (Q4 (by kernel_rfl)) (Qp (by kernel_rfl)) ((GoE.refl (P:=YP) (B:=B) (c0:=Wo ps f i Qt) (Q4 (by kernel_rfl))).widen (Wf:=((([]):List (Nat×KS)).map (·.1))) (by simp) (Qp (by kernel_rfl))) (lB B ps f i Qt)
      ⟨(Zh q1),trivial⟩) (ex:=[]) (by kernel_rfl) (Wp _)
    have hgi:=hg i h0 q0;have hfi:=W5 (f:=f) hf h0 (by omega);have s1:=Ks (f:=f) h0 q0;rw[decide_eq_true (show 0<(ps.getD i.toNat ML).goal-f.at i from q1),cond_true]at s1;exact(GoE.landU (wks:=[(3,KS.auto),(2,KS.auto)]) okF hJ Qf (Q4 (by kernel_rfl)) (Qp (by kernel_rfl)) Zk (lA B ps f i Qt)
     (by exact⟨rj1,Vb⟩) (by kernel_rfl) rfl).cast (by(subst hr1;rw[s1];rfl)) (by rfl) (by rfl)
   ·have rj1:FJ YP B (Wo ps f i Qt) (Z4 ps f i Qt) 6 (OO.ret (.tuple #[])) (([]++((6,Xo)::Xc (6+1) []))++Z4 ps f i Qt) 7 (MP 6) []:=by
     have hgi:=hg i h0 q0;have hfi:=W5 (f:=f) hf h0 (by omega);have s1:=Ks (f:=f) h0 q0;rw[decide_eq_false (show ¬0<(ps.getD i.toNat ML).goal-f.at i from q1),cond_false]at s1;exact FinK.fjB (GoE.finK okF hJ Qf (Q4 (by kernel_rfl)) (Qp (by kernel_rfl)) ((GoE.refl (P:=YP) (B:=B) (c0:=Wo ps f i Qt) (Q4 (by kernel_rfl))).widen (Wf:=((([]):List (Nat×KS)).map (·.1))) (by simp) (Qp (by kernel_rfl))) (l9 B ps f i Qt)
      ⟨(Zr (Int.not_lt.1 q1)),trivial⟩) (ex:=[]) (by kernel_rfl) (Wp _)
    have hgi:=hg i h0 q0;have hfi:=W5 (f:=f) hf h0 (by omega);have s1:=Ks (f:=f) h0 q0;rw[decide_eq_false (show ¬0<(ps.getD i.toNat ML).goal-f.at i from q1),cond_false]at s1;exact((ih0 _ (by omega)) (i+1) r1 (by rw[<-hr1,s1]) rfl (by omega)
     (GoE.landA okF hJ Qf (Q4 (by kernel_rfl)) (Qp (by kernel_rfl)) Zk (l8 B ps f i Qt)
     ⟨(XH (by omega) (by omega)),⟨rj1,Vb⟩⟩ (by kernel_rfl) (by kernel_rfl) (fun l hl=>by cases hl <;> decide))).cast (by(subst hr1;rw[s1];done)) (by rfl) (by rfl)
  ·have s1:=jV (f:=f) (l:=ps) (i:=i) (by omega);exact(GoE.landU (wks:=[(3,KS.auto),(2,KS.auto)]) okF hJ Qf (Q4 (by kernel_rfl)) (Qp (by kernel_rfl)) Zk (l7 B ps f i Qt)
    (by exact⟨(Zr (Int.not_lt.1 q0)),trivial⟩) (by kernel_rfl) rfl).cast (by(subst hr1;rw[s1];rfl)) (by rfl) (by rfl)

theorem lC(B:Lo)(ps:List Qd)(f:F4):CE.landA 4 (Qu YP (Q8 YP) J0 B 5 4 (Z3 ps f) (XI ps f) 4
 [] 0 [] []) [3,4,5,9,10,11] [(3,KS.auto),(2,KS.auto)] [] []=some ⟨88,26,ZL,[],.run,none,ZK ps f (0),([3,2]:List Nat).zip (ZJ ps f (0)),XQ ps f (0),
 []⟩:=by kernel_rfl
theorem l6(B:Lo)(ps:List Qd)(f:F4):Xd (tN YP (Q8 YP) J0 B 3 1 (Qq YP 88 26 (([Kj ps,.agg #[.int .i64 f.a,.int .i64 f.b,.int .i64 f.c,.int .i64 f.d]]).map (Q5 0 4))) Zn 1
 (OO.ZG (Value.iface 94 (.agg #[.int .i64 (Prod.fst (Prod.snd (X3 f (List.drop (MM 0) ps) 0))),.int .i64 (Prod.snd (Prod.snd (X3 f (List.drop (MM 0) ps) 0)))]))) (([4,5]:List Nat).zip [pA 2 0,pA 3 0]) ([(3,Obj.cells #[.bool false] 4),(2,Obj.cells #[.int .i64 0,.int .i64 0] 94)]++(4,Xo)::Xc 5 []) 5 [3,2] (.tuple #[.agg #[.int .i64 (Prod.fst (Prod.snd (X3 f (List.drop (MM 0) ps) 0))),.int .i64 (Prod.snd (Prod.snd (X3 f (List.drop (MM 0) ps) 0)))],.bool true]) [2,3]) []=some (.tuple #[.agg #[.int .i64 (Prod.fst (Prod.snd (X3 f (List.drop (MM 0) ps) 0))),.int .i64 (Prod.snd (Prod.snd (X3 f (List.drop (MM 0) ps) 0)))],.bool true],
 [UJ YP B (Z3 ps f) (XI ps f) 4 (OO.ZG (Value.iface 94 (.agg #[.int .i64 (Prod.fst (Prod.snd (X3 f (List.drop (MM 0) ps) 0))),.int .i64 (Prod.snd (Prod.snd (X3 f (List.drop (MM 0) ps) 0)))]))) (([4,5]:List Nat).zip [pA 2 0,pA 3 0]) (([(3,Obj.cells #[.bool false] 4),(2,Obj.cells #[.int .i64 0,.int .i64 0] 94)]++((4,Xo)::Xc (4+1) []))++XI ps f) 5 (MP 4) [3,2],∀d:Nat->Value,kf YP 88 ([(3,Obj.cells #[.bool true] 4),(2,Obj.cells #[.int .i64 (Prod.fst (Prod.snd (X3 f (List.drop (MM 0) ps) 0))),.int .i64 (Prod.snd (Prod.snd (X3 f (List.drop (MM 0) ps) 0)))] 94),(4,Obj.coro none),(3,Obj.cells #[.bool false] 4),(2,Obj.cells #[.int .i64 0,.int .i64 0] 94),(1,Obj.cells #[.int .i64 f.a,.int .i64 f.b,.int .i64 f.c,.int .i64 f.d] 111),(0,Obj.coro none)]) (Gk 26 (([4,5]:List Nat).zip [pA 2 0,pA 3 0]) d)=some (.tuple #[.agg #[.int .i64 (Prod.fst (Prod.snd (X3 f (List.drop (MM 0) ps) 0))),.int .i64 (Prod.snd (Prod.snd (X3 f (List.drop (MM 0) ps) 0)))],.bool true],[2,3])]):=by kernel_rfl
theorem l5(B:Lo)(ps:List Qd)(f:F4):CE.landA 4 (Qu YP (Q8 YP) J0 B 5 4 (Z3 ps f) (XI ps f) 4
 [] 0 [] []) [3,4,5,9,10,11] [(3,KS.auto),(2,KS.auto)] [] []=some ⟨88,26,ZL,[],.run,none,ZK ps f (0),([3,2]:List Nat).zip (ZJ ps f (0)),XQ ps f (0),
 []⟩:=by kernel_rfl
theorem lz(B:Lo)(ps:List Qd)(f:F4):Xd (tN YP (Q8 YP) J0 B 3 1 (Qq YP 88 26 (([Kj ps,.agg #[.int .i64 f.a,.int .i64 f.b,.int .i64 f.c,.int .i64 f.d]]).map (Q5 0 4))) Zn 1
 (OO.ret (.tuple #[])) (([4,5]:List Nat).zip [pA 2 0,pA 3 0]) ([(3,Obj.cells #[.bool false] 4),(2,Obj.cells #[.int .i64 0,.int .i64 0] 94)]++(4,Xo)::Xc 5 []) 5 [3,2] (.tuple #[.agg #[.int .i64 0,.int .i64 0],.bool false]) [2,3]) []=some (.tuple #[.agg #[.int .i64 0,.int .i64 0],.bool false],
 [UJ YP B (Z3 ps f) (XI ps f) 4 (OO.ret (.tuple #[])) (([4,5]:List Nat).zip [pA 2 0,pA 3 0]) (([(3,Obj.cells #[.bool false] 4),(2,Obj.cells #[.int .i64 0,.int .i64 0] 94)]++((4,Xo)::Xc (4+1) []))++XI ps f) 5 (MP 4) [3,2],∀d:Nat->Value,kf YP 88 ([(3,Obj.cells #[.bool false] 4),(2,Obj.cells #[.int .i64 0,.int .i64 0] 94),(4,Obj.coro none),(3,Obj.cells #[.bool false] 4),(2,Obj.cells #[.int .i64 0,.int .i64 0] 94),(1,Obj.cells #[.int .i64 f.a,.int .i64 f.b,.int .i64 f.c,.int .i64 f.d] 111),(0,Obj.coro none)]) (Gk 26 (([4,5]:List Nat).zip [pA 2 0,pA 3 0]) d)=some (.tuple #[.agg #[.int .i64 0,.int .i64 0],.bool false],[2,3])]):=by kernel_rfl
set_option maxHeartbeats 4000000 in
theorem oP(ps:List Qd)(f:F4)(hl:ps.length<=4)(hg:∀i:Int,0<=i->i<ps.length->0<=(ps.getD i.toNat ML).goal/\(ps.getD i.toNat ML).goal<=1000000)(hf:JX ⟨f.a,f.b,f.c,f.d⟩){B:Lo}(hJ:∀w,B.has w->J0 w):EndsT YP B (Qq YP 88 26 (([Kj ps,.agg #[.int .i64 f.a,.int .i64 f.b,.int .i64 f.c,.int .i64 f.d]]).map (Q5 0 4))) (.tuple #[.agg #[.int .i64 (X3 f ps 0).2.1,.int .i64 (X3 f ps 0).2.2],.bool (X3 f ps 0).1]):=by
 cases q0:Prod.fst (X3 f (List.drop (MM 0) ps) 0)with
 |true=>
  have rj0:UJ YP B (Z3 ps f) (XI ps f) 4 (OO.ZG (Value.iface 94 (.agg #[.int .i64 (Prod.fst (Prod.snd (X3 f (List.drop (MM 0) ps) 0))),.int .i64 (Prod.snd (Prod.snd (X3 f (List.drop (MM 0) ps) 0)))]))) (([4,5]:List Nat).zip [pA 2 0,pA 3 0]) (([(3,Obj.cells #[.bool false] 4),(2,Obj.cells #[.int .i64 0,.int .i64 0] 94)]++((4,Xo)::Xc (4+1) []))++XI ps f) 5 (MP 4) [3,2]:=by
   exact FinU.ujB ((Pw ps f hl hg hf hJ _) (0) true q0 rfl (by omega)
    (GoE.landA okF hJ Qf (Q4 (by kernel_rfl)) (Qp (by kernel_rfl)) ((GoE.refl (P:=YP) (B:=B) (c0:=Z3 ps f) (Q4 (by kernel_rfl))).widen (Wf:=((([(3,KS.auto),(2,KS.auto)]):List (Nat×KS)).map (·.1))) (by simp) (Qp (by kernel_rfl))) (lC B ps f)
    trivial (by kernel_rfl) (by kernel_rfl) (fun l hl=>by cases hl <;> decide))) (ex:=[]) (by kernel_rfl) (Wp _)
  exact(GoE.endsD okF hJ Qf GoE.start (l6 B ps f)
   (by exact⟨rj0,⟨(fun d=>by kernel_rfl),trivial⟩⟩)).cast (by(rw[show(X3 f ps 0).1=true from q0];rfl))
 |false=>
  have rj0:UJ YP B (Z3 ps f) (XI ps f) 4 (OO.ret (.tuple #[])) (([4,5]:List Nat).zip [pA 2 0,pA 3 0]) (([(3,Obj.cells #[.bool false] 4),(2,Obj.cells #[.int .i64 0,.int .i64 0] 94)]++((4,Xo)::Xc (4+1) []))++XI ps f) 5 (MP 4) [3,2]:=by
   exact FinU.ujB ((Pw ps f hl hg hf hJ _) (0) false q0 rfl (by omega)
    (GoE.landA okF hJ Qf (Q4 (by kernel_rfl)) (Qp (by kernel_rfl)) ((GoE.refl (P:=YP) (B:=B) (c0:=Z3 ps f) (Q4 (by kernel_rfl))).widen (Wf:=((([(3,KS.auto),(2,KS.auto)]):List (Nat×KS)).map (·.1))) (by simp) (Qp (by kernel_rfl))) (l5 B ps f)
    trivial (by kernel_rfl) (by kernel_rfl) (fun l hl=>by cases hl <;> decide))) (ex:=[]) (by kernel_rfl) (Wp _)
  exact(GoE.endsD okF hJ Qf GoE.start (lz B ps f)
   (by exact⟨rj0,⟨(fun d=>by kernel_rfl),trivial⟩⟩)).cast (by(rw[aw (f:=f) (l:=ps) (i:=0) q0]))
theorem gX(ps:List Qd)(f:F4)(hl:ps.length<=4)(hg:∀i:Int,0<=i->i<ps.length->0<=(ps.getD i.toNat ML).goal/\(ps.getD i.toNat ML).goal<=1000000)(hf:JX ⟨f.a,f.b,f.c,f.d⟩):Q0 YP J0 88 #[Kj ps,.agg #[.int .i64 f.a,.int .i64 f.b,.int .i64 f.c,.int .i64 f.d]] (.tuple #[.agg #[.int .i64 (X3 f ps 0).2.1,.int .i64 (X3 f ps 0).2.2],.bool (X3 f ps 0).1]):=
 XD (ts:=[Kj ps,.agg #[.int .i64 f.a,.int .i64 f.b,.int .i64 f.c,.int .i64 f.d]]) Zs (c0:=Qq YP 88 26 (([Kj ps,.agg #[.int .i64 f.a,.int .i64 f.b,.int .i64 f.c,.int .i64 f.d]]).map (Q5 0 4))) (by kernel_rfl) (by kernel_rfl) fun B hJ=>oP ps f hl hg hf hJ
def aF(rf:Qe)(Qb:List Int)(es:List (F4×F4)):Qm:=[(1,.map (mapA Q7 es) es.length),(0,Xo)]
def Jp(rf:Qe)(Qb:List Int)(es:List (F4×F4)):CF:=Qq YP 64 18 [.agg #[Qv 0 (Kj rf.Qa),.int .i64 rf.Qk,.int .i64 rf.Qc,.map (some 1)],.agg #[.int .i64 (Qb.getD 0 0),.int .i64 (Qb.getD 1 0),.int .i64 (Qb.getD 2 0),.int .i64 (Qb.getD 3 0)]]
def Jo(rf:Qe)(Qb:List Int):=(Qz rf Qb (MM rf.Qc))
def pQ(rf:Qe)(Qb:List Int):Array Value:=#[.int .i64 (Prod.fst (Prod.snd (X3 (Jo rf Qb) rf.Qa 0))),.int .i64 (Prod.snd (Prod.snd (X3 (Jo rf Qb) rf.Qa 0)))]
def pP(rf:Qe)(Qb:List Int):Array Value:=#[QJ rf.Qa.length (Qg Qj rf.Qa),.agg #[.int .i64 (F4.a (Jo rf Qb)),.int .i64 (F4.b (Jo rf Qb)),.int .i64 (F4.c (Jo rf Qb)),.int .i64 (F4.d (Jo rf Qb))]]
def fh(rf:Qe)(Qb:List Int):Value:=(.tuple #[.agg (pQ rf Qb),.bool false])
def fg(rf:Qe)(Qb:List Int):Value:=(.tuple #[.agg (pQ rf Qb),.bool true])
def fi(B:Lo)(rf:Qe)(Qb:List Int)(es:List (F4×F4)):List Prop:=[Q3 [XW (mapA Q7 es),XW (mapA Q7 (Xl rf Qb (MM rf.Qc) es))]/\GM (rf) (Qb) (es) rf.Qc]++([]:List Prop)
def pR(rf:Qe)(Qb:List Int)(es:List (F4×F4)):QB:=[(12,Ql.wri [1] [0] [true] [] (rJ rf Qb es rf.Qc) (rI rf Qb es rf.Qc) (rK rf Qb es rf.Qc))]
theorem Bt(B:Lo)(rf:Qe)(Qb:List Int)(es:List (F4×F4)):CE.finK 2 (Qu YP (Q8 YP) J0 B 6 2 (Jp rf Qb es) (aF rf Qb es) 2
 (pR rf Qb es++[(13,Ql.pure (fg rf Qb) [])]) 0 [] []) [(1,KS.same)] [] []=some (OO.ret (fg rf Qb),[(1,Obj.map (mapA Q7 (Xl rf Qb (MM rf.Qc) es)) (MO (Xl rf Qb (MM rf.Qc) es)))],[],
 [XW (mapA Q7 (Xl rf Qb (MM rf.Qc) es)),Q3 []/\Q0 YP J0 88 (pP rf Qb) (fg rf Qb)]++fi B rf Qb es):=by kernel_rfl
theorem Bs(B:Lo)(rf:Qe)(Qb:List Int)(es:List (F4×F4)):CE.finK 2 (Qu YP (Q8 YP) J0 B 6 2 (Jp rf Qb es) (aF rf Qb es) 2
 (pR rf Qb es++[(13,Ql.pure (fh rf Qb) [])]) 0 [] []) [(1,KS.same)] [] []=some (OO.ret (fh rf Qb),[(1,Obj.map (mapA Q7 (Xl rf Qb (MM rf.Qc) es)) (MO (Xl rf Qb (MM rf.Qc) es)))],[],
 [XW (mapA Q7 (Xl rf Qb (MM rf.Qc) es)),Q3 []/\Q0 YP J0 88 (pP rf Qb) (fh rf Qb)]++fi B rf Qb es):=by kernel_rfl
set_option maxHeartbeats 4000000 in
theorem Ek(rf:Qe)(Qb:List Int)(es:List (F4×F4))(hr:ZE rf=true)(hp:QQ rf Qb=true)(he:Pd rf es){B:Lo}(hJ:∀w,B.has w->J0 w):FinK YP B (Jp rf Qb es) (aF rf Qb es) 2 (.ret (.tuple #[.agg #[.int .i64 (X3 (Qz rf Qb rf.Qc.toNat) rf.Qa 0).2.1,.int .i64 (X3 (Qz rf Qb rf.Qc.toNat) rf.Qa 0).2.2],.bool (X3 (Qz rf Qb rf.Qc.toNat) rf.Qa 0).1])) (([1]:List Nat).zip [.map (mapA Q7 (Xl rf Qb rf.Qc.toNat es)) (Xl rf Qb rf.Qc.toNat es).length]) [] ([1]:List Nat):=by
 have ZN:=Q6 (QH hr).1;have hpf:=(Xa hp).1;have P5:=(VD (Qb:=Qb) hr (s:=rf.Qc.toNat) (by omega)).1;have YA:∀i:Int,0<=i->i<rf.Qa.length->0<=(rf.Qa.getD i.toNat ML).goal/\(rf.Qa.getD i.toNat ML).goal<=1000000:=fun i h0 h1=>(XG ((QH hr).2 i h0 h1).1).2.2.1
 have Vb:Q3 (fi B rf Qb es):=by
  exact⟨⟨⟨(XJ (fun _=>by kernel_rfl)),⟨(XJ (fun _=>by kernel_rfl)),trivial⟩⟩,LQ (rf) (Qb) (es) rf.Qc (by with_reducible assumption) (by with_reducible assumption) (by with_reducible assumption) (by omega) (by omega)⟩,trivial⟩
 cases q0:Prod.fst (X3 (Qz rf Qb (MM rf.Qc)) rf.Qa 0)with
 |true=>
  exact(GoE.finK okF hJ Qf (Q4 (by kernel_rfl)) (Qp (by kernel_rfl)) ((GoE.refl (P:=YP) (B:=B) (c0:=Jp rf Qb es) (Q4 (by kernel_rfl))).widen (Wf:=((([(1,KS.same)]):List (Nat×KS)).map (·.1))) (by simp) (Qp (by kernel_rfl))) (Bt B rf Qb es)
   ⟨(by exact XJ (fun _=>by kernel_rfl)),⟨⟨trivial,(by have t_:=gX rf.Qa (Qz rf Qb (MM rf.Qc)) (by omega) (by with_reducible assumption) (by with_reducible assumption);rw[q0]at t_;exact t_)⟩,Vb⟩⟩).cast (by rfl) (by rfl) (by rfl)
 |false=>
  exact(GoE.finK okF hJ Qf (Q4 (by kernel_rfl)) (Qp (by kernel_rfl)) ((GoE.refl (P:=YP) (B:=B) (c0:=Jp rf Qb es) (Q4 (by kernel_rfl))).widen (Wf:=((([(1,KS.same)]):List (Nat×KS)).map (·.1))) (by simp) (Qp (by kernel_rfl))) (Bs B rf Qb es)
   ⟨(by exact XJ (fun _=>by kernel_rfl)),⟨⟨trivial,(by have t_:=gX rf.Qa (Qz rf Qb (MM rf.Qc)) (by omega) (by with_reducible assumption) (by with_reducible assumption);rw[q0]at t_;exact t_)⟩,Vb⟩⟩).cast (by rfl) (by rfl) (by rfl)
def kR(rf:Qe)(Qb:List Int)(es:List (F4×F4)):OO:=.ret (.tuple #[.agg #[.int .i64 (X3 (Qz rf Qb rf.Qc.toNat) rf.Qa 0).2.1,.int .i64 (X3 (Qz rf Qb rf.Qc.toNat) rf.Qa 0).2.2],.bool (X3 (Qz rf Qb rf.Qc.toNat) rf.Qa 0).1])
def kQ(rf:Qe)(Qb:List Int)(es:List (F4×F4)):List Obj:=[.map (mapA Q7 (Xl rf Qb rf.Qc.toNat es)) (Xl rf Qb rf.Qc.toNat es).length]
def kS(rf:Qe)(Qb:List Int)(es:List (F4×F4)):List Obj:=[]
def El(rf:Qe)(Qb:List Int)(es:List (F4×F4)):Prop:=WriC YP J0 64 #[.agg #[Qv 0 (Kj rf.Qa),.int .i64 rf.Qk,.int .i64 rf.Qc,.map (some 1)],.agg #[.int .i64 (Qb.getD 0 0),.int .i64 (Qb.getD 1 0),.int .i64 (Qb.getD 2 0),.int .i64 (Qb.getD 3 0)]] [.map (mapA Q7 es) es.length] (kR rf Qb es) (kQ rf Qb es) (kS rf Qb es)
theorem IM(rf:Qe)(Qb:List Int)(es:List (F4×F4))(hr:ZE rf=true)(hp:QQ rf Qb=true)(he:Pd rf es):WriC YP J0 64 #[.agg #[Qv 0 (Kj rf.Qa),.int .i64 rf.Qk,.int .i64 rf.Qc,.map (some 1)],.agg #[.int .i64 (Qb.getD 0 0),.int .i64 (Qb.getD 1 0),.int .i64 (Qb.getD 2 0),.int .i64 (Qb.getD 3 0)]] [.map (mapA Q7 es) es.length] (kR rf Qb es) (kQ rf Qb es) (kS rf Qb es):=
 FinK.wri (c0:=Jp rf Qb es) (Hb:=aF rf Qb es) (a:=2) (ws:=([1]:List Nat).zip [.map (mapA Q7 (Xl rf Qb rf.Qc.toNat es)) (Xl rf Qb rf.Qc.toNat es).length]) (Wf:=([1]:List Nat)) (by kernel_rfl) rfl rfl rfl rfl fun B hJ=>Ek rf Qb es hr hp he hJ
def Qo(rf:Qe)(Qb:List Int):Bool×Int×Int:=X3 (Qz rf Qb rf.Qc.toNat) rf.Qa 0
def fB(rf:Qe):Array Value:=#[QJ rf.Qa.length (Qg Qj rf.Qa),.int .i64 rf.Qk,.int .i64 rf.Qc]
def fA(rf:Qe):Value:=(.agg #[Qv 0 (QJ rf.Qa.length (Qg Qj rf.Qa)),.int .i64 rf.Qk,.int .i64 rf.Qc,Value.map (some 5)])
def qe(rf:Qe)(Qb:List Int):Value:=(.agg #[QJ rf.Qa.length (Qg Qj rf.Qa),.int .i64 rf.Qk,.int .i64 rf.Qc,.int .i64 (Qb.getD 0 0),.int .i64 (Qb.getD 1 0),.int .i64 (Qb.getD 2 0),.int .i64 (Qb.getD 3 0)])
def fy(rf:Qe)(Qb:List Int):Array Value:=#[.agg (fB rf),QJ Qb.length (Qg Q9 Qb)]
def qd  :Array Value:=#[.int .i64 0,.int .i64 0,.int .i64 2]
def fD(B:Lo)(rf:Qe)(Qb:List Int):List Prop:=[Q3 []/\Q0 YP J0 50 #[.agg (fB rf)] (.bool true)]++([]:List Prop)
def qg(rf:Qe)(Qb:List Int):QB:=[(5,Ql.pure (.bool true) [])]
def qh(B:Lo)(rf:Qe)(Qb:List Int):List Prop:=[Q3 []/\Q0 YP J0 52 (fy rf Qb) (qe rf Qb),Q3 []/\Q0 YP J0 51 (fy rf Qb) (.bool true)]++fD B rf Qb
def qf(rf:Qe)(Qb:List Int):QB:=qg rf Qb++[(10,Ql.pure (.bool true) []),(15,Ql.pure (qe rf Qb) []),(19,Ql.call (MP 4) (OO.ret (fA rf)) ([]++(4,Xo)::Xc 5 [Obj.map #[] 0]) 6 []),(22,Ql.wri [5] [0] [true] [] (kR rf Qb []) (kQ rf Qb []) (kS rf Qb []))]
def RA(rf:Qe)(Qb:List Int):Qm:=[(3,Obj.cells #[Qv 2 (QJ rf.Qa.length (Qg Qj rf.Qa)),.int .i64 rf.Qk,.int .i64 rf.Qc,.int .i64 (Qb.getD 0 0),.int .i64 (Qb.getD 1 0),.int .i64 (Qb.getD 2 0),.int .i64 (Qb.getD 3 0)] 84),(2,Obj.coro none),(1,Obj.cells #[Qv 0 (QJ rf.Qa.length (Qg Qj rf.Qa)),.int .i64 rf.Qk,.int .i64 rf.Qc] 24),(0,Obj.coro none)]
def aL(rf:Qe)(Qb:List Int):CF:=⟨63,ofList 6 [.agg #[Qv 0 (QJ rf.Qa.length (Qg Qj rf.Qa)),.int .i64 rf.Qk,.int .i64 rf.Qc]],[Item.code (Xf YP 63)],[],.run,none⟩
theorem B9(B:Lo)(rf:Qe)(Qb:List Int):CE.finK 4 (Qu YP (Q8 YP) J0 B 6 4 (aL rf Qb) (RA rf Qb) 4
 [] 0 [] []) [] [(6,KS.same)] []=some (OO.ret (fA rf),[],[Obj.map #[] 0],
 [XW #[]]):=by kernel_rfl
def fC(B:Lo)(rf:Qe)(Qb:List Int):List Prop:=[Q3 [XW (mapA Q7 []),XW (mapA Q7 (Xl rf Qb (MM rf.Qc) []))]/\El (rf) (Qb) ([]),FJ YP B (aL rf Qb) (RA rf Qb) 4 (OO.ret (fA rf)) (([]++((4,Xo)::Xc (4+1) [Obj.map #[] 0]))++RA rf Qb) 6 (MP 4) []]++qh B rf Qb
theorem B8(B:Lo)(rf:Qe)(Qb:List Int):Xd (Qu YP (Q8 YP) J0 B 19 1 (Qq YP 35 36 (([.agg (Q1 rf).toArray,XF Qb]).map (Q5 0 4))) Zn 1
 (qf rf Qb++[(30,WR)]) 0 [] []) []=some (.tuple #[.int .i64 0,.int .i64 0,.int .i64 5],
 [(!Prod.fst (X3 (Qz rf Qb (MM rf.Qc)) rf.Qa 0))=true]++fC B rf Qb):=by kernel_rfl
theorem B7(B:Lo)(rf:Qe)(Qb:List Int):Xd (Qu YP (Q8 YP) J0 B 20 1 (Qq YP 35 36 (([.agg (Q1 rf).toArray,XF Qb]).map (Q5 0 4))) Zn 1
 (qf rf Qb++[(30,Vs)]) 0 [] []) []=some (.tuple #[.int .i64 (Prod.fst (Prod.snd (X3 (Qz rf Qb (MM rf.Qc)) rf.Qa 0))),.int .i64 (Prod.snd (Prod.snd (X3 (Qz rf Qb (MM rf.Qc)) rf.Qa 0))),.int .i64 0],
 [(!Prod.fst (X3 (Qz rf Qb (MM rf.Qc)) rf.Qa 0))=false]++fC B rf Qb):=by kernel_rfl
theorem B6(B:Lo)(rf:Qe)(Qb:List Int):Xd (Qu YP (Q8 YP) J0 B 10 1 (Qq YP 35 36 (([.agg (Q1 rf).toArray,XF Qb]).map (Q5 0 4))) Zn 1
 (qg rf Qb++[(10,Ql.pure (.bool false) [])]) 0 [] []) []=some (.tuple qd,
 [Q3 []/\Q0 YP J0 51 (fy rf Qb) (.bool false)]++fD B rf Qb):=by kernel_rfl
theorem B5(B:Lo)(rf:Qe)(Qb:List Int):Xd (Qu YP (Q8 YP) J0 B 10 1 (Qq YP 35 36 (([.agg (Q1 rf).toArray,XF Qb]).map (Q5 0 4))) Zn 1
 [(5,Ql.pure (.bool false) [])] 0 [] []) []=some (.tuple qd,
 [Q3 []/\Q0 YP J0 50 #[.agg (fB rf)] (.bool false)]):=by kernel_rfl
set_option maxHeartbeats 4000000 in
theorem E9(rf:Qe)(Qb:List Int)  {B:Lo}(hJ:∀w,B.has w->J0 w):EndsT YP B (Qq YP 35 36 (([.agg (Q1 rf).toArray,XF Qb]).map (Q5 0 4))) (.tuple #[.int .i64 (if Qy rf && QQ rf Qb then(Qo rf Qb).2.1 else 0),.int .i64 (if Qy rf && QQ rf Qb then(Qo rf Qb).2.2 else 0),.int .i64 (if Qy rf && QQ rf Qb then(if(Qo rf Qb).1 then 0 else 5)else 2)]):=by
 cases q0:Qy rf with
 |true=>
  have Vb:Q3 (fD B rf Qb):=by
   have UL:=QC ‹Qy rf=true›;have ZN:=Q6 (QD ‹Qy rf=true›).1;have K5:=Y8 (rf:=rf);exact⟨⟨trivial,(by have t_:=jh (rf);rw[q0]at t_;exact t_)⟩,trivial⟩
  cases q1:QQ rf Qb with
  |true=>
   have PV:Q3 (qh B rf Qb):=by
    have UL:=QC ‹Qy rf=true›;have ZN:=Q6 (QD ‹Qy rf=true›).1;have hpf:=(Xa ‹QQ rf Qb=true›).1;have K5:=Y8 (rf:=rf);exact⟨⟨trivial,pN (rf) (Qb) (by omega) (by omega)⟩,⟨⟨trivial,(by have t_:=ji (rf) (Qb) (by omega);rw[q1]at t_;exact t_)⟩,Vb⟩⟩
   have rj0:FJ YP B (aL rf Qb) (RA rf Qb) 4 (OO.ret (.agg #[Qv 0 (QJ rf.Qa.length (Qg Qj rf.Qa)),.int .i64 rf.Qk,.int .i64 rf.Qc,Value.map (some 5)])) (([]++((4,Xo)::Xc (4+1) [Obj.map #[] 0]))++RA rf Qb) 6 (MP 4) []:=by
    have UL:=QC ‹Qy rf=true›;have ZN:=Q6 (QD ‹Qy rf=true›).1;have hpf:=(Xa ‹QQ rf Qb=true›).1;have K5:=Y8 (rf:=rf);exact FinK.fjB (GoE.finK okF hJ Qf (Q4 (by kernel_rfl)) (Qp (by kernel_rfl)) ((GoE.refl (P:=YP) (B:=B) (c0:=aL rf Qb) (Q4 (by kernel_rfl))).widen (Wf:=((([]):List (Nat×KS)).map (·.1))) (by simp) (Qp (by kernel_rfl))) (B9 B rf Qb)
     ⟨(by(intro i e he;simp at he;done)),trivial⟩) (ex:=[]) (by kernel_rfl) (Wp _)
   have KY:Q3 (fC B rf Qb):=by
    have UL:=QC ‹Qy rf=true›;have ZN:=Q6 (QD ‹Qy rf=true›).1;have hpf:=(Xa ‹QQ rf Qb=true›).1;have K5:=Y8 (rf:=rf);exact⟨⟨⟨(XJ (fun _=>by kernel_rfl)),⟨(XJ (fun _=>by kernel_rfl)),trivial⟩⟩,IM (rf) (Qb) ([]) (by with_reducible assumption) (by with_reducible assumption) (by with_reducible assumption)⟩,⟨rj0,PV⟩⟩
   cases q2: !Prod.fst (X3 (Qz rf Qb (MM rf.Qc)) rf.Qa 0)with
   |true=>
    have UL:=QC ‹Qy rf=true›;have ZN:=Q6 (QD ‹Qy rf=true›).1;have hpf:=(Xa ‹QQ rf Qb=true›).1;have K5:=Y8 (rf:=rf);exact(GoE.endsT okF hJ Qf GoE.start (B8 B rf Qb)
     ⟨q2,KY⟩).cast (by(rcases hsr:(X3 (Qz rf Qb rf.Qc.toNat) rf.Qa 0).1 with _|_ <;> first|(simp_all[Qo];done)|(have hno:=aw hsr;simp_all[Qo];done)))
   |false=>
    have UL:=QC ‹Qy rf=true›;have ZN:=Q6 (QD ‹Qy rf=true›).1;have hpf:=(Xa ‹QQ rf Qb=true›).1;have K5:=Y8 (rf:=rf);exact(GoE.endsT okF hJ Qf GoE.start (B7 B rf Qb)
     ⟨q2,KY⟩).cast (by(rcases hsr:(X3 (Qz rf Qb rf.Qc.toNat) rf.Qa 0).1 with _|_ <;> first|(simp_all[Qo];done)|(have hno:=aw hsr;simp_all[Qo];done)))
  |false=>
   have UL:=QC ‹Qy rf=true›;have ZN:=Q6 (QD ‹Qy rf=true›).1;have K5:=Y8 (rf:=rf);exact(GoE.endsT okF hJ Qf GoE.start (B6 B rf Qb)
    ⟨⟨trivial,(by have t_:=ji (rf) (Qb) (by omega);rw[q1]at t_;exact t_)⟩,Vb⟩).cast (by rfl)
 |false=>
  have K5:=Y8 (rf:=rf);exact(GoE.endsT okF hJ Qf GoE.start (B5 B rf Qb)
   ⟨⟨trivial,(by have t_:=jh (rf);rw[q0]at t_;exact t_)⟩,trivial⟩).cast (by rfl)
theorem EA(rf:Qe)(Qb:List Int)  :Q0 YP J0 35 #[.agg (Q1 rf).toArray,XF Qb] (.tuple #[.int .i64 (if Qy rf && QQ rf Qb then(Qo rf Qb).2.1 else 0),.int .i64 (if Qy rf && QQ rf Qb then(Qo rf Qb).2.2 else 0),.int .i64 (if Qy rf && QQ rf Qb then(if(Qo rf Qb).1 then 0 else 5)else 2)]):=
 XD (ts:=[.agg (Q1 rf).toArray,XF Qb]) Zs (c0:=Qq YP 35 36 (([.agg (Q1 rf).toArray,XF Qb]).map (Q5 0 4))) (by kernel_rfl) (by kernel_rfl) fun B hJ=>E9 rf Qb  hJ
end
end Go.Proofs.Ytncjjangllkokaa

namespace Go.Proofs.Ytncjjangllkokaa
open Go Go.CE Go.RowKit
noncomputable section
set_option maxRecDepth 100000
def ew(f:Int->Int)(i:Int):List Int:=(aj 0 i).map f
theorem ah{f:Int->Int}{i:Int}(h:0<=i):((ew f i).length:Int)=i:=by simp[ew,aj];omega
theorem eu{f:Int->Int}:ew f 1=[f 0]:=rfl
theorem UD{f:Int->Int}{i:Int}(h:0<=i):ew f i++[f i]=ew f (i+1):=by unfold ew;rw[jG h,List.map_append];rfl
def sV(b:Bool)(rf:Qe)(k:Int):Int:=bif b then Y2 rf.Qk (PI rf.Qa k).count else(PI rf.Qa k).count
def gV(b:Bool)(rf:Qe)(k:Int):Int:=bif b then(PI rf.Qa k).Sa else(PI rf.Qa k).WO
def kV(b:Bool)(rf:Qe)(p k:Int):Int:=bif b then(ZX p k (PI rf.Qa k)).lo else(ZX p k (PI rf.Qa k)).hi
theorem yc{b:Bool}{rf:Qe}:ew (sV b rf) rf.Qa.length=bif b then Lx rf else Zo rf:=by
 cases b
 ·show _=(rf.Qa.map (Xt rf.Qk)).map Tc;rw[List.map_map,dT];rfl
 ·show _=(rf.Qa.map (Xt rf.Qk)).map jo;rw[List.map_map,dT];rfl
theorem FB{b:Bool}{rf:Qe}:ew (gV b rf) rf.Qa.length=bif b then Ip rf else VL rf:=by
 cases b
 ·show _=(rf.Qa.map Xx).map Tc;rw[List.map_map,dT];rfl
 ·show _=(rf.Qa.map Xx).map jo;rw[List.map_map,dT];rfl
theorem Fv{b:Bool}{rf:Qe}{p:Int}:ew (kV b rf p) rf.Qa.length=bif b then Gp rf p else YJ rf p:=by
 cases b
 ·show _=(Xn rf.Qa p).map jo;unfold Xn Yj;rw[List.map_map];rfl
 ·show _=(Xn rf.Qa p).map Tc;unfold Xn Yj;rw[List.map_map];rfl
theorem Ao{rf:Qe}{p k:Int}(h:hasB p k=true):kV false rf p k=(PI rf.Qa k).ZD:=by unfold kV ZX;rw[h];rfl
theorem Ap{rf:Qe}{p k:Int}(h:hasB p k=false):kV false rf p k=(PI rf.Qa k).ZT:=by unfold kV ZX;rw[h];rfl
theorem Dd{rf:Qe}{g:Int->List Int}{rs:List RW}{s:Int}{m:Nat}(hl:∀k,(g k).length=rf.Qa.length)(h:rs=(aj 0 s).map fun z=>⟨rf.Qa.length,g z⟩)(hm:m=rs.length)(hs:s=rf.Qc):QJ m (Qg X1 rs)=QJ (Yj rf.Qc g).length (Qg Xq (Yj rf.Qc g)):=by
 subst hs;have e:Qg X1 rs=Qg Xq (Yj rf.Qc g):=by rw[h];exact r3 _ _ _ fun k _=>hl k
 have e2:m=(Yj rf.Qc g).length:=by rw[hm,h,Yj,List.length_map,List.length_map]
 rw[e,e2]
theorem H9{rf:Qe}:(VL rf).length=rf.Qa.length:=by simp[VL]
theorem Gq{rf:Qe}{p:Int}:(YJ rf p).length=rf.Qa.length:=by simp[YJ,WG]
theorem Ka{rf:Qe}:(Zo rf).length=rf.Qa.length:=by simp[Zo]
theorem dU{f:Int->RW}{s:Int}(h:0<=s):(((aj 0 s).map f).length:Int)=s:=by simp[aj];omega
def Wa(x_:Qd):Array Value:=#[.int .i64 x_.count,.int .i64 x_.room,.int .i64 x_.WO,.int .i64 x_.Sa,.int .i64 x_.QM,.int .i64 x_.XM,.int .i64 x_.K3,.int .i64 x_.ZT,.int .i64 x_.UI,.int .i64 x_.ZD,.int .i64 x_.goal,.int .i64 x_.Vh]
def Yo(x_:Qd):Array Value:=#[.int .i64 (if false=true then x_.UI else x_.K3),.int .i64 (if false=true then x_.ZD else x_.ZT)]
def Yn(x_:Qd):Array Value:=#[.int .i64 (if true=true then x_.UI else x_.K3),.int .i64 (if true=true then x_.ZD else x_.ZT)]
def Ra(rf:Qe):Array Value:=(Qg Qj rf.Qa)
def cI(Qb:List Int):Array Value:=#[.int .i64 (Qb.getD 0 ML)]
def Rb(rf:Qe):=(rf.Qa.getD 0 ML)
def JE(rf:Qe):=(Rb rf)
def X8(rf:Qe):=(JE rf)
def cK(rf:Qe):Array Value:=#[.int .i64 (Qd.WO (JE rf))]
def cJ(rf:Qe):Array Value:=(Qg Q9 [Qd.WO (JE rf)])
def u6(rf:Qe):Array Value:=#[.int .i64 (if false=true then Qd.ZD (JE rf)else Qd.ZT (JE rf))]
def u5(rf:Qe):Array Value:=#[.int .i64 (if true=true then Qd.ZD (JE rf)else Qd.ZT (JE rf))]
def u4(rf:Qe):Array Value:=(Qg Q9 [if false=true then Qd.ZD (Rb rf)else Qd.ZT (Rb rf)])
def u3(rf:Qe):Array Value:=(Qg Q9 [if true=true then Qd.ZD (Rb rf)else Qd.ZT (Rb rf)])
def aA(rf:Qe):Array Value:=(Qg Q9 [Qd.WO (X8 rf)])
def pL(rf:Qe):Array Value:=(Qg Q9 [if false=true then Qd.ZD (X8 rf)else Qd.ZT (X8 rf)])
def pK(rf:Qe):Array Value:=(Qg Q9 [if true=true then Qd.ZD (X8 rf)else Qd.ZT (X8 rf)])
def pJ(rf:Qe):Array Value:=#[.agg (Wa (rf.Qa.getD 0 ML)),.bool false]
def pI(rf:Qe):Array Value:=#[.agg (Wa (rf.Qa.getD 0 ML)),.bool true]
def Rd(rf:Qe)(Qb:List Int)(i:Int)(st:List Int)(sn:Nat):List Value:=[Qv 1 (QJ Qb.length (Qg Q9 Qb)),.bool false,pA 2 0,pA 3 0,pA 4 0,.int .i64 i]
def UO(rf:Qe)(Qb:List Int)(i:Int)(st:List Int)(sn:Nat):List Obj:=[Obj.cells #[Qv 1 (QJ rf.Qa.length (Qg Qj rf.Qa)),.int .i64 rf.Qk,.int .i64 rf.Qc] 24,Obj.cells #[.slice none 0 0,.slice none 0 0,.slice none 0 0] 42,.cells #[.slice (some ⟨5,0,none⟩) sn 1,.slice none 0 0,.slice none 0 0] 42 (0,0),.cells (Qg Q9 st) 3 (0,0)]
def Rf:List Item:=([.code [1,1,0,1,0,0],.inLoop [1,1,0,1,0,0],.inBlock 0,.code [1,1,1]]).map (it (Xf YP 34))
def DU(B:Lo)(c0:CF)(rf:Qe)(Qb:List Int)(i:Int)(st:List Int)(sn:Nat):Prop:=∃dJ:Nat->Value,(∀t,XP (dJ t))/\GoE YP B c0 Zn 1 (QO 34 104 (([1,2,3,6,7,8]:List Nat).zip (Rd rf Qb i st sn)) dJ Rf) (QN (UO rf Qb i st sn)) (2+(UO rf Qb i st sn).length) []
def Yq(rf:Qe)(Qb:List Int)(i:Int)(st gs ks:List Int)(sn gn kn:Nat):List Value:=[Qv 1 (QJ Qb.length (Qg Q9 Qb)),.bool false,pA 2 0,pA 3 0,pA 4 0,.int .i64 0,.slice (some ⟨6,0,none⟩) gn 1,.slice (some ⟨7,0,none⟩) kn 1,.int .i64 i]
def VJ(rf:Qe)(Qb:List Int)(i:Int)(st gs ks:List Int)(sn gn kn:Nat):List Obj:=[Obj.cells #[Qv 1 (QJ rf.Qa.length (Qg Qj rf.Qa)),.int .i64 rf.Qk,.int .i64 rf.Qc] 24,Obj.cells #[.slice none 0 0,.slice none 0 0,.slice none 0 0] 42,.cells #[.slice (some ⟨5,0,none⟩) sn 1,.slice none 0 0,.slice none 0 0] 42 (0,0),.cells (Qg Q9 st) 3 (0,0),.cells (Qg Q9 gs) 3 (0,0),.cells (Qg Q9 ks) 3 (0,0)]
def Ys:List Item:=([.code [1,1,1,0,1,0,0,1,0,0,1,0,1,0,0],.inLoop [1,1,1,0,1,0,0,1,0,0,1,0,1,0,0],.inBlock 4,.code [1,1,1,0,1,0,0,1,0,0,1,1],.inBlock 3,.code [1,1,1,0,1,0,0,1,1],.inLoop [1,1,1,0,1,0,0],.inBlock 2,.code [1,1,1,1]]).map (it (Xf YP 34))
def DT(B:Lo)(c0:CF)(rf:Qe)(Qb:List Int)(i:Int)(st gs ks:List Int)(sn gn kn:Nat):Prop:=∃dJ:Nat->Value,(∀t,XP (dJ t))/\GoE YP B c0 Zn 1 (QO 34 104 (([1,2,3,6,7,10,11,12,13]:List Nat).zip (Yq rf Qb i st gs ks sn gn kn)) dJ Ys) (QN (VJ rf Qb i st gs ks sn gn kn)) (2+(VJ rf Qb i st gs ks sn gn kn).length) []
def Yp(rf:Qe)(Qb:List Int)(s i:Int)(st gs ks:List Int)(gr kr:List RW)(sn gn kn gm km:Nat):List Value:=[Qv 1 (QJ Qb.length (Qg Q9 Qb)),.bool false,pA 2 0,pA 3 0,pA 4 0,.int .i64 s,.slice (some ⟨8,0,none⟩) gn 1,.slice (some ⟨9,0,none⟩) kn 1,.int .i64 i]
def VI(rf:Qe)(Qb:List Int)(s i:Int)(st gs ks:List Int)(gr kr:List RW)(sn gn kn gm km:Nat):List Obj:=[Obj.cells #[Qv 1 (QJ rf.Qa.length (Qg Qj rf.Qa)),.int .i64 rf.Qk,.int .i64 rf.Qc] 24,Obj.cells #[.slice none 0 0,.slice none 0 0,.slice none 0 0] 42,.cells #[.slice (some ⟨5,0,none⟩) sn 1,.slice (some ⟨6,0,none⟩) gm 1,.slice (some ⟨7,0,none⟩) km 1] 42 (0,0),.cells (Qg Q9 st) 3 (0,0),.cells (Qg (X9 1 X1) gr) 25 (0,0),.cells (Qg (X9 1 X1) kr) 25 (0,0),.cells (Qg Q9 gs) 3 (0,0),.cells (Qg Q9 ks) 3 (0,0)]
def Yr:List Item:=([.code [1,1,1,0,1,0,0,1,0,0,1,0,1,0,0],.inLoop [1,1,1,0,1,0,0,1,0,0,1,0,1,0,0],.inBlock 4,.code [1,1,1,0,1,0,0,1,0,0,1,1],.inBlock 3,.code [1,1,1,0,1,0,0,1,1],.inLoop [1,1,1,0,1,0,0],.inBlock 2,.code [1,1,1,1]]).map (it (Xf YP 34))
def DS(B:Lo)(c0:CF)(rf:Qe)(Qb:List Int)(s i:Int)(st gs ks:List Int)(gr kr:List RW)(sn gn kn gm km:Nat):Prop:=∃dJ:Nat->Value,(∀t,XP (dJ t))/\GoE YP B c0 Zn 1 (QO 34 104 (([1,2,3,6,7,10,11,12,13]:List Nat).zip (Yp rf Qb s i st gs ks gr kr sn gn kn gm km)) dJ Yr) (QN (VI rf Qb s i st gs ks gr kr sn gn kn gm km)) (2+(VI rf Qb s i st gs ks gr kr sn gn kn gm km).length) []
def Rc(rf:Qe)(Qb:List Int)(s:Int)(st:List Int)(gr kr:List RW)(sn gm km:Nat):List Value:=[Qv 1 (QJ Qb.length (Qg Q9 Qb)),.bool false,pA 2 0,pA 3 0,pA 4 0,.int .i64 s]
def UN(rf:Qe)(Qb:List Int)(s:Int)(st:List Int)(gr kr:List RW)(sn gm km:Nat):List Obj:=[Obj.cells #[Qv 1 (QJ rf.Qa.length (Qg Qj rf.Qa)),.int .i64 rf.Qk,.int .i64 rf.Qc] 24,Obj.cells #[.slice none 0 0,.slice none 0 0,.slice none 0 0] 42,.cells #[.slice (some ⟨5,0,none⟩) sn 1,.slice (some ⟨6,0,none⟩) gm 1,.slice (some ⟨7,0,none⟩) km 1] 42 (0,0),.cells (Qg Q9 st) 3 (0,0),.cells (Qg (X9 1 X1) gr) 25 (0,0),.cells (Qg (X9 1 X1) kr) 25 (0,0)]
def Re:List Item:=([.code [1,1,1,0,1,0,0],.inLoop [1,1,1,0,1,0,0],.inBlock 2,.code [1,1,1,1]]).map (it (Xf YP 34))
def DR(B:Lo)(c0:CF)(rf:Qe)(Qb:List Int)(s:Int)(st:List Int)(gr kr:List RW)(sn gm km:Nat):Prop:=∃dJ:Nat->Value,(∀t,XP (dJ t))/\GoE YP B c0 Zn 1 (QO 34 104 (([1,2,3,6,7,10]:List Nat).zip (Rc rf Qb s st gr kr sn gm km)) dJ Re) (QN (UN rf Qb s st gr kr sn gm km)) (2+(UN rf Qb s st gr kr sn gm km).length) []
theorem DP(B:Lo)(rf:Qe)(Qb:List Int)(i:Int)(st:List Int)(sn:Nat)(Qt:Nat->Value):landM (Qu YP (Q8 YP) J0 B 18 1 (QO 34 104 (([1,2,3,6,7,8]:List Nat).zip (Rd rf Qb i st sn)) Qt Rf) (QN (UO rf Qb i st sn)) (2+(UO rf Qb i st sn).length)
 [(4,WR),(8,Ql.tidx i.toNat (Wa (rf.Qa.getD i.toNat ML))),(17,Ql.WM (Hint.app (Qg Q9 (st++[Qd.count (rf.Qa.getD i.toNat ML)])))),(21,U2 (i+1))] 0 [] []) [1,2,3,6,7,8] [(2,KS.auto),(3,KS.auto),(4,KS.auto),(7,KS.cells [] (Qg Q9 (st++[Qd.count (rf.Qa.getD i.toNat ML)])))] []=some ⟨34,104,Rf,[],.run,none,Rd rf Qb (i+1) (st++[Qd.count (rf.Qa.getD i.toNat ML)]) (sn+1),UO rf Qb (i+1) (st++[Qd.count (rf.Qa.getD i.toNat ML)]) (sn+1),
 [XV 1 [] (Qg Q9 (st++[Qd.count (rf.Qa.getD i.toNat ML)])) (Qg Q9 (st++[Qd.count (rf.Qa.getD i.toNat ML)])),wq (i+1)=i+1,ou (Qg Q9 st) #[.int .i64 (Qd.count (rf.Qa.getD i.toNat ML))] (Qg Q9 (st++[Qd.count (rf.Qa.getD i.toNat ML)])) sn (0+1) 8,Ug i rf.Qa.length (Ra rf) Try.t54.size (Wa (rf.Qa.getD i.toNat ML)),Zq i (↑rf.Qa.length:Int)=true]⟩:=by kernel_rfl
def uE(B:Lo)(rf:Qe)(Qb:List Int)(i:Int)(st:List Int)(sn:Nat)(Qt:Nat->Value):List Prop:=[Zq i (↑rf.Qa.length:Int)=false]++([]:List Prop)
def uB(rf:Qe)(Qb:List Int)(i:Int)(st:List Int)(sn:Nat)(Qt:Nat->Value):QB:=[(4,Vs),(9,WR),(17,WR),(21,Ql.tidx 0 (Wa (rf.Qa.getD 0 ML))),(31,Ql.tidx 0 (cI Qb))]
def uD(B:Lo)(rf:Qe)(Qb:List Int)(i:Int)(st:List Int)(sn:Nat)(Qt:Nat->Value):List Prop:=[Zq 0 rf.Qc=true]++uE B rf Qb i st sn Qt
def kH(B:Lo)(rf:Qe)(Qb:List Int)(i:Int)(st:List Int)(sn:Nat)(Qt:Nat->Value):List Prop:=[0=(↑0:Int)/\0<MO Qb/\Nu (Qg Q9 Qb) (0*TypeInfo.size Try.t3) (0*TypeInfo.size Try.t3+TypeInfo.size Try.t3)=(cI Qb),0=(↑0:Int)/\0<MO rf.Qa/\Nu (Ra rf) (0*TypeInfo.size Try.t54) (0*TypeInfo.size Try.t54+TypeInfo.size Try.t54)=(Wa (rf.Qa.getD 0 ML)),Zq 0 (↑rf.Qa.length:Int)=true]++uD B rf Qb i st sn Qt
theorem DO(B:Lo)(rf:Qe)(Qb:List Int)(i:Int)(st:List Int)(sn:Nat)(Qt:Nat->Value):landM (Qu YP (Q8 YP) J0 B 44 1 (QO 34 104 (([1,2,3,6,7,8]:List Nat).zip (Rd rf Qb i st sn)) Qt Rf) (QN (UO rf Qb i st sn)) (2+(UO rf Qb i st sn).length)
 (uB rf Qb i st sn Qt++[(34,Ql.pure (.bool true) []),(35,Ql.pure (.agg (Yn (X8 rf))) [])]) 0 [] []) [1,2,3,6,7,10,11,12,13] [(2,KS.auto),(3,KS.auto),(4,KS.auto),(5,KS.cells [] (Qg Q9 st)),(8,KS.cells [] (aA rf)),(10,KS.cells [] (pK rf))] []=some ⟨34,104,Ys,[],.run,none,Yq rf Qb (1) (st) ([Qd.WO (X8 rf)]) ([if true=true then Qd.ZD (X8 rf)else Qd.ZT (X8 rf)]) (sn) (1) (1),VJ rf Qb (1) (st) ([Qd.WO (X8 rf)]) ([if true=true then Qd.ZD (X8 rf)else Qd.ZT (X8 rf)]) (sn) (1) (1),
 [XV 1 [] (Qg Q9 st) (Qg Q9 st),XV 1 [] ((cK rf)) (cJ rf),XV 1 [] ((u5 rf)) (u3 rf),Q3 []/\Q0 YP J0 61 (pI rf) (.agg (Yn (rf.Qa.getD 0 ML))),Q3 []/\Q0 YP J0 47 #[.int .i64 (Qb.getD 0 ML),.int .i64 0] (.bool true)]++kH B rf Qb i st sn Qt⟩:=by kernel_rfl
theorem DN(B:Lo)(rf:Qe)(Qb:List Int)(i:Int)(st:List Int)(sn:Nat)(Qt:Nat->Value):landM (Qu YP (Q8 YP) J0 B 44 1 (QO 34 104 (([1,2,3,6,7,8]:List Nat).zip (Rd rf Qb i st sn)) Qt Rf) (QN (UO rf Qb i st sn)) (2+(UO rf Qb i st sn).length)
 (uB rf Qb i st sn Qt++[(34,Ql.pure (.bool false) []),(35,Ql.pure (.agg (Yo (X8 rf))) [])]) 0 [] []) [1,2,3,6,7,10,11,12,13] [(2,KS.auto),(3,KS.auto),(4,KS.auto),(5,KS.cells [] (Qg Q9 st)),(8,KS.cells [] (aA rf)),(10,KS.cells [] (pL rf))] []=some ⟨34,104,Ys,[],.run,none,Yq rf Qb (1) (st) ([Qd.WO (X8 rf)]) ([if false=true then Qd.ZD (X8 rf)else Qd.ZT (X8 rf)]) (sn) (1) (1),VJ rf Qb (1) (st) ([Qd.WO (X8 rf)]) ([if false=true then Qd.ZD (X8 rf)else Qd.ZT (X8 rf)]) (sn) (1) (1),
 [XV 1 [] (Qg Q9 st) (Qg Q9 st),XV 1 [] ((cK rf)) (cJ rf),XV 1 [] ((u6 rf)) (u4 rf),Q3 []/\Q0 YP J0 61 (pJ rf) (.agg (Yo (rf.Qa.getD 0 ML))),Q3 []/\Q0 YP J0 47 #[.int .i64 (Qb.getD 0 ML),.int .i64 0] (.bool false)]++kH B rf Qb i st sn Qt⟩:=by kernel_rfl
def kG(B:Lo)(rf:Qe)(Qb:List Int)(i:Int)(st gs ks:List Int)(sn gn kn:Nat)(Qt:Nat->Value):List Prop:=[0=(↑0:Int)/\0<MO Qb/\Nu (Qg Q9 Qb) (0*TypeInfo.size Try.t3) (0*TypeInfo.size Try.t3+TypeInfo.size Try.t3)=(cI Qb),Ug i rf.Qa.length (Ra rf) Try.t54.size (Wa (rf.Qa.getD i.toNat ML)),Zq i (↑rf.Qa.length:Int)=true]++([]:List Prop)
def uA(rf:Qe)(Qb:List Int)(i:Int)(st gs ks:List Int)(sn gn kn:Nat)(Qt:Nat->Value):QB:=[(4,WR),(8,Ql.tidx i.toNat (Wa (rf.Qa.getD i.toNat ML))),(18,Ql.tidx 0 (cI Qb))]
theorem DM(B:Lo)(rf:Qe)(Qb:List Int)(i:Int)(st gs ks:List Int)(sn gn kn:Nat)(Qt:Nat->Value):landM (Qu YP (Q8 YP) J0 B 20 1 (QO 34 104 (([1,2,3,6,7,10,11,12,13]:List Nat).zip (Yq rf Qb i st gs ks sn gn kn)) Qt Ys) (QN (VJ rf Qb i st gs ks sn gn kn)) (2+(VJ rf Qb i st gs ks sn gn kn).length)
 (uA rf Qb i st gs ks sn gn kn Qt++[(21,Ql.pure (.bool true) []),(22,Ql.pure (.agg (Yn (rf.Qa.getD i.toNat ML))) []),(30,Ql.WM (Hint.app (Qg Q9 (gs++[Qd.WO (rf.Qa.getD i.toNat ML)])))),(34,Ql.WM (Hint.app (Qg Q9 (ks++[if true=true then Qd.ZD (rf.Qa.getD i.toNat ML)else Qd.ZT (rf.Qa.getD i.toNat ML)])))),(38,U2 (i+1))]) 0 [] []) [1,2,3,6,7,10,11,12,13] [(2,KS.auto),(3,KS.auto),(4,KS.auto),(5,KS.cells [] (Qg Q9 st)),(10,KS.cells [] (Qg Q9 (gs++[Qd.WO (rf.Qa.getD i.toNat ML)]))),(12,KS.cells [] (Qg Q9 (ks++[if true=true then Qd.ZD (rf.Qa.getD i.toNat ML)else Qd.ZT (rf.Qa.getD i.toNat ML)])))] []=some ⟨34,104,Ys,[],.run,none,Yq rf Qb (i+1) (st) (gs++[Qd.WO (rf.Qa.getD i.toNat ML)]) (ks++[if true=true then Qd.ZD (rf.Qa.getD i.toNat ML)else Qd.ZT (rf.Qa.getD i.toNat ML)]) (sn) (gn+1) (kn+1),VJ rf Qb (i+1) (st) (gs++[Qd.WO (rf.Qa.getD i.toNat ML)]) (ks++[if true=true then Qd.ZD (rf.Qa.getD i.toNat ML)else Qd.ZT (rf.Qa.getD i.toNat ML)]) (sn) (gn+1) (kn+1),
 [XV 1 [] (Qg Q9 st) (Qg Q9 st),XV 1 [] (Qg Q9 (gs++[Qd.WO (rf.Qa.getD i.toNat ML)])) (Qg Q9 (gs++[Qd.WO (rf.Qa.getD i.toNat ML)])),XV 1 [] (Qg Q9 (ks++[if true=true then Qd.ZD (rf.Qa.getD i.toNat ML)else Qd.ZT (rf.Qa.getD i.toNat ML)])) (Qg Q9 (ks++[if true=true then Qd.ZD (rf.Qa.getD i.toNat ML)else Qd.ZT (rf.Qa.getD i.toNat ML)])),wq (i+1)=i+1,ou (Qg Q9 ks) #[.int .i64 (if true=true then Qd.ZD (rf.Qa.getD i.toNat ML)else Qd.ZT (rf.Qa.getD i.toNat ML))] (Qg Q9 (ks++[if true=true then Qd.ZD (rf.Qa.getD i.toNat ML)else Qd.ZT (rf.Qa.getD i.toNat ML)])) kn (0+1) 8,ou (Qg Q9 gs) #[.int .i64 (Qd.WO (rf.Qa.getD i.toNat ML))] (Qg Q9 (gs++[Qd.WO (rf.Qa.getD i.toNat ML)])) gn (0+1) 8,Q3 []/\Q0 YP J0 61 #[.agg (Wa (rf.Qa.getD i.toNat ML)),.bool true] (.agg (Yn (rf.Qa.getD i.toNat ML))),Q3 []/\Q0 YP J0 47 #[.int .i64 (Qb.getD 0 ML),.int .i64 i] (.bool true)]++kG B rf Qb i st gs ks sn gn kn Qt⟩:=by kernel_rfl
theorem DL(B:Lo)(rf:Qe)(Qb:List Int)(i:Int)(st gs ks:List Int)(sn gn kn:Nat)(Qt:Nat->Value):landM (Qu YP (Q8 YP) J0 B 20 1 (QO 34 104 (([1,2,3,6,7,10,11,12,13]:List Nat).zip (Yq rf Qb i st gs ks sn gn kn)) Qt Ys) (QN (VJ rf Qb i st gs ks sn gn kn)) (2+(VJ rf Qb i st gs ks sn gn kn).length)
 (uA rf Qb i st gs ks sn gn kn Qt++[(21,Ql.pure (.bool false) []),(22,Ql.pure (.agg (Yo (rf.Qa.getD i.toNat ML))) []),(30,Ql.WM (Hint.app (Qg Q9 (gs++[Qd.WO (rf.Qa.getD i.toNat ML)])))),(34,Ql.WM (Hint.app (Qg Q9 (ks++[if false=true then Qd.ZD (rf.Qa.getD i.toNat ML)else Qd.ZT (rf.Qa.getD i.toNat ML)])))),(38,U2 (i+1))]) 0 [] []) [1,2,3,6,7,10,11,12,13] [(2,KS.auto),(3,KS.auto),(4,KS.auto),(5,KS.cells [] (Qg Q9 st)),(10,KS.cells [] (Qg Q9 (gs++[Qd.WO (rf.Qa.getD i.toNat ML)]))),(12,KS.cells [] (Qg Q9 (ks++[if false=true then Qd.ZD (rf.Qa.getD i.toNat ML)else Qd.ZT (rf.Qa.getD i.toNat ML)])))] []=some ⟨34,104,Ys,[],.run,none,Yq rf Qb (i+1) (st) (gs++[Qd.WO (rf.Qa.getD i.toNat ML)]) (ks++[if false=true then Qd.ZD (rf.Qa.getD i.toNat ML)else Qd.ZT (rf.Qa.getD i.toNat ML)]) (sn) (gn+1) (kn+1),VJ rf Qb (i+1) (st) (gs++[Qd.WO (rf.Qa.getD i.toNat ML)]) (ks++[if false=true then Qd.ZD (rf.Qa.getD i.toNat ML)else Qd.ZT (rf.Qa.getD i.toNat ML)]) (sn) (gn+1) (kn+1),
 [XV 1 [] (Qg Q9 st) (Qg Q9 st),XV 1 [] (Qg Q9 (gs++[Qd.WO (rf.Qa.getD i.toNat ML)])) (Qg Q9 (gs++[Qd.WO (rf.Qa.getD i.toNat ML)])),XV 1 [] (Qg Q9 (ks++[if false=true then Qd.ZD (rf.Qa.getD i.toNat ML)else Qd.ZT (rf.Qa.getD i.toNat ML)])) (Qg Q9 (ks++[if false=true then Qd.ZD (rf.Qa.getD i.toNat ML)else Qd.ZT (rf.Qa.getD i.toNat ML)])),wq (i+1)=i+1,ou (Qg Q9 ks) #[.int .i64 (if false=true then Qd.ZD (rf.Qa.getD i.toNat ML)else Qd.ZT (rf.Qa.getD i.toNat ML))] (Qg Q9 (ks++[if false=true then Qd.ZD (rf.Qa.getD i.toNat ML)else Qd.ZT (rf.Qa.getD i.toNat ML)])) kn (0+1) 8,ou (Qg Q9 gs) #[.int .i64 (Qd.WO (rf.Qa.getD i.toNat ML))] (Qg Q9 (gs++[Qd.WO (rf.Qa.getD i.toNat ML)])) gn (0+1) 8,Q3 []/\Q0 YP J0 61 #[.agg (Wa (rf.Qa.getD i.toNat ML)),.bool false] (.agg (Yo (rf.Qa.getD i.toNat ML))),Q3 []/\Q0 YP J0 47 #[.int .i64 (Qb.getD 0 ML),.int .i64 i] (.bool false)]++kG B rf Qb i st gs ks sn gn kn Qt⟩:=by kernel_rfl
theorem DK(B:Lo)(rf:Qe)(Qb:List Int)(i:Int)(st gs ks:List Int)(sn gn kn:Nat)(Qt:Nat->Value):landM (Qu YP (Q8 YP) J0 B 9 1 (QO 34 104 (([1,2,3,6,7,10,11,12,13]:List Nat).zip (Yq rf Qb i st gs ks sn gn kn)) Qt Ys) (QN (VJ rf Qb i st gs ks sn gn kn)) (2+(VJ rf Qb i st gs ks sn gn kn).length)
 [(4,Vs)] 0 [] []) [1,2,3,6,7,10] [(2,KS.auto),(3,KS.auto),(4,KS.auto),(5,KS.cells [] (Qg Q9 st)),(9,KS.rows [] [6] [] (Qg (X9 1 X1) [{n:=gn,l:=gs}])),(11,KS.rows [] [7] [] (Qg (X9 1 X1) [{n:=kn,l:=ks}]))] [{k:=6,rs:=[],cs:=Qg Q9 gs},{k:=7,rs:=[],cs:=Qg Q9 ks}]=some ⟨34,104,Re,[],.run,none,Rc rf Qb (1) (st) ([{n:=gn,l:=gs}]) ([{n:=kn,l:=ks}]) (sn) (1) (1),UN rf Qb (1) (st) ([{n:=gn,l:=gs}]) ([{n:=kn,l:=ks}]) (sn) (1) (1),
 [XV 1 [] (Qg Q9 st) (Qg Q9 st),Zj 1 [] [(6,Fz.cs {k:=6,rs:=[],cs:=Qg Q9 gs})] [] #[.slice (some {block:=6,off:=0}) gn 1] (Qg (X9 1 X1) [{n:=gn,l:=gs}]),ZY (Fz.rs {k:=6,rs:=[],cs:=Qg Q9 gs}) (Qg Q9 gs) (Fz.cs {k:=6,rs:=[],cs:=Qg Q9 gs}),Zj 1 [] [(7,Fz.cs {k:=7,rs:=[],cs:=Qg Q9 ks})] [] #[.slice (some {block:=7,off:=0}) kn 1] (Qg (X9 1 X1) [{n:=kn,l:=ks}]),ZY (Fz.rs {k:=7,rs:=[],cs:=Qg Q9 ks}) (Qg Q9 ks) (Fz.cs {k:=7,rs:=[],cs:=Qg Q9 ks}),Zq i (↑rf.Qa.length:Int)=false]⟩:=by kernel_rfl
def kF(B:Lo)(rf:Qe)(Qb:List Int)(s i:Int)(st gs ks:List Int)(gr kr:List RW)(sn gn kn gm km:Nat)(Qt:Nat->Value):List Prop:=[Ug s Qb.length (Qg Q9 Qb) Try.t3.size #[.int .i64 (Qb.getD s.toNat ML)],Ug i rf.Qa.length (Ra rf) Try.t54.size (Wa (rf.Qa.getD i.toNat ML)),Zq i (↑rf.Qa.length:Int)=true]++([]:List Prop)
def u9(rf:Qe)(Qb:List Int)(s i:Int)(st gs ks:List Int)(gr kr:List RW)(sn gn kn gm km:Nat)(Qt:Nat->Value):QB:=[(4,WR),(8,Ql.tidx i.toNat (Wa (rf.Qa.getD i.toNat ML))),(18,Ql.tidx s.toNat #[.int .i64 (Qb.getD s.toNat ML)])]
theorem DJ(B:Lo)(rf:Qe)(Qb:List Int)(s i:Int)(st gs ks:List Int)(gr kr:List RW)(sn gn kn gm km:Nat)(Qt:Nat->Value):landM (Qu YP (Q8 YP) J0 B 20 1 (QO 34 104 (([1,2,3,6,7,10,11,12,13]:List Nat).zip (Yp rf Qb s i st gs ks gr kr sn gn kn gm km)) Qt Yr) (QN (VI rf Qb s i st gs ks gr kr sn gn kn gm km)) (2+(VI rf Qb s i st gs ks gr kr sn gn kn gm km).length)
 (u9 rf Qb s i st gs ks gr kr sn gn kn gm km Qt++[(21,Ql.pure (.bool true) []),(22,Ql.pure (.agg (Yn (rf.Qa.getD i.toNat ML))) []),(30,Ql.WM (Hint.app (Qg Q9 (gs++[Qd.WO (rf.Qa.getD i.toNat ML)])))),(34,Ql.WM (Hint.app (Qg Q9 (ks++[if true=true then Qd.ZD (rf.Qa.getD i.toNat ML)else Qd.ZT (rf.Qa.getD i.toNat ML)])))),(38,U2 (i+1))]) 0 [] []) [1,2,3,6,7,10,11,12,13] [(2,KS.auto),(3,KS.auto),(4,KS.auto),(5,KS.cells [] (Qg Q9 st)),(6,KS.rows [(1,1)] [] [] (Qg (X9 1 X1) gr)),(7,KS.rows [(1,1)] [] [] (Qg (X9 1 X1) kr)),(12,KS.cells [] (Qg Q9 (gs++[Qd.WO (rf.Qa.getD i.toNat ML)]))),(14,KS.cells [] (Qg Q9 (ks++[if true=true then Qd.ZD (rf.Qa.getD i.toNat ML)else Qd.ZT (rf.Qa.getD i.toNat ML)])))] []=some ⟨34,104,Yr,[],.run,none,Yp rf Qb (s) (i+1) (st) (gs++[Qd.WO (rf.Qa.getD i.toNat ML)]) (ks++[if true=true then Qd.ZD (rf.Qa.getD i.toNat ML)else Qd.ZT (rf.Qa.getD i.toNat ML)]) (gr) (kr) (sn) (gn+1) (kn+1) (gm) (km),VI rf Qb (s) (i+1) (st) (gs++[Qd.WO (rf.Qa.getD i.toNat ML)]) (ks++[if true=true then Qd.ZD (rf.Qa.getD i.toNat ML)else Qd.ZT (rf.Qa.getD i.toNat ML)]) (gr) (kr) (sn) (gn+1) (kn+1) (gm) (km),
 [XV 1 [] (Qg Q9 st) (Qg Q9 st),Zj 1 [(1,1)] [] [] (Qg (X9 1 X1) gr) (Qg (X9 1 X1) gr),Zj 1 [(1,1)] [] [] (Qg (X9 1 X1) kr) (Qg (X9 1 X1) kr),XV 1 [] (Qg Q9 (gs++[Qd.WO (rf.Qa.getD i.toNat ML)])) (Qg Q9 (gs++[Qd.WO (rf.Qa.getD i.toNat ML)])),XV 1 [] (Qg Q9 (ks++[if true=true then Qd.ZD (rf.Qa.getD i.toNat ML)else Qd.ZT (rf.Qa.getD i.toNat ML)])) (Qg Q9 (ks++[if true=true then Qd.ZD (rf.Qa.getD i.toNat ML)else Qd.ZT (rf.Qa.getD i.toNat ML)])),wq (i+1)=i+1,ou (Qg Q9 ks) #[.int .i64 (if true=true then Qd.ZD (rf.Qa.getD i.toNat ML)else Qd.ZT (rf.Qa.getD i.toNat ML))] (Qg Q9 (ks++[if true=true then Qd.ZD (rf.Qa.getD i.toNat ML)else Qd.ZT (rf.Qa.getD i.toNat ML)])) kn (0+1) 8,ou (Qg Q9 gs) #[.int .i64 (Qd.WO (rf.Qa.getD i.toNat ML))] (Qg Q9 (gs++[Qd.WO (rf.Qa.getD i.toNat ML)])) gn (0+1) 8,Q3 []/\Q0 YP J0 61 #[.agg (Wa (rf.Qa.getD i.toNat ML)),.bool true] (.agg (Yn (rf.Qa.getD i.toNat ML))),Q3 []/\Q0 YP J0 47 #[.int .i64 (Qb.getD s.toNat ML),.int .i64 i] (.bool true)]++kF B rf Qb s i st gs ks gr kr sn gn kn gm km Qt⟩:=by kernel_rfl
theorem DI(B:Lo)(rf:Qe)(Qb:List Int)(s i:Int)(st gs ks:List Int)(gr kr:List RW)(sn gn kn gm km:Nat)(Qt:Nat->Value):landM (Qu YP (Q8 YP) J0 B 20 1 (QO 34 104 (([1,2,3,6,7,10,11,12,13]:List Nat).zip (Yp rf Qb s i st gs ks gr kr sn gn kn gm km)) Qt Yr) (QN (VI rf Qb s i st gs ks gr kr sn gn kn gm km)) (2+(VI rf Qb s i st gs ks gr kr sn gn kn gm km).length)
 (u9 rf Qb s i st gs ks gr kr sn gn kn gm km Qt++[(21,Ql.pure (.bool false) []),(22,Ql.pure (.agg (Yo (rf.Qa.getD i.toNat ML))) []),(30,Ql.WM (Hint.app (Qg Q9 (gs++[Qd.WO (rf.Qa.getD i.toNat ML)])))),(34,Ql.WM (Hint.app (Qg Q9 (ks++[if false=true then Qd.ZD (rf.Qa.getD i.toNat ML)else Qd.ZT (rf.Qa.getD i.toNat ML)])))),(38,U2 (i+1))]) 0 [] []) [1,2,3,6,7,10,11,12,13] [(2,KS.auto),(3,KS.auto),(4,KS.auto),(5,KS.cells [] (Qg Q9 st)),(6,KS.rows [(1,1)] [] [] (Qg (X9 1 X1) gr)),(7,KS.rows [(1,1)] [] [] (Qg (X9 1 X1) kr)),(12,KS.cells [] (Qg Q9 (gs++[Qd.WO (rf.Qa.getD i.toNat ML)]))),(14,KS.cells [] (Qg Q9 (ks++[if false=true then Qd.ZD (rf.Qa.getD i.toNat ML)else Qd.ZT (rf.Qa.getD i.toNat ML)])))] []=some ⟨34,104,Yr,[],.run,none,Yp rf Qb (s) (i+1) (st) (gs++[Qd.WO (rf.Qa.getD i.toNat ML)]) (ks++[if false=true then Qd.ZD (rf.Qa.getD i.toNat ML)else Qd.ZT (rf.Qa.getD i.toNat ML)]) (gr) (kr) (sn) (gn+1) (kn+1) (gm) (km),VI rf Qb (s) (i+1) (st) (gs++[Qd.WO (rf.Qa.getD i.toNat ML)]) (ks++[if false=true then Qd.ZD (rf.Qa.getD i.toNat ML)else Qd.ZT (rf.Qa.getD i.toNat ML)]) (gr) (kr) (sn) (gn+1) (kn+1) (gm) (km),
 [XV 1 [] (Qg Q9 st) (Qg Q9 st),Zj 1 [(1,1)] [] [] (Qg (X9 1 X1) gr) (Qg (X9 1 X1) gr),Zj 1 [(1,1)] [] [] (Qg (X9 1 X1) kr) (Qg (X9 1 X1) kr),XV 1 [] (Qg Q9 (gs++[Qd.WO (rf.Qa.getD i.toNat ML)])) (Qg Q9 (gs++[Qd.WO (rf.Qa.getD i.toNat ML)])),XV 1 [] (Qg Q9 (ks++[if false=true then Qd.ZD (rf.Qa.getD i.toNat ML)else Qd.ZT (rf.Qa.getD i.toNat ML)])) (Qg Q9 (ks++[if false=true then Qd.ZD (rf.Qa.getD i.toNat ML)else Qd.ZT (rf.Qa.getD i.toNat ML)])),wq (i+1)=i+1,ou (Qg Q9 ks) #[.int .i64 (if false=true then Qd.ZD (rf.Qa.getD i.toNat ML)else Qd.ZT (rf.Qa.getD i.toNat ML))] (Qg Q9 (ks++[if false=true then Qd.ZD (rf.Qa.getD i.toNat ML)else Qd.ZT (rf.Qa.getD i.toNat ML)])) kn (0+1) 8,ou (Qg Q9 gs) #[.int .i64 (Qd.WO (rf.Qa.getD i.toNat ML))] (Qg Q9 (gs++[Qd.WO (rf.Qa.getD i.toNat ML)])) gn (0+1) 8,Q3 []/\Q0 YP J0 61 #[.agg (Wa (rf.Qa.getD i.toNat ML)),.bool false] (.agg (Yo (rf.Qa.getD i.toNat ML))),Q3 []/\Q0 YP J0 47 #[.int .i64 (Qb.getD s.toNat ML),.int .i64 i] (.bool false)]++kF B rf Qb s i st gs ks gr kr sn gn kn gm km Qt⟩:=by kernel_rfl
theorem DH(B:Lo)(rf:Qe)(Qb:List Int)(s i:Int)(st gs ks:List Int)(gr kr:List RW)(sn gn kn gm km:Nat)(Qt:Nat->Value):landM (Qu YP (Q8 YP) J0 B 9 1 (QO 34 104 (([1,2,3,6,7,10,11,12,13]:List Nat).zip (Yp rf Qb s i st gs ks gr kr sn gn kn gm km)) Qt Yr) (QN (VI rf Qb s i st gs ks gr kr sn gn kn gm km)) (2+(VI rf Qb s i st gs ks gr kr sn gn kn gm km).length)
 [(4,Vs),(9,Ql.WM (Hint.app (Qg (X9 1 X1) gr++#[.slice (some {block:=8,off:=0}) gn 1]))),(14,Ql.WM (Hint.app (Qg (X9 1 X1) kr++#[.slice (some {block:=9,off:=0}) kn 1]))),(20,U2 (s+1))] 0 [] []) [1,2,3,6,7,10] [(2,KS.auto),(3,KS.auto),(4,KS.auto),(5,KS.cells [] (Qg Q9 st)),(11,KS.rows [(1,1)] [8] [] (Qg (X9 1 X1) (gr++[{n:=gn,l:=gs}]))),(13,KS.rows [(1,1)] [9] [] (Qg (X9 1 X1) (kr++[{n:=kn,l:=ks}])))] [{k:=8,rs:=[],cs:=Qg Q9 gs},{k:=9,rs:=[],cs:=Qg Q9 ks}]=some ⟨34,104,Re,[],.run,none,Rc rf Qb (s+1) (st) (gr++[{n:=gn,l:=gs}]) (kr++[{n:=kn,l:=ks}]) (sn) (gm+1) (km+1),UN rf Qb (s+1) (st) (gr++[{n:=gn,l:=gs}]) (kr++[{n:=kn,l:=ks}]) (sn) (gm+1) (km+1),
 [XV 1 [] (Qg Q9 st) (Qg Q9 st),Zj 1 [(1,1)] [(8,Fz.cs {k:=8,rs:=[],cs:=Qg Q9 gs})] [] (Qg (X9 1 X1) gr++#[.slice (some {block:=8,off:=0}) gn 1]) (Qg (X9 1 X1) (gr++[{n:=gn,l:=gs}])),ZY (Fz.rs {k:=8,rs:=[],cs:=Qg Q9 gs}) (Qg Q9 gs) (Fz.cs {k:=8,rs:=[],cs:=Qg Q9 gs}),Zj 1 [(1,1)] [(9,Fz.cs {k:=9,rs:=[],cs:=Qg Q9 ks})] [] (Qg (X9 1 X1) kr++#[.slice (some {block:=9,off:=0}) kn 1]) (Qg (X9 1 X1) (kr++[{n:=kn,l:=ks}])),ZY (Fz.rs {k:=9,rs:=[],cs:=Qg Q9 ks}) (Qg Q9 ks) (Fz.cs {k:=9,rs:=[],cs:=Qg Q9 ks}),wq (s+1)=s+1,ou ((Qg (X9 1 X1) kr)) #[.slice (some {block:=9,off:=0}) kn 1] (Qg (X9 1 X1) kr++#[.slice (some {block:=9,off:=0}) kn 1]) km (0+1) 24,ou ((Qg (X9 1 X1) gr)) #[.slice (some {block:=8,off:=0}) gn 1] (Qg (X9 1 X1) gr++#[.slice (some {block:=8,off:=0}) gn 1]) gm (0+1) 24,Zq i (↑rf.Qa.length:Int)=false]⟩:=by kernel_rfl
def uC(B:Lo)(rf:Qe)(Qb:List Int)(s:Int)(st:List Int)(gr kr:List RW)(sn gm km:Nat)(Qt:Nat->Value):List Prop:=[Zq s rf.Qc=true]++([]:List Prop)
def u7(rf:Qe)(Qb:List Int)(s:Int)(st:List Int)(gr kr:List RW)(sn gm km:Nat)(Qt:Nat->Value):QB:=[(3,WR),(11,WR),(15,Ql.tidx 0 (Wa (rf.Qa.getD 0 ML))),(25,Ql.tidx s.toNat #[.int .i64 (Qb.getD s.toNat ML)])]
def kE(B:Lo)(rf:Qe)(Qb:List Int)(s:Int)(st:List Int)(gr kr:List RW)(sn gm km:Nat)(Qt:Nat->Value):List Prop:=[Ug s Qb.length (Qg Q9 Qb) Try.t3.size #[.int .i64 (Qb.getD s.toNat ML)],0=(↑0:Int)/\0<MO rf.Qa/\Nu (Ra rf) (0*TypeInfo.size Try.t54) (0*TypeInfo.size Try.t54+TypeInfo.size Try.t54)=(Wa (rf.Qa.getD 0 ML)),Zq 0 (↑rf.Qa.length:Int)=true]++uC B rf Qb s st gr kr sn gm km Qt
theorem DG(B:Lo)(rf:Qe)(Qb:List Int)(s:Int)(st:List Int)(gr kr:List RW)(sn gm km:Nat)(Qt:Nat->Value):landM (Qu YP (Q8 YP) J0 B 34 1 (QO 34 104 (([1,2,3,6,7,10]:List Nat).zip (Rc rf Qb s st gr kr sn gm km)) Qt Re) (QN (UN rf Qb s st gr kr sn gm km)) (2+(UN rf Qb s st gr kr sn gm km).length)
 (u7 rf Qb s st gr kr sn gm km Qt++[(28,Ql.pure (.bool true) []),(29,Ql.pure (.agg (Yn (X8 rf))) [])]) 0 [] []) [1,2,3,6,7,10,11,12,13] [(2,KS.auto),(3,KS.auto),(4,KS.auto),(5,KS.cells [] (Qg Q9 st)),(6,KS.rows [(1,1)] [] [] (Qg (X9 1 X1) gr)),(7,KS.rows [(1,1)] [] [] (Qg (X9 1 X1) kr)),(10,KS.cells [] (aA rf)),(12,KS.cells [] (pK rf))] []=some ⟨34,104,Yr,[],.run,none,Yp rf Qb (s) (1) (st) ([Qd.WO (X8 rf)]) ([if true=true then Qd.ZD (X8 rf)else Qd.ZT (X8 rf)]) (gr) (kr) (sn) (1) (1) (gm) (km),VI rf Qb (s) (1) (st) ([Qd.WO (X8 rf)]) ([if true=true then Qd.ZD (X8 rf)else Qd.ZT (X8 rf)]) (gr) (kr) (sn) (1) (1) (gm) (km),
 [XV 1 [] (Qg Q9 st) (Qg Q9 st),Zj 1 [(1,1)] [] [] (Qg (X9 1 X1) gr) (Qg (X9 1 X1) gr),Zj 1 [(1,1)] [] [] (Qg (X9 1 X1) kr) (Qg (X9 1 X1) kr),XV 1 [] ((cK rf)) (cJ rf),XV 1 [] ((u5 rf)) (u3 rf),Q3 []/\Q0 YP J0 61 (pI rf) (.agg (Yn (rf.Qa.getD 0 ML))),Q3 []/\Q0 YP J0 47 #[.int .i64 (Qb.getD s.toNat ML),.int .i64 0] (.bool true)]++kE B rf Qb s st gr kr sn gm km Qt⟩:=by kernel_rfl
theorem Bg(B:Lo)(rf:Qe)(Qb:List Int)(s:Int)(st:List Int)(gr kr:List RW)(sn gm km:Nat)(Qt:Nat->Value):landM (Qu YP (Q8 YP) J0 B 34 1 (QO 34 104 (([1,2,3,6,7,10]:List Nat).zip (Rc rf Qb s st gr kr sn gm km)) Qt Re) (QN (UN rf Qb s st gr kr sn gm km)) (2+(UN rf Qb s st gr kr sn gm km).length)
 (u7 rf Qb s st gr kr sn gm km Qt++[(28,Ql.pure (.bool false) []),(29,Ql.pure (.agg (Yo (X8 rf))) [])]) 0 [] []) [1,2,3,6,7,10,11,12,13] [(2,KS.auto),(3,KS.auto),(4,KS.auto),(5,KS.cells [] (Qg Q9 st)),(6,KS.rows [(1,1)] [] [] (Qg (X9 1 X1) gr)),(7,KS.rows [(1,1)] [] [] (Qg (X9 1 X1) kr)),(10,KS.cells [] (aA rf)),(12,KS.cells [] (pL rf))] []=some ⟨34,104,Yr,[],.run,none,Yp rf Qb (s) (1) (st) ([Qd.WO (X8 rf)]) ([if false=true then Qd.ZD (X8 rf)else Qd.ZT (X8 rf)]) (gr) (kr) (sn) (1) (1) (gm) (km),VI rf Qb (s) (1) (st) ([Qd.WO (X8 rf)]) ([if false=true then Qd.ZD (X8 rf)else Qd.ZT (X8 rf)]) (gr) (kr) (sn) (1) (1) (gm) (km),
 [XV 1 [] (Qg Q9 st) (Qg Q9 st),Zj 1 [(1,1)] [] [] (Qg (X9 1 X1) gr) (Qg (X9 1 X1) gr),Zj 1 [(1,1)] [] [] (Qg (X9 1 X1) kr) (Qg (X9 1 X1) kr),XV 1 [] ((cK rf)) (cJ rf),XV 1 [] ((u6 rf)) (u4 rf),Q3 []/\Q0 YP J0 61 (pJ rf) (.agg (Yo (rf.Qa.getD 0 ML))),Q3 []/\Q0 YP J0 47 #[.int .i64 (Qb.getD s.toNat ML),.int .i64 0] (.bool false)]++kE B rf Qb s st gr kr sn gm km Qt⟩:=by kernel_rfl
theorem Bf(B:Lo)(rf:Qe)(Qb:List Int)(s:Int)(st:List Int)(gr kr:List RW)(sn gm km:Nat)(Qt:Nat->Value):Xd (Qu YP (Q8 YP) J0 B 9 1 (QO 34 104 (([1,2,3,6,7,10]:List Nat).zip (Rc rf Qb s st gr kr sn gm km)) Qt Re) (QN (UN rf Qb s st gr kr sn gm km)) (2+(UN rf Qb s st gr kr sn gm km).length)
 [(3,Vs)] 0 [] []) [{k:=5,rs:=[],cs:=Qg Q9 st},{k:=6,rs:=[1],cs:=Qg X1 gr},{k:=7,rs:=[1],cs:=Qg X1 kr}]=some (.agg #[QJ sn (Fz.cs {k:=5,rs:=[],cs:=Qg Q9 st}),QJ gm (Fz.cs {k:=6,rs:=[1],cs:=Qg X1 gr}),QJ km (Fz.cs {k:=7,rs:=[1],cs:=Qg X1 kr})],
 [ZY (Fz.rs {k:=5,rs:=[],cs:=Qg Q9 st}) (Qg Q9 st) (Fz.cs {k:=5,rs:=[],cs:=Qg Q9 st}),ZY (Fz.rs {k:=6,rs:=[1],cs:=Qg X1 gr}) (Qg (X9 1 X1) gr) (Fz.cs {k:=6,rs:=[1],cs:=Qg X1 gr}),ZY (Fz.rs {k:=7,rs:=[1],cs:=Qg X1 kr}) (Qg (X9 1 X1) kr) (Fz.cs {k:=7,rs:=[1],cs:=Qg X1 kr}),Zq s rf.Qc=false]):=by kernel_rfl
theorem Be(B:Lo)(rf:Qe)(Qb:List Int):landM (Qu YP (Q8 YP) J0 B 27 1 (Qq YP 34 104 (([.agg (Q1 rf).toArray,XF Qb,.bool false]).map (Q5 0 4))) Zn 1
 [(8,WR),(12,Ql.tidx 0 (Wa (X8 rf)))] 0 [] []) [1,2,3,6,7,8] [(1,KS.auto),(2,KS.auto),(3,KS.auto),(5,KS.cells [] (Qg Q9 [Qd.count (X8 rf)]))] []=some ⟨34,104,Rf,[],.run,none,Rd rf Qb (1) ([Qd.count (X8 rf)]) (1),UO rf Qb (1) ([Qd.count (X8 rf)]) (1),
 [XV 1 [] (#[.int .i64 (Qd.count (rf.Qa.getD 0 ML))]) (Qg Q9 [Qd.count (rf.Qa.getD 0 ML)]),0=(↑0:Int)/\0<MO rf.Qa/\Nu (Ra rf) (0*TypeInfo.size Try.t54) (0*TypeInfo.size Try.t54+TypeInfo.size Try.t54)=(Wa (rf.Qa.getD 0 ML)),Zq 0 (↑rf.Qa.length:Int)=true]⟩:=by kernel_rfl
set_option maxHeartbeats 4000000 in
theorem DQ(rf:Qe)(Qb:List Int)(hr:ZE rf=true)(hp:QQ rf Qb=true){B:Lo}(hJ:∀w,B.has w->J0 w){c0:CF}:∀m:Nat,(∀(i:Int) (st:List Int) (sn:Nat),10000+(rf.Qa.length-i.toNat)=m->∀(h0:1<=i) (h1:i<=rf.Qa.length) (hsn:sn=st.length) (ZQ:st=ew (sV false rf) i),DU B c0 rf Qb i st sn->EndsT YP B c0 (.agg #[XF (Zo rf),QJ (Xs rf).length (Qg Xq (Xs rf)),QJ (Xr rf Qb).length (Qg Xq (Xr rf Qb))]))/\(∀(i:Int) (st gs ks:List Int) (sn gn kn:Nat),9000+(rf.Qa.length-i.toNat)=m->∀(h0:1<=i) (h1:i<=rf.Qa.length) (hsn:sn=st.length) (ZQ:st=Zo rf) (K5:gn=gs.length) (hg:gs=ew (gV false rf) i) (hkn:kn=ks.length) (hk:ks=ew (kV false rf (Qb.getD 0 0)) i),DT B c0 rf Qb i st gs ks sn gn kn->EndsT YP B c0 (.agg #[XF (Zo rf),QJ (Xs rf).length (Qg Xq (Xs rf)),QJ (Xr rf Qb).length (Qg Xq (Xr rf Qb))]))/\(∀(s i:Int) (st gs ks:List Int) (gr kr:List RW) (sn gn kn gm km:Nat),100*(rf.Qc-s).toNat+(rf.Qa.length-i.toNat)=m->∀(s0:1<=s) (s1:s<rf.Qc) (h0:1<=i) (h1:i<=rf.Qa.length) (hsn:sn=st.length) (ZQ:st=Zo rf) (hgm:gm=gr.length) (hgr:gr=(aj 0 s).map fun _=>⟨rf.Qa.length,VL rf⟩) (hkm:km=kr.length) (hkr:kr=(aj 0 s).map fun z=>⟨rf.Qa.length,YJ rf (Qb.getD z.toNat 0)⟩) (K5:gn=gs.length) (hg:gs=ew (gV false rf) i) (hkn:kn=ks.length) (hk:ks=ew (kV false rf (Qb.getD s.toNat 0)) i),DS B c0 rf Qb s i st gs ks gr kr sn gn kn gm km->EndsT YP B c0 (.agg #[XF (Zo rf),QJ (Xs rf).length (Qg Xq (Xs rf)),QJ (Xr rf Qb).length (Qg Xq (Xr rf Qb))]))/\(∀(s:Int) (st:List Int) (gr kr:List RW) (sn gm km:Nat),100*(rf.Qc-s).toNat+99=m->∀(s0:1<=s) (s1:s<=rf.Qc) (hsn:sn=st.length) (ZQ:st=Zo rf) (hgm:gm=gr.length) (hgr:gr=(aj 0 s).map fun _=>⟨rf.Qa.length,VL rf⟩) (hkm:km=kr.length) (hkr:kr=(aj 0 s).map fun z=>⟨rf.Qa.length,YJ rf (Qb.getD z.toNat 0)⟩),DR B c0 rf Qb s st gr kr sn gm km->EndsT YP B c0 (.agg #[XF (Zo rf),QJ (Xs rf).length (Qg Xq (Xs rf)),QJ (Xr rf Qb).length (Qg Xq (Xr rf Qb))])):=by
 intro m0;induction m0 using No with
 |_ m0 ih0=>
  refine⟨?_, ?_, ?_, ?_⟩
  ·intro i st sn hm0 h0 h1 hsn ZQ ⟨Qt,Kn,Zk⟩;have ZN:=Q6 (QH hr).1;have hsl0:=Ka (rf:=rf);have hpq:0<=Qb.getD 0 ML/\Qb.getD 0 ML<=1000000000:=by have:=Z2 hr hp 0;show 0<=Qb.getD 0 0/\Qb.getD 0 0<=1000000000;omega
   have hcc:0<=(rf.Qa.getD 0 ML).count/\(rf.Qa.getD 0 ML).count<=1000000:=(XG ((QH hr).2 0 (by omega) (by omega)).1).1;have hpf:=(Xa hp).1;have ZN:=Q6 (QH hr).1;have hsl0:=Ka (rf:=rf);have hpq:0<=Qb.getD 0 ML/\Qb.getD 0 ML<=1000000000:=by have:=Z2 hr hp 0;show 0<=Qb.getD 0 0/\Qb.getD 0 0<=1000000000;omega
   have hcc:0<=(rf.Qa.getD 0 ML).count/\(rf.Qa.getD 0 ML).count<=1000000:=(XG ((QH hr).2 0 (by omega) (by omega)).1).1;have hsl:(st.length:Int)=i:=by rw[ZQ];exact ah (by omega)
   by_cases q0:(i:Int)<((↑rf.Qa.length:Int))
   ·have hci:=(XG ((QH hr).2 i (by omega) q0).1).1;exact((ih0 _ (by omega)).1 (i+1) (st++[Qd.count (rf.Qa.getD i.toNat ML)]) (sn+1) rfl (by omega) (by omega) (by(simp only[NH,NF,List.length_nil];omega)) (by(rw[ZQ];exact UD (by omega)))
     (Zk.landM okF hJ Qf (DP B rf Qb i st sn Qt)
     ⟨(QR (Xg (fun x=>List.all_eq_true.1 (by rfl)))),⟨(XH (by omega) (by omega)),⟨⟨(by(rw[ZP (z:=1) (fun _=>rfl)];first|omega|(simp;omega)|(simp_all;done))),(by unfold maxLen;omega),by omega,by first|exact Vj|exact V2 rfl⟩,⟨⟨by omega,by omega,(QA (z:=12) (fun _=>rfl) (by omega))⟩,⟨(Zh q0),trivial⟩⟩⟩⟩⟩ (by kernel_rfl) (by kernel_rfl))).cast (by rfl)
   ·have Vb:Q3 (uE B rf Qb i st sn Qt):=by
     exact⟨(Zr (Int.not_lt.1 q0)),trivial⟩
    by_cases q1:(0:Int)<rf.Qc
    ·have PV:Q3 (uD B rf Qb i st sn Qt):=by
      exact⟨(Zh q1),Vb⟩
     by_cases q2:(0:Int)<((↑rf.Qa.length:Int))
     ·have KY:Q3 (kH B rf Qb i st sn Qt):=by
       have hse:st=Zo rf:=by rw[ZQ,show i=rf.Qa.length by omega];exact yc (b:=false)
       exact⟨⟨by omega,by omega,(QA (z:=1) (fun _=>rfl) (by omega))⟩,⟨⟨by omega,by omega,(QA (z:=12) (fun _=>rfl) (by omega))⟩,⟨(Zh q2),PV⟩⟩⟩
      cases q3:hasB (Qb.getD 0 ML) 0 with
      |true=>
       have hse:st=Zo rf:=by rw[ZQ,show i=rf.Qa.length by omega];exact yc (b:=false)
       exact((ih0 _ (by omega)).2.1 (1) (st) ([Qd.WO (rf.Qa.getD 0 ML)]) ([if true=true then Qd.ZD (rf.Qa.getD 0 ML)else Qd.ZT (rf.Qa.getD 0 ML)]) (sn) (1) (1) rfl (by omega) (by omega) (by with_reducible assumption) (by with_reducible assumption) (by rfl) (by rfl) (by rfl) (by(rw[eu];exact congrArg (fun z=>[z]) (Ao (k:=0) (by assumption)).symm))
        (Zk.landM okF hJ Qf (DO B rf Qb i st sn Qt)
        ⟨(QR (Xg (fun x=>List.all_eq_true.1 (by rfl)))),⟨(VF (by kernel_rfl)),⟨(VF (by kernel_rfl)),⟨⟨trivial,PF (rf.Qa.getD 0 ML) (true)⟩,⟨⟨trivial,(by have t_:=oM (Qb.getD 0 ML) (0) (by with_reducible assumption) (by omega);rw[q3]at t_;exact t_)⟩,KY⟩⟩⟩⟩⟩ (by kernel_rfl) (by kernel_rfl))).cast (by rfl)
      |false=>
       have hse:st=Zo rf:=by rw[ZQ,show i=rf.Qa.length by omega];exact yc (b:=false)
       exact((ih0 _ (by omega)).2.1 (1) (st) ([Qd.WO (rf.Qa.getD 0 ML)]) ([if false=true then Qd.ZD (rf.Qa.getD 0 ML)else Qd.ZT (rf.Qa.getD 0 ML)]) (sn) (1) (1) rfl (by omega) (by omega) (by with_reducible assumption) (by with_reducible assumption) (by rfl) (by rfl) (by rfl) (by(rw[eu];exact congrArg (fun z=>[z]) (Ap (k:=0) (by assumption)).symm))
        (Zk.landM okF hJ Qf (DN B rf Qb i st sn Qt)
        ⟨(QR (Xg (fun x=>List.all_eq_true.1 (by rfl)))),⟨(VF (by kernel_rfl)),⟨(VF (by kernel_rfl)),⟨⟨trivial,PF (rf.Qa.getD 0 ML) (false)⟩,⟨⟨trivial,(by have t_:=oM (Qb.getD 0 ML) (0) (by with_reducible assumption) (by omega);rw[q3]at t_;exact t_)⟩,KY⟩⟩⟩⟩⟩ (by kernel_rfl) (by kernel_rfl))).cast (by rfl)
     ·exfalso
      (have ZN:=Q6 (QH hr).1;omega)
    ·exfalso
     (have ZN:=Q6 (QH hr).1;omega)
  ·intro i st gs ks sn gn kn hm0 h0 h1 hsn ZQ K5 hg hkn hk ⟨Qt,Kn,Zk⟩;have ZN:=Q6 (QH hr).1;have hsl0:=Ka (rf:=rf);have hpq:0<=Qb.getD 0 ML/\Qb.getD 0 ML<=1000000000:=by have:=Z2 hr hp 0;show 0<=Qb.getD 0 0/\Qb.getD 0 0<=1000000000;omega
   have hcc:0<=(rf.Qa.getD 0 ML).count/\(rf.Qa.getD 0 ML).count<=1000000:=(XG ((QH hr).2 0 (by omega) (by omega)).1).1;have hpf:=(Xa hp).1;have ZN:=Q6 (QH hr).1;have hsl0:=Ka (rf:=rf);have hpq:0<=Qb.getD 0 ML/\Qb.getD 0 ML<=1000000000:=by have:=Z2 hr hp 0;show 0<=Qb.getD 0 0/\Qb.getD 0 0<=1000000000;omega
   have hcc:0<=(rf.Qa.getD 0 ML).count/\(rf.Qa.getD 0 ML).count<=1000000:=(XG ((QH hr).2 0 (by omega) (by omega)).1).1;have hsl:st.length=rf.Qa.length:=by rw[ZQ];exact Ka
   have hgl:(gs.length:Int)=i:=by rw[hg];exact ah (by omega)
   have hkl:(ks.length:Int)=i:=by rw[hk];exact ah (by omega)
   by_cases q0:(i:Int)<((↑rf.Qa.length:Int))
   ·have hp3:Q3 (kG B rf Qb i st gs ks sn gn kn Qt):=by
     exact⟨⟨by omega,by omega,(QA (z:=1) (fun _=>rfl) (by omega))⟩,⟨⟨by omega,by omega,(QA (z:=12) (fun _=>rfl) (by omega))⟩,⟨(Zh q0),trivial⟩⟩⟩
    cases q1:hasB (Qb.getD 0 ML) i with
    |true=>
     exact((ih0 _ (by omega)).2.1 (i+1) (st) (gs++[Qd.WO (rf.Qa.getD i.toNat ML)]) (ks++[if true=true then Qd.ZD (rf.Qa.getD i.toNat ML)else Qd.ZT (rf.Qa.getD i.toNat ML)]) (sn) (gn+1) (kn+1) rfl (by omega) (by omega) (by with_reducible assumption) (by with_reducible assumption) (by(simp only[NH,NF,List.length_nil];omega)) (by(rw[hg];exact UD (by omega))) (by(simp only[NH,NF,List.length_nil];omega)) (by(rw[hk,<-UD (by omega)];exact congrArg (fun z=>_++[z]) (Ao (by assumption)).symm))
      (Zk.landM okF hJ Qf (DM B rf Qb i st gs ks sn gn kn Qt)
      ⟨(QR (Xg (fun x=>List.all_eq_true.1 (by rfl)))),⟨(QR (Xg (fun x=>List.all_eq_true.1 (by rfl)))),⟨(QR (Xg (fun x=>List.all_eq_true.1 (by rfl)))),⟨(XH (by omega) (by omega)),⟨⟨(by(rw[ZP (z:=1) (fun _=>rfl)];first|omega|(simp;omega)|(simp_all;done))),(by unfold maxLen;omega),by omega,by first|exact Vj|exact V2 rfl⟩,⟨⟨(by(rw[ZP (z:=1) (fun _=>rfl)];first|omega|(simp;omega)|(simp_all;done))),(by unfold maxLen;omega),by omega,by first|exact Vj|exact V2 rfl⟩,⟨⟨trivial,PF (rf.Qa.getD i.toNat ML) (true)⟩,⟨⟨trivial,(by have t_:=oM (Qb.getD 0 ML) (i) (by with_reducible assumption) (by omega);rw[q1]at t_;exact t_)⟩,hp3⟩⟩⟩⟩⟩⟩⟩⟩ (by kernel_rfl) (by kernel_rfl))).cast (by rfl)
    |false=>
     exact((ih0 _ (by omega)).2.1 (i+1) (st) (gs++[Qd.WO (rf.Qa.getD i.toNat ML)]) (ks++[if false=true then Qd.ZD (rf.Qa.getD i.toNat ML)else Qd.ZT (rf.Qa.getD i.toNat ML)]) (sn) (gn+1) (kn+1) rfl (by omega) (by omega) (by with_reducible assumption) (by with_reducible assumption) (by(simp only[NH,NF,List.length_nil];omega)) (by(rw[hg];exact UD (by omega))) (by(simp only[NH,NF,List.length_nil];omega)) (by(rw[hk,<-UD (by omega)];exact congrArg (fun z=>_++[z]) (Ap (by assumption)).symm))
      (Zk.landM okF hJ Qf (DL B rf Qb i st gs ks sn gn kn Qt)
      ⟨(QR (Xg (fun x=>List.all_eq_true.1 (by rfl)))),⟨(QR (Xg (fun x=>List.all_eq_true.1 (by rfl)))),⟨(QR (Xg (fun x=>List.all_eq_true.1 (by rfl)))),⟨(XH (by omega) (by omega)),⟨⟨(by(rw[ZP (z:=1) (fun _=>rfl)];first|omega|(simp;omega)|(simp_all;done))),(by unfold maxLen;omega),by omega,by first|exact Vj|exact V2 rfl⟩,⟨⟨(by(rw[ZP (z:=1) (fun _=>rfl)];first|omega|(simp;omega)|(simp_all;done))),(by unfold maxLen;omega),by omega,by first|exact Vj|exact V2 rfl⟩,⟨⟨trivial,PF (rf.Qa.getD i.toNat ML) (false)⟩,⟨⟨trivial,(by have t_:=oM (Qb.getD 0 ML) (i) (by with_reducible assumption) (by omega);rw[q1]at t_;exact t_)⟩,hp3⟩⟩⟩⟩⟩⟩⟩⟩ (by kernel_rfl) (by kernel_rfl))).cast (by rfl)
   ·have hge:gs=VL rf:=by rw[hg,show i=rf.Qa.length by omega];exact FB (b:=false)
    have hke:ks=YJ rf (Qb.getD 0 0):=by rw[hk,show i=rf.Qa.length by omega];exact Fv (b:=false)
    exact((ih0 _ (by omega)).2.2.2 (1) (st) ([{n:=gn,l:=gs}]) ([{n:=kn,l:=ks}]) (sn) (1) (1) rfl (by omega) (by omega) (by with_reducible assumption) (by with_reducible assumption) (by rfl) (by(rw[show gn=rf.Qa.length by omega,hge];rfl)) (by rfl) (by(rw[show kn=rf.Qa.length by omega,hke];rfl))
     (Zk.landM okF hJ Qf (DK B rf Qb i st gs ks sn gn kn Qt)
     (by exact⟨(QR (Xg (fun x=>List.all_eq_true.1 (by rfl)))),⟨(by exact(nY (by exact⟨(.own (NC _)),trivial⟩))),⟨(ZR (fun x=>List.all_eq_true.1 (by rfl))),⟨(by exact(nY (by exact⟨(.own (NC _)),trivial⟩))),⟨(ZR (fun x=>List.all_eq_true.1 (by rfl))),⟨(Zr (Int.not_lt.1 q0)),trivial⟩⟩⟩⟩⟩⟩) (by kernel_rfl) (by kernel_rfl))).cast (by rfl)
  ·intro s i st gs ks gr kr sn gn kn gm km hm0 s0 s1 h0 h1 hsn ZQ hgm hgr hkm hkr K5 hg hkn hk ⟨Qt,Kn,Zk⟩;have ZN:=Q6 (QH hr).1;have hsl0:=Ka (rf:=rf);have hpq:0<=Qb.getD 0 ML/\Qb.getD 0 ML<=1000000000:=by have:=Z2 hr hp 0;show 0<=Qb.getD 0 0/\Qb.getD 0 0<=1000000000;omega
   have hcc:0<=(rf.Qa.getD 0 ML).count/\(rf.Qa.getD 0 ML).count<=1000000:=(XG ((QH hr).2 0 (by omega) (by omega)).1).1;have hpf:=(Xa hp).1;have ZN:=Q6 (QH hr).1;have hsl0:=Ka (rf:=rf);have hpq:0<=Qb.getD 0 ML/\Qb.getD 0 ML<=1000000000:=by have:=Z2 hr hp 0;show 0<=Qb.getD 0 0/\Qb.getD 0 0<=1000000000;omega
   have hcc:0<=(rf.Qa.getD 0 ML).count/\(rf.Qa.getD 0 ML).count<=1000000:=(XG ((QH hr).2 0 (by omega) (by omega)).1).1;have hsl:st.length=rf.Qa.length:=by rw[ZQ];exact Ka
   have hgl:(gs.length:Int)=i:=by rw[hg];exact ah (by omega)
   have hkl:(ks.length:Int)=i:=by rw[hk];exact ah (by omega)
   have hgrl:(gr.length:Int)=s:=by rw[hgr];exact dU (by omega)
   have hkrl:(kr.length:Int)=s:=by rw[hkr];exact dU (by omega)
   have hps:0<=Qb.getD s.toNat ML/\Qb.getD s.toNat ML<=1000000000:=by have:=Z2 hr hp s.toNat;show 0<=Qb.getD s.toNat 0/\Qb.getD s.toNat 0<=1000000000;omega
   have hpf:=(Xa hp).1;by_cases q0:(i:Int)<((↑rf.Qa.length:Int))
   ·have hp4:Q3 (kF B rf Qb s i st gs ks gr kr sn gn kn gm km Qt):=by
     exact⟨⟨by omega,by omega,(QA (z:=1) (fun _=>rfl) (by omega))⟩,⟨⟨by omega,by omega,(QA (z:=12) (fun _=>rfl) (by omega))⟩,⟨(Zh q0),trivial⟩⟩⟩
    cases q1:hasB (Qb.getD s.toNat ML) i with
    |true=>
     exact((ih0 _ (by omega)).2.2.1 (s) (i+1) (st) (gs++[Qd.WO (rf.Qa.getD i.toNat ML)]) (ks++[if true=true then Qd.ZD (rf.Qa.getD i.toNat ML)else Qd.ZT (rf.Qa.getD i.toNat ML)]) (gr) (kr) (sn) (gn+1) (kn+1) (gm) (km) rfl (by with_reducible assumption) (by with_reducible assumption) (by omega) (by omega) (by with_reducible assumption) (by with_reducible assumption) (by with_reducible assumption) (by with_reducible assumption) (by with_reducible assumption) (by with_reducible assumption) (by(simp only[NH,NF,List.length_nil];omega)) (by(rw[hg];exact UD (by omega))) (by(simp only[NH,NF,List.length_nil];omega)) (by(rw[hk,<-UD (by omega)];exact congrArg (fun z=>_++[z]) (Ao (by assumption)).symm))
      (Zk.landM okF hJ Qf (DJ B rf Qb s i st gs ks gr kr sn gn kn gm km Qt)
      ⟨(QR (Xg (fun x=>List.all_eq_true.1 (by rfl)))),⟨(by exact(ZO (W4 (by exact fun _=>rfl)) (NC _))),⟨(by exact(ZO (W4 (by exact fun _=>rfl)) (NC _))),⟨(QR (Xg (fun x=>List.all_eq_true.1 (by rfl)))),⟨(QR (Xg (fun x=>List.all_eq_true.1 (by rfl)))),⟨(XH (by omega) (by omega)),⟨⟨(by(rw[ZP (z:=1) (fun _=>rfl)];first|omega|(simp;omega)|(simp_all;done))),(by unfold maxLen;omega),by omega,by first|exact Vj|exact V2 rfl⟩,⟨⟨(by(rw[ZP (z:=1) (fun _=>rfl)];first|omega|(simp;omega)|(simp_all;done))),(by unfold maxLen;omega),by omega,by first|exact Vj|exact V2 rfl⟩,⟨⟨trivial,PF (rf.Qa.getD i.toNat ML) (true)⟩,⟨⟨trivial,(by have t_:=oM (Qb.getD s.toNat ML) (i) (by with_reducible assumption) (by omega);rw[q1]at t_;exact t_)⟩,hp4⟩⟩⟩⟩⟩⟩⟩⟩⟩⟩ (by kernel_rfl) (by kernel_rfl))).cast (by rfl)
    |false=>
     exact((ih0 _ (by omega)).2.2.1 (s) (i+1) (st) (gs++[Qd.WO (rf.Qa.getD i.toNat ML)]) (ks++[if false=true then Qd.ZD (rf.Qa.getD i.toNat ML)else Qd.ZT (rf.Qa.getD i.toNat ML)]) (gr) (kr) (sn) (gn+1) (kn+1) (gm) (km) rfl (by with_reducible assumption) (by with_reducible assumption) (by omega) (by omega) (by with_reducible assumption) (by with_reducible assumption) (by with_reducible assumption) (by with_reducible assumption) (by with_reducible assumption) (by with_reducible assumption) (by(simp only[NH,NF,List.length_nil];omega)) (by(rw[hg];exact UD (by omega))) (by(simp only[NH,NF,List.length_nil];omega)) (by(rw[hk,<-UD (by omega)];exact congrArg (fun z=>_++[z]) (Ap (by assumption)).symm))
      (Zk.landM okF hJ Qf (DI B rf Qb s i st gs ks gr kr sn gn kn gm km Qt)
      ⟨(QR (Xg (fun x=>List.all_eq_true.1 (by rfl)))),⟨(by exact(ZO (W4 (by exact fun _=>rfl)) (NC _))),⟨(by exact(ZO (W4 (by exact fun _=>rfl)) (NC _))),⟨(QR (Xg (fun x=>List.all_eq_true.1 (by rfl)))),⟨(QR (Xg (fun x=>List.all_eq_true.1 (by rfl)))),⟨(XH (by omega) (by omega)),⟨⟨(by(rw[ZP (z:=1) (fun _=>rfl)];first|omega|(simp;omega)|(simp_all;done))),(by unfold maxLen;omega),by omega,by first|exact Vj|exact V2 rfl⟩,⟨⟨(by(rw[ZP (z:=1) (fun _=>rfl)];first|omega|(simp;omega)|(simp_all;done))),(by unfold maxLen;omega),by omega,by first|exact Vj|exact V2 rfl⟩,⟨⟨trivial,PF (rf.Qa.getD i.toNat ML) (false)⟩,⟨⟨trivial,(by have t_:=oM (Qb.getD s.toNat ML) (i) (by with_reducible assumption) (by omega);rw[q1]at t_;exact t_)⟩,hp4⟩⟩⟩⟩⟩⟩⟩⟩⟩⟩ (by kernel_rfl) (by kernel_rfl))).cast (by rfl)
   ·have hge:gs=VL rf:=by rw[hg,show i=rf.Qa.length by omega];exact FB (b:=false)
    have hke:ks=YJ rf (Qb.getD s.toNat 0):=by rw[hk,show i=rf.Qa.length by omega];exact Fv (b:=false)
    exact((ih0 _ (by omega)).2.2.2 (s+1) (st) (gr++[{n:=gn,l:=gs}]) (kr++[{n:=kn,l:=ks}]) (sn) (gm+1) (km+1) rfl (by omega) (by omega) (by with_reducible assumption) (by with_reducible assumption) (by(simp only[NH,NF,List.length_nil];omega)) (by(rw[jG (by omega),List.map_append,<-hgr,show gn=rf.Qa.length by omega,hge];rfl)) (by(simp only[NH,NF,List.length_nil];omega)) (by(rw[jG (by omega),List.map_append,<-hkr,show kn=rf.Qa.length by omega,hke];rfl))
     (Zk.landM okF hJ Qf (DH B rf Qb s i st gs ks gr kr sn gn kn gm km Qt)
     (by exact⟨(QR (Xg (fun x=>List.all_eq_true.1 (by rfl)))),⟨(by exact(il (ZO (W4 (by exact fun _=>rfl)) (NC _)) (by exact⟨(.own (NC _)),trivial⟩))),⟨(ZR (fun x=>List.all_eq_true.1 (by rfl))),⟨(by exact(il (ZO (W4 (by exact fun _=>rfl)) (NC _)) (by exact⟨(.own (NC _)),trivial⟩))),⟨(ZR (fun x=>List.all_eq_true.1 (by rfl))),⟨(XH (by omega) (by omega)),⟨⟨(by(rw[ZP (z:=1) (fun _=>rfl)];first|omega|(simp;omega)|(simp_all;done))),(by unfold maxLen;omega),by omega,rfl⟩,⟨⟨(by(rw[ZP (z:=1) (fun _=>rfl)];first|omega|(simp;omega)|(simp_all;done))),(by unfold maxLen;omega),by omega,rfl⟩,⟨(Zr (Int.not_lt.1 q0)),trivial⟩⟩⟩⟩⟩⟩⟩⟩⟩) (by kernel_rfl) (by kernel_rfl))).cast (by rfl)
  ·intro s st gr kr sn gm km hm0 s0 s1 hsn ZQ hgm hgr hkm hkr ⟨Qt,Kn,Zk⟩;have ZN:=Q6 (QH hr).1;have hsl0:=Ka (rf:=rf);have hpq:0<=Qb.getD 0 ML/\Qb.getD 0 ML<=1000000000:=by have:=Z2 hr hp 0;show 0<=Qb.getD 0 0/\Qb.getD 0 0<=1000000000;omega
   have hcc:0<=(rf.Qa.getD 0 ML).count/\(rf.Qa.getD 0 ML).count<=1000000:=(XG ((QH hr).2 0 (by omega) (by omega)).1).1;have hpf:=(Xa hp).1;have ZN:=Q6 (QH hr).1;have hsl0:=Ka (rf:=rf);have hpq:0<=Qb.getD 0 ML/\Qb.getD 0 ML<=1000000000:=by have:=Z2 hr hp 0;show 0<=Qb.getD 0 0/\Qb.getD 0 0<=1000000000;omega
   have hcc:0<=(rf.Qa.getD 0 ML).count/\(rf.Qa.getD 0 ML).count<=1000000:=(XG ((QH hr).2 0 (by omega) (by omega)).1).1;have hsl:st.length=rf.Qa.length:=by rw[ZQ];exact Ka
   have hgrl:(gr.length:Int)=s:=by rw[hgr];exact dU (by omega)
   have hkrl:(kr.length:Int)=s:=by rw[hkr];exact dU (by omega)
   have hps:0<=Qb.getD s.toNat ML/\Qb.getD s.toNat ML<=1000000000:=by have:=Z2 hr hp s.toNat;show 0<=Qb.getD s.toNat 0/\Qb.getD s.toNat 0<=1000000000;omega
   have hpf:=(Xa hp).1;by_cases q0:(s:Int)<rf.Qc
   ·have hp5:Q3 (uC B rf Qb s st gr kr sn gm km Qt):=by
     exact⟨(Zh q0),trivial⟩
    by_cases q1:(0:Int)<((↑rf.Qa.length:Int))
    ·have hp6:Q3 (kE B rf Qb s st gr kr sn gm km Qt):=by
      exact⟨⟨by omega,by omega,(QA (z:=1) (fun _=>rfl) (by omega))⟩,⟨⟨by omega,by omega,(QA (z:=12) (fun _=>rfl) (by omega))⟩,⟨(Zh q1),hp5⟩⟩⟩
     cases q2:hasB (Qb.getD s.toNat ML) 0 with
     |true=>
      exact((ih0 _ (by omega)).2.2.1 (s) (1) (st) ([Qd.WO (rf.Qa.getD 0 ML)]) ([if true=true then Qd.ZD (rf.Qa.getD 0 ML)else Qd.ZT (rf.Qa.getD 0 ML)]) (gr) (kr) (sn) (1) (1) (gm) (km) rfl (by with_reducible assumption) (by with_reducible assumption) (by omega) (by omega) (by with_reducible assumption) (by with_reducible assumption) (by with_reducible assumption) (by with_reducible assumption) (by with_reducible assumption) (by with_reducible assumption) (by rfl) (by rfl) (by rfl) (by(rw[eu];exact congrArg (fun z=>[z]) (Ao (k:=0) (by assumption)).symm))
       (Zk.landM okF hJ Qf (DG B rf Qb s st gr kr sn gm km Qt)
       ⟨(QR (Xg (fun x=>List.all_eq_true.1 (by rfl)))),⟨(by exact(ZO (W4 (by exact fun _=>rfl)) (NC _))),⟨(by exact(ZO (W4 (by exact fun _=>rfl)) (NC _))),⟨(VF (by kernel_rfl)),⟨(VF (by kernel_rfl)),⟨⟨trivial,PF (rf.Qa.getD 0 ML) (true)⟩,⟨⟨trivial,(by have t_:=oM (Qb.getD s.toNat ML) (0) (by with_reducible assumption) (by omega);rw[q2]at t_;exact t_)⟩,hp6⟩⟩⟩⟩⟩⟩⟩ (by kernel_rfl) (by kernel_rfl))).cast (by rfl)
     |false=>
      exact((ih0 _ (by omega)).2.2.1 (s) (1) (st) ([Qd.WO (rf.Qa.getD 0 ML)]) ([if false=true then Qd.ZD (rf.Qa.getD 0 ML)else Qd.ZT (rf.Qa.getD 0 ML)]) (gr) (kr) (sn) (1) (1) (gm) (km) rfl (by with_reducible assumption) (by with_reducible assumption) (by omega) (by omega) (by with_reducible assumption) (by with_reducible assumption) (by with_reducible assumption) (by with_reducible assumption) (by with_reducible assumption) (by with_reducible assumption) (by rfl) (by rfl) (by rfl) (by(rw[eu];exact congrArg (fun z=>[z]) (Ap (k:=0) (by assumption)).symm))
       (Zk.landM okF hJ Qf (Bg B rf Qb s st gr kr sn gm km Qt)
       ⟨(QR (Xg (fun x=>List.all_eq_true.1 (by rfl)))),⟨(by exact(ZO (W4 (by exact fun _=>rfl)) (NC _))),⟨(by exact(ZO (W4 (by exact fun _=>rfl)) (NC _))),⟨(VF (by kernel_rfl)),⟨(VF (by kernel_rfl)),⟨⟨trivial,PF (rf.Qa.getD 0 ML) (false)⟩,⟨⟨trivial,(by have t_:=oM (Qb.getD s.toNat ML) (0) (by with_reducible assumption) (by omega);rw[q2]at t_;exact t_)⟩,hp6⟩⟩⟩⟩⟩⟩⟩ (by kernel_rfl) (by kernel_rfl))).cast (by rfl)
    ·exfalso
     (have ZN:=Q6 (QH hr).1;omega)
   ·exact(GoE.endsT okF hJ Qf Zk (Bf B rf Qb s st gr kr sn gm km Qt)
     ⟨(ZR (fun x=>List.all_eq_true.1 (by rfl))),⟨(SU (W4 (by exact fun _=>rfl)) (NC _)),⟨(SU (W4 (by exact fun _=>rfl)) (NC _)),⟨(Zr (Int.not_lt.1 q0)),trivial⟩⟩⟩⟩).cast (by(rw[show QJ gm (Qg X1 gr)=QJ (Xs rf).length (Qg Xq (Xs rf))from Dd (g:=fun _=>VL rf) (fun _=>H9) hgr hgm (by omega),show QJ km (Qg X1 kr)=QJ (Xr rf Qb).length (Qg Xq (Xr rf Qb))from Dd (g:=fun z=>YJ rf (Qb.getD z.toNat 0)) (fun _=>Gq) hkr hkm (by omega),hsn,ZQ]))
set_option maxHeartbeats 4000000 in
theorem GF(rf:Qe)(Qb:List Int)(hr:ZE rf=true)(hp:QQ rf Qb=true){B:Lo}(hJ:∀w,B.has w->J0 w):EndsT YP B (Qq YP 34 104 (([.agg (Q1 rf).toArray,XF Qb,.bool false]).map (Q5 0 4))) (.agg #[XF (Zo rf),QJ (Xs rf).length (Qg Xq (Xs rf)),QJ (Xr rf Qb).length (Qg Xq (Xr rf Qb))]):=by
 have ZN:=Q6 (QH hr).1;have hsl0:=Ka (rf:=rf);have hpq:0<=Qb.getD 0 ML/\Qb.getD 0 ML<=1000000000:=by have:=Z2 hr hp 0;show 0<=Qb.getD 0 0/\Qb.getD 0 0<=1000000000;omega
 have hcc:0<=(rf.Qa.getD 0 ML).count/\(rf.Qa.getD 0 ML).count<=1000000:=(XG ((QH hr).2 0 (by omega) (by omega)).1).1;have hpf:=(Xa hp).1;by_cases q0:(0:Int)<((↑rf.Qa.length:Int))
 ·exact((DQ rf Qb hr hp hJ _).1 (1) ([Qd.count (rf.Qa.getD 0 ML)]) (1) rfl (by omega) (by omega) (by rfl) (by rfl)
   (GoE.start.landM okF hJ Qf (Be B rf Qb)
   ⟨(VF (by kernel_rfl)),⟨⟨by omega,by omega,(QA (z:=12) (fun _=>rfl) (by omega))⟩,⟨(Zh q0),trivial⟩⟩⟩ (by kernel_rfl) (by kernel_rfl))).cast (by rfl)
 ·exfalso
  (have ZN:=Q6 (QH hr).1;omega)
theorem Ie(rf:Qe)(Qb:List Int)(hr:ZE rf=true)(hp:QQ rf Qb=true):Q0 YP J0 34 #[.agg (Q1 rf).toArray,XF Qb,.bool false] (.agg #[XF (Zo rf),QJ (Xs rf).length (Qg Xq (Xs rf)),QJ (Xr rf Qb).length (Qg Xq (Xr rf Qb))]):=
 XD (ts:=[.agg (Q1 rf).toArray,XF Qb,.bool false]) Zs (c0:=Qq YP 34 104 (([.agg (Q1 rf).toArray,XF Qb,.bool false]).map (Q5 0 4))) (by kernel_rfl) (by kernel_rfl) fun B hJ=>GF rf Qb hr hp hJ
end
end Go.Proofs.Ytncjjangllkokaa

namespace Go.Proofs.Ytncjjangllkokaa
open Go Go.CE Go.RowKit
theorem zX{g h:Int->Int}:∀(k:Nat),(∀m:Int,0<=m->m<k->g m<=h m)->Xp 0 k g<=Xp 0 k h
 |0,_=>by rw[K8 (by omega),K8 (by omega)];omega
 |k+1,H=>by
  have ih:=zX k fun m h0 h1=>H m h0 (by omega)
  have h2:=H k (by omega) (by omega);rw[show((k+1:Nat):Int)=(k:Int)+1 by omega,XN (by omega),XN (by omega)];omega
section
variable {ps:List Qd} {n:Int} {gs ts:List (List Int)} {f:F4}
theorem kW{k:Int}(k0:0<=k)(k1:k<n):(QI n ps gs ts f).getD k.toNat ML=iC ps gs ts f k:=by
 unfold QI;exact XR k0 k1
theorem r4{k i:Int}(h4:ps.length<=4)(i0:0<=i)(i1:i<ps.length):(iC ps gs ts f k).getD i.toNat ML=(PC ps gs ts f (k.toNat+1)).at i:=by
 unfold iC;rw[<-HT h4];exact XR i0 i1
theorem OkT.row(h:OkT ps n gs ts f){k i:Int}(k0:0<=k)(k1:k<n)(i0:0<=i)(i1:i<ps.length):0<=nth ((QI n ps gs ts f).getD k.toNat ML) i/\nth ((QI n ps gs ts f).getD k.toNat ML) i<=1000000000+16000000:=by
 have h4:=h.s4;have hp4:=h.hp.1;have hs:=h.st (k.toNat+1) (by omega);have ha:=W5 hs.1 i0 (by omega);have h9:=h.hs;rw[kW k0 k1];unfold nth;rw[r4 hp4 i0 i1];have:=hs.2;omega
end
theorem QV{rf:Qe}{Qb:List Int}{t:Qn}(hr:ZE rf=true)(ht:QZ rf Qb t=true):(Qh t.starts).sum<=16000000:=by
 have hs:=Q6 (QH hr).1;obtain⟨h1,h2,h3,h4⟩:=Tf ht;obtain⟨s1,s2⟩:=KM h1;rw[List.length_map]at s1;have st:∀k:Int,0<=k->k<4->nth t.starts k<=4000000:=fun k k0 k1=>by
  by_cases hk:k<rf.Qa.length
  ·have hp:=XG ((QH hr).2 k k0 hk).1;have:=s2 k k0 (by omega);rw[ZA k0 hk]at this;have hm:=PJ (a:=(rf.Qa.getD k.toNat ML).count) (r:=rf.Qk) (by omega) (by omega);have hm2:(rf.Qa.getD k.toNat ML).count*rf.Qk<=1000000*2000:=Int.mul_le_mul hp.1.2 hs.2.1.2 hs.2.1.1 (by omega);have e2:((rf.Qa.getD k.toNat ML).count*rf.Qk).tdiv 1000=((rf.Qa.getD k.toNat ML).count*rf.Qk) / 1000:=ND hm.1;simp only[Xt,Y2]at this;unfold nth;omega
  ·unfold nth;rw[MU,Nf (by omega)];show(0:Int)<=4000000;omega
 have a0:=st 0 (by omega) (by omega);have a1:=st 1 (by omega) (by omega);have a2:=st 2 (by omega) (by omega);have a3:=st 3 (by omega) (by omega);have es:(Qh t.starts).sum=nth t.starts 0+nth t.starts 1+nth t.starts 2+nth t.starts 3:=rfl;omega
theorem OkT.shape{ps:List Qd}{n:Int}{gs ts:List (List Int)}{f:F4}(h:OkT ps n gs ts f)(hf:f.sum<=16000000):(QI n ps gs ts f).length=n/\∀s:Int,0<=s->s<n->((QI n ps gs ts f).getD s.toNat ML).length=ps.length/\∀i:Int,0<=i->i<ps.length->0<=((QI n ps gs ts f).getD s.toNat ML).getD i.toNat ML/\((QI n ps gs ts f).getD s.toNat ML).getD i.toNat ML<=32000000:=by
 have h9:=h.s0;have h4:=h.s4;refine⟨by unfold QI;rw[Xu];omega,fun s s0 s1=> ?_⟩;rw[kW s0 s1];refine⟨jZ h.hp.1,fun i i0 i1=> ?_⟩;have hp4:=h.hp.1;have hs:=h.st (s.toNat+1) (by omega);have ha:=W5 hs.1 i0 (by omega);rw[r4 hp4 i0 i1];have:=hs.2;omega
def Zc(m:Nat)(n:Int)(l:List (List Int)):Prop:=l.length=n/\∀s:Int,0<=s->s<n->(l.getD s.toNat ML).length=m/\∀i:Int,0<=i->i<m->0<=(l.getD s.toNat ML).getD i.toNat ML/\(l.getD s.toNat ML).getD i.toNat ML<=32000000
end Go.Proofs.Ytncjjangllkokaa

namespace Go.Proofs.Ytncjjangllkokaa
open Go Go.CE Go.RowKit
set_option maxRecDepth 100000
theorem Zp{rf:Qe}{gs ts:List (List Int)}{f:F4}{s:Int}(h4:rf.Qa.length<=4)(s0:0<=s)(s1:s<rf.Qc):((QI rf.Qc rf.Qa gs ts f).getD s.toNat ML).length=rf.Qa.length:=by
 rw[show(QI rf.Qc rf.Qa gs ts f).getD s.toNat ML=iC rf.Qa gs ts f s from XR s0 s1,jZ h4]
theorem E0{rf:Qe}{gs ts:List (List Int)}{f:F4}{s i:Int}(h4:rf.Qa.length<=4)(s0:0<=s)(s1:s<rf.Qc)(i0:0<=i)(i1:i<rf.Qa.length):((QI rf.Qc rf.Qa gs ts f).getD s.toNat ML).getD i.toNat ML=(PC rf.Qa gs ts f (s.toNat+1)).at i:=by
 rw[show(QI rf.Qc rf.Qa gs ts f).getD s.toNat ML=iC rf.Qa gs ts f s from XR s0 s1,r4 h4 i0 i1]
end Go.Proofs.Ytncjjangllkokaa

namespace Go.Proofs.Ytncjjangllkokaa
open Go Go.CE Go.RowKit
set_option maxRecDepth 100000
end Go.Proofs.Ytncjjangllkokaa

namespace Go.Proofs.Ytncjjangllkokaa
open Go Go.CE Go.RowKit
def Cv(f g:F4):Prop:=∀j:Int,0<=j->j<4->f.at j<=g.at j
def H3(n:Nat)(xs ys:List Int):Prop:=∀k:Int,0<=k->k<n->nth xs k<=nth ys k
theorem cy{a:Int}(h:0<=a):a.tdiv 1000=a / 1000:=ND h
theorem z1{room x y g g':Int}(x0:0<=x)(xy:x<=y)(g0:0<=g)(gg:g<=g'):x+nH room x g<=y+nH room y g':=by
 have h0:0<=x*g:=Int.mul_nonneg x0 g0;have h1:x*g<=y*g':=Int.mul_le_mul xy gg g0 (by omega);have e1:=cy h0;have e2:=cy (a:=y*g') (by omega);unfold nH;rw[e1,e2];have hd:x*g / 1000<=y*g' / 1000:=Int.ediv_le_ediv (by omega) h1;have hn:0<=x*g / 1000:=Int.ediv_nonneg h0 (by omega);split <;> split <;> (try split) <;> (try split) <;> omega
theorem HB{gs gs':List Int}{ps:List Qd}{f f':F4}(hg:Km ps.length gs 2000)(hgg:H3 ps.length gs gs')(hf:JX f)(hff:Cv f f'):Cv (Ph gs ps f) (Ph gs' ps f'):=fun j j0 j1=>by
 unfold Ph;rw[au j0 j1,au j0 j1];unfold Xv Zz;have h:=hff j j0 j1;split
 ·rename_i hj;have a:=hg.2 j j0 hj;have b:=hgg j j0 hj;have c:=(W5 hf j0 j1).1;exact z1 c h a.1 b
 ·exact h
theorem qQ{x y d:Int}(x0:0<=x)(xy:x<=y)(d0:0<=d)(d1:d<=1000):(x*d).tdiv 1000<=(y*d).tdiv 1000/\x-(x*d).tdiv 1000<=y-(y*d).tdiv 1000:=by
 have h0:0<=x*d:=Int.mul_nonneg x0 d0;have h1:x*d<=y*d:=Int.mul_le_mul_of_nonneg_right xy d0;have h2:(y-x)*d<=(y-x)*1000:=Int.mul_le_mul_of_nonneg_left d1 (by omega);have h3:(y-x)*d=y*d-x*d:=Int.sub_mul ..;rw[cy h0,cy (a:=y*d) (by omega)];omega
theorem HK{ps:List Qd}{b b':F4}(hp:JI ps)(hf:JX b)(h:Cv b b'):Cv (ja ps b) (ja ps b'):=fun j j0 j1=>by
 have h4:=hp.1;unfold ja;rw[au j0 j1,au j0 j1];unfold WN;have hs:Xp 0 ps.length (fun m=>if(PI ps m).XM=j then Uf ps b m else 0)<=Xp 0 ps.length (fun m=>if(PI ps m).XM=j then Uf ps b' m else 0):=zX ps.length fun m m0 m1=>by
  have hd:=(hp.2 m m0 m1).2.1;have:=(qQ (W5 hf m0 (by omega)).1 (h m m0 (by omega)) hd.1 hd.2).1;show(if(PI ps m).XM=j then Uf ps b m else 0)<=(if(PI ps m).XM=j then Uf ps b' m else 0)
  unfold Uf;split <;> omega
 have hj:=h j j0 j1;split
 ·rename_i hn;have hd:=(hp.2 j j0 hn).2.1;have:b.at j-Uf ps b j<=b'.at j-Uf ps b' j:=(qQ (W5 hf j0 j1).1 hj hd.1 hd.2).2;omega
 ·omega
theorem Gs{ts ts':List Int}{ps:List Qd}{b b':F4}(ht:H3 ps.length ts' ts)(h:Cv b b'):Cv (I5 ts ps b) (I5 ts' ps b'):=fun j j0 j1=>by
 unfold I5;rw[au j0 j1,au j0 j1];unfold Sy Zt;have hj:=h j j0 j1;split
 ·rename_i hn;have:=ht j j0 hn;split <;> split <;> omega
 ·exact hj
theorem B4{gs gs' ts ts':List Int}{ps:List Qd}{f f':F4}(hp:JI ps)(hg:Km ps.length gs 2000)(hgg:H3 ps.length gs gs')(ht:H3 ps.length ts' ts)(hf:JX f)(hs:f.sum<=10000000000)(hff:Cv f f'):Cv (Q2 gs ts ps f) (Q2 gs' ts' ps f'):=
 Gs ht (HK hp (F3 hp hg hf hs) (HB hg hgg hf hff))
theorem ru{ps:List Qd}{n:Int}{gs gs' ts ts':List (List Int)}{f f':F4}(h:OkT ps n gs ts f)(hgg:∀k:Nat,k<n->H3 ps.length (gs.getD k ML) (gs'.getD k ML))(htt:∀k:Nat,k<n->H3 ps.length (ts'.getD k ML) (ts.getD k ML))(hff:Cv f f'):∀k:Nat,k<=n->Cv (PC ps gs ts f k) (PC ps gs' ts' f' k)
 |0,_=>hff
 |k+1,hk=>by
  have h4:=h.s4;have h9:=h.hs;have ZQ:=h.st k (by omega);have:=ZQ.2;exact B4 h.hp (h.rg k (by omega)) (hgg k (by omega)) (htt k (by omega)) ZQ.1 (by omega) (ru h hgg htt hff k (by omega))
theorem oY{l l':List Int}{n:Nat}(hl:l.length=n)(hl':l'.length=n)(h:H3 n l l'):Cv (Qh l) (Qh l'):=fun j j0 j1=>by
 rw[<-oZ j0 j1,<-oZ j0 j1];by_cases hj:j<n
 ·exact h j j0 hj
 ·unfold nth;rw[MU,MU,Nf (by omega),Nf (by omega)];exact Nx _
theorem jK{rf:Qe}{Qb:List Int}{t:Qn}(hr:Qy rf=true)(ht:QZ rf Qb t=true){k:Nat}(hk:k<=rf.Qc):Cv (Qz rf Qb k) (PC rf.Qa t.grows t.takes (Qh t.starts) k)/\Cv (PC rf.Qa t.grows t.takes (Qh t.starts) k) (Md rf Qb k):=by
 obtain⟨ho,hl⟩:=Ze hr ht;obtain⟨h1,h2,h3,h4⟩:=Tf ht;obtain⟨s1,s2⟩:=KM h1;rw[List.length_map]at s1;have hg:∀s:Nat,s<rf.Qc->∀j:Int,0<=j->j<rf.Qa.length->nth (VL rf) j<=nth (t.grows.getD s ML) j/\nth (t.grows.getD s ML) j<=nth (Ip rf) j:=fun s hs j j0 j1=>by
  obtain⟨g1,g2⟩:=KM (h4 s (by omega) hs).1;rw[List.length_map]at g1;simp only[Int.toNat_natCast]at g1 g2;have:=g2 j j0 (by rw[g1];exact j1);rw[ZA j0 j1]at this;unfold VL Ip;rw[VC j0 j1,VC j0 j1];exact this
 have hk2:∀s:Nat,s<rf.Qc->∀j:Int,0<=j->j<rf.Qa.length->nth (Gp rf (Qb.getD s 0)) j<=nth (t.takes.getD s ML) j/\nth (t.takes.getD s ML) j<=nth (YJ rf (Qb.getD s 0)) j:=fun s hs j j0 j1=>by
  obtain⟨g1,g2⟩:=KM (h4 s (by omega) hs).2;rw[WG]at g1;simp only[Int.toNat_natCast]at g1 g2;have:=g2 j j0 (by rw[g1];exact j1);unfold Gp YJ;rw[JR j0 (by rw[WG];exact j1),JR j0 (by rw[WG];exact j1)];exact this
 have ZQ:H3 rf.Qa.length (Zo rf) t.starts/\H3 rf.Qa.length t.starts (Lx rf):=by
  have h:∀j:Int,0<=j->j<rf.Qa.length->nth (Zo rf) j<=nth t.starts j/\nth t.starts j<=nth (Lx rf) j:=fun j j0 j1=>by
   have:=s2 j j0 (by omega);rw[ZA j0 j1]at this;unfold Zo Lx;rw[VC j0 j1,VC j0 j1];exact this
  exact⟨fun j a b=>(h j a b).1,fun j a b=>(h j a b).2⟩
 have eL:∀s:Nat,s<rf.Qc->(Xs rf).getD s ML=VL rf/\(Mf rf).getD s ML=Ip rf/\(Xr rf Qb).getD s ML=YJ rf (Qb.getD s 0)/\(I3 rf Qb).getD s ML=Gp rf (Qb.getD s 0):=fun s hs=>by
  refine⟨XR (k:=(s:Int)) (by omega) hs,XR (k:=(s:Int)) (by omega) hs, ?_, ?_⟩
  ·have:(Xr rf Qb).getD s ML=YJ rf (Qb.getD ((s:Int)).toNat 0):=XR (k:=(s:Int)) (by omega) hs;simpa using this
  ·have:(I3 rf Qb).getD s ML=Gp rf (Qb.getD ((s:Int)).toNat 0):=XR (k:=(s:Int)) (by omega) hs;simpa using this
 constructor
 ·refine ru (zq Qb hr) (fun s hs=> ?_) (fun s hs=> ?_) (oY (by simp[Zo]) hl ZQ.1) k hk
  ·rw[(eL s hs).1];exact fun j a b=>(hg s hs j a b).1
  ·rw[(eL s hs).2.2.1];exact fun j a b=>(hk2 s hs j a b).2
 ·refine ru ho (fun s hs=> ?_) (fun s hs=> ?_) (oY hl (by simp[Lx]) ZQ.2) k hk
  ·rw[(eL s hs).2.1];exact fun j a b=>(hg s hs j a b).2
  ·rw[(eL s hs).2.2.2];exact fun j a b=>(hk2 s hs j a b).1
end Go.Proofs.Ytncjjangllkokaa

namespace Go.Proofs.Ytncjjangllkokaa
open Go Go.CE Go.RowKit
theorem rv{ss:List Span}{g:Span->Int}(h:∀s∈ss,s.lo<=g s/\g s<=s.hi):PD (ss.map g) ss=true:=by
 unfold PD c9;simp only[YB,decide_eq_true_iff,List.length_map,true_and,List.all_eq_true];intro k hk;unfold aj at hk;obtain⟨m,hm,rfl⟩:=List.mem_map.1 hk;have hm':=List.mem_range.1 hm;have h0:0<=0+(m:Int):=by omega
 have h1:0+(m:Int)<ss.length:=by omega
 have e:(ss.map g).getD (0+(m:Int)).toNat ML=g (ss.getD (0+(m:Int)).toNat ML):=JR h0 h1;rw[e];exact P0.2 (h _ (FA h0 h1))
theorem qv{rf:Qe}(hr:Qy rf=true){x:Qd}(hx:x∈rf.Qa):Zv x=true:=by
 obtain⟨i,h0,h1,rfl⟩:=v9 hx;exact((QD hr).2 i h0 h1).1
theorem CX{rf:Qe}(hr:Qy rf=true):∀s∈rf.Qa.map (Xt rf.Qk),s.lo<=s.hi:=fun s hs=>by
 obtain⟨x,hx,rfl⟩:=List.mem_map.1 hs;have hp:=Za (qv hr hx);have ZN:=Q6 (QD hr).1;exact(Hk (a:=x.count) (r:=rf.Qk) (by omega) (by omega)).1
theorem HA{rf:Qe}(hr:Qy rf=true):∀s∈rf.Qa.map Xx,s.lo<=s.hi:=fun s hs=>by
 obtain⟨x,hx,rfl⟩:=List.mem_map.1 hs;have hp:=Za (qv hr hx);exact hp.2.2.2.2.1.2.1
theorem Gt{rf:Qe}(hr:Qy rf=true){p:Int}:∀s∈Xn rf.Qa p,s.lo<=s.hi:=fun s hs=>by
 obtain⟨i,h0,h1,rfl⟩:=v9 hs;rw[WG]at h1;rw[Pk h0 h1];exact(aq hr h0 h1).2.1
theorem Zf{rf:Qe}{Qb:List Int}(hr:Qy rf=true):QZ rf Qb ⟨Zo rf,Xs rf,Xr rf Qb⟩=true:=by
 have ZN:=Q6 (QD hr).1;have e1:((Xs rf).length:Int)=rf.Qc:=by rw[Xs,Xu];omega
 have e2:((Xr rf Qb).length:Int)=rf.Qc:=by rw[Xr,Xu];omega
 unfold QZ SZ;simp only[YB,decide_eq_true_iff,List.all_eq_true];refine⟨rv fun s hs=>⟨Nx _,CX hr s hs⟩,e1,e2,fun s hs=> ?_⟩;unfold aj at hs;obtain⟨m,hm,rfl⟩:=List.mem_map.1 hs;have hm':=List.mem_range.1 hm;have h0:0<=0+(m:Int):=by omega
 have h1:0+(m:Int)<rf.Qc:=by omega
 unfold jY;rw[show(Xs rf).getD (0+(m:Int)).toNat ML=VL rf from XR h0 h1,show(Xr rf Qb).getD (0+(m:Int)).toNat ML=YJ rf (Qb.getD (0+(m:Int)).toNat 0)from XR h0 h1,YB];exact⟨rv fun s hs=>⟨Nx _,HA hr s hs⟩,rv fun s hs=>⟨Gt hr s hs,Nx _⟩⟩
theorem Tk{f:F4}{ps:List Qd}:∀(n:Nat) (i:Int),0<=i->(ps.length-i).toNat=n->
 ((X3 f (ps.drop i.toNat) i).1=true->i<=(X3 f (ps.drop i.toNat) i).2.1/\(X3 f (ps.drop i.toNat) i).2.1<ps.length/\0<(X3 f (ps.drop i.toNat) i).2.2/\(X3 f (ps.drop i.toNat) i).2.2=(PI ps (X3 f (ps.drop i.toNat) i).2.1).goal-f.at (X3 f (ps.drop i.toNat) i).2.1/\∀k,i<=k->k<(X3 f (ps.drop i.toNat) i).2.1->(PI ps k).goal<=f.at k)/\
 ((X3 f (ps.drop i.toNat) i).1=false->∀k,i<=k->k<ps.length->(PI ps k).goal<=f.at k)
 |0,i,h0,hn=>by
  rw[jV (l:=ps) (i:=i) (by omega)];exact⟨fun h=>Bool.noConfusion h,fun _ k k0 k1=>by omega⟩
 |n+1,i,h0,hn=>by
  have ih:=Tk (f:=f) (ps:=ps) n (i+1) (by omega) (by omega);rw[Ks (l:=ps) h0 (by omega)];by_cases hd:0<(ps.getD i.toNat ML).goal-f.at i
  ·rw[decide_eq_true hd,cond_true];exact⟨fun _=>⟨Nx _,(show i<ps.length by omega),hd,rfl,fun k k0 k1=>by simp only at k1;omega⟩,fun h=>Bool.noConfusion h⟩
  ·rw[decide_eq_false hd,cond_false];have hi:(PI ps i).goal<=f.at i:=by show(ps.getD i.toNat ML).goal<=_;omega
   refine⟨fun h=> ?_,fun h k k0 k1=> ?_⟩
   ·obtain⟨a,b,c,d,e⟩:=ih.1 h;refine⟨by omega,b,c,d,fun k k0 k1=> ?_⟩;by_cases ek:k=i
    ·subst ek;exact hi
    ·exact e k (by omega) k1
   ·by_cases ek:k=i
    ·subst ek;exact hi
    ·exact ih.2 h k (by omega) k1
theorem VM{rf:Qe}{Qb:List Int}(h:(Qo rf Qb).1=true):0<=(Qo rf Qb).2.1/\(Qo rf Qb).2.1<rf.Qa.length/\0<(Qo rf Qb).2.2/\(Qo rf Qb).2.2=(PI rf.Qa (Qo rf Qb).2.1).goal-(Qz rf Qb rf.Qc.toNat).at (Qo rf Qb).2.1/\∀k:Int,0<=k->k<(Qo rf Qb).2.1->(PI rf.Qa k).goal<=(Qz rf Qb rf.Qc.toNat).at k:=
 (Tk (f:=Qz rf Qb rf.Qc.toNat) (ps:=rf.Qa) _ 0 (Nx _) rfl).1 h
theorem jU{rf:Qe}{Qb:List Int}(h:(Qo rf Qb).1=false):∀k:Int,0<=k->k<rf.Qa.length->(PI rf.Qa k).goal<=(Qz rf Qb rf.Qc.toNat).at k:=
 (Tk (f:=Qz rf Qb rf.Qc.toNat) (ps:=rf.Qa) _ 0 (Nx _) rfl).2 h
end Go.Proofs.Ytncjjangllkokaa
