/- Reef: what is left, with what was found before. -/
import Derived.Test.YtncjjangllkokaaZRQ16
set_option linter.all false
open List renaming getD->Og,getD_eq_getElem?_getD->NJ,range->NI,length_set->Ow,length->NG,set->Ot,getElem?_eq_none->Oc
open Int renaming toNat->ND,tdiv->NF,tdiv_eq_ediv_of_nonneg->Ov,le_refl->Ol
open Nat renaming strongRecOn->Oi,lt_of_lt_of_eq->OB
open Array renaming size->Ox,extract->NW
open Inhabited renaming default->NC
namespace Go.Proofs.Ytncjjangllkokaa
open Go Go.CE Go.RowKit
noncomputable section
set_option maxRecDepth 100000
def mH(rf:Qe)(Qb:List Int)(es:List (F4×F4)):Qp:=[(1,.map (mapA QC es) es.length),(0,Xp)]
def dO(rf:Qe)(Qb:List Int)(es:List (F4×F4)):CF:=Qw YP 89 45 [.agg #[Q6 0 (UU rf.Qa),.int .i64 rf.Qn,.int .i64 rf.Qc,.map (some 1)],.agg #[.int .i64 (Qb.getD 0 0),.int .i64 (Qb.getD 1 0),.int .i64 (Qb.getD 2 0),.int .i64 (Qb.getD 3 0)],.int .i64 0]
def Fx(rf:Qe):Value:=(.agg #[.int .i64 (Og (VS rf) 0 NC),.int .i64 (Og (VS rf) 1 NC),.int .i64 (Og (VS rf) 2 NC),.int .i64 (Og (VS rf) 3 NC)])
theorem Fy(B:Lo)(rf:Qe)(Qb:List Int)(es:List (F4×F4)):let a:=Fx rf;CE.finK 2 (Qv YP (QA YP) J0 B 12 2 (dO rf Qb es) (mH rf Qb es) 2
 [(12,Qj.pure a [])] 0 [] []) [(1,KS.same)] [] []=some (OO.ret a,[(1,Obj.map (mapA QC es) es.length)],[],
 [XH (mapA QC es),Q7 []/\Q4 YP J0 75 #[.agg #[QO rf.Qa.length (Qg Qk rf.Qa),.int .i64 rf.Qn,.int .i64 rf.Qc,.int .i64 (Qb.getD 0 0),.int .i64 (Qb.getD 1 0),.int .i64 (Qb.getD 2 0),.int .i64 (Qb.getD 3 0)],Value.func (Fn.func 76) #[] #[]] a]):=by intro a;kernel_rfl
set_option maxHeartbeats 4000000 in
theorem Ia(rf:Qe)(Qb:List Int)(es:List (F4×F4))(hr:XG rf=true)(hp:X2 rf Qb=true)(he:JT rf es){B:Lo}(hJ:∀w,B.has w->J0 w):FinK YP B (dO rf Qb es) (mH rf Qb es) 2 (.ret (.agg #[.int .i64 (QG rf Qb 0).a,.int .i64 (QG rf Qb 0).b,.int .i64 (QG rf Qb 0).c,.int .i64 (QG rf Qb 0).d])) (([1]:List Nat).zip [.map (mapA QC (XM rf Qb 0 es)) (XM rf Qb 0 es).length]) [] ([1]:List Nat):=by
 have Z0:=Q5 (Qs hr).1;exact(GoE.finK okF hJ Qf (Q9 (by kernel_rfl)) (Q1 (by kernel_rfl)) ((GoE.refl (P:=YP) (B:=B) (c0:=dO rf Qb es) (Q9 (by kernel_rfl))).widen (Wf:=((([(1,KS.same)]):List (Nat×KS)).map (·.1))) (by simp) (Q1 (by kernel_rfl))) (Fy B rf Qb es)
  ⟨(by exact X6 (fun _=>by kernel_rfl)),⟨⟨trivial,H6 (rf) (Qb) (by with_reducible assumption)⟩,trivial⟩⟩).cast (by rfl) (by rfl) (by rfl)
def qT(rf:Qe)(Qb:List Int)(es:List (F4×F4)):OO:=.ret (.agg #[.int .i64 (QG rf Qb 0).a,.int .i64 (QG rf Qb 0).b,.int .i64 (QG rf Qb 0).c,.int .i64 (QG rf Qb 0).d])
def qS(rf:Qe)(Qb:List Int)(es:List (F4×F4)):List Obj:=[.map (mapA QC (XM rf Qb 0 es)) (XM rf Qb 0 es).length]
def qU(rf:Qe)(Qb:List Int)(es:List (F4×F4)):List Obj:=[]
def Ib(rf:Qe)(Qb:List Int)(es:List (F4×F4)):Prop:=WriC YP J0 89 #[.agg #[Q6 0 (UU rf.Qa),.int .i64 rf.Qn,.int .i64 rf.Qc,.map (some 1)],.agg #[.int .i64 (Qb.getD 0 0),.int .i64 (Qb.getD 1 0),.int .i64 (Qb.getD 2 0),.int .i64 (Qb.getD 3 0)],.int .i64 0] [.map (mapA QC es) es.length] (qT rf Qb es) (qS rf Qb es) (qU rf Qb es)
theorem IU(rf:Qe)(Qb:List Int)(es:List (F4×F4))(hr:XG rf=true)(hp:X2 rf Qb=true)(he:JT rf es):WriC YP J0 89 #[.agg #[Q6 0 (UU rf.Qa),.int .i64 rf.Qn,.int .i64 rf.Qc,.map (some 1)],.agg #[.int .i64 (Qb.getD 0 0),.int .i64 (Qb.getD 1 0),.int .i64 (Qb.getD 2 0),.int .i64 (Qb.getD 3 0)],.int .i64 0] [.map (mapA QC es) es.length] (qT rf Qb es) (qS rf Qb es) (qU rf Qb es):=
 FinK.wri (c0:=dO rf Qb es) (Hb:=mH rf Qb es) (a:=2) (ws:=([1]:List Nat).zip [.map (mapA QC (XM rf Qb 0 es)) (XM rf Qb 0 es).length]) (Wf:=([1]:List Nat)) (by kernel_rfl) rfl rfl rfl rfl fun B hJ=>Ia rf Qb es hr hp he hJ
def dN(rf:Qe)(Qb:List Int)(es:List (F4×F4)):Qp:=[(1,.map (mapA QC es) es.length),(0,Xp)]
def Rp(rf:Qe)(Qb:List Int)(es:List (F4×F4)):CF:=Qw YP 89 45 [.agg #[Q6 0 (UU rf.Qa),.int .i64 rf.Qn,.int .i64 rf.Qc,.map (some 1)],.agg #[.int .i64 (Qb.getD 0 0),.int .i64 (Qb.getD 1 0),.int .i64 (Qb.getD 2 0),.int .i64 (Qb.getD 3 0)],.int .i64 1]
def vU(Qb:List Int)(es:List (F4×F4)):Array Value:=#[.int .i64 (F4.a (JN QC es {a:=if 0<1 then Qb.getD 0 0 else -1,b:= -1,c:= -1,d:= -1})),.int .i64 (F4.b (JN QC es {a:=if 0<1 then Qb.getD 0 0 else -1,b:= -1,c:= -1,d:= -1})),.int .i64 (F4.c (JN QC es {a:=if 0<1 then Qb.getD 0 0 else -1,b:= -1,c:= -1,d:= -1})),.int .i64 (F4.d (JN QC es {a:=if 0<1 then Qb.getD 0 0 else -1,b:= -1,c:= -1,d:= -1}))]
def T5(Qb:List Int):Value:=(.agg #[.int .i64 (if 0<1 then Qb.getD 0 0 else -1),.int .i64 (-1),.int .i64 (-1),.int .i64 (-1)])
def T4(rf:Qe)(Qb:List Int):=(PC rf (Qb.getD (ND 0) 0))
def Fu(rf:Qe)(Qb:List Int):Value:=(.agg #[.int .i64 (F4.a (X3 (KA rf) (T4 rf Qb) rf.Qa {a:=F4.a (QG rf Qb 0),b:=F4.b (QG rf Qb 0),c:=F4.c (QG rf Qb 0),d:=F4.d (QG rf Qb 0)})),.int .i64 (F4.b (X3 (KA rf) (T4 rf Qb) rf.Qa {a:=F4.a (QG rf Qb 0),b:=F4.b (QG rf Qb 0),c:=F4.c (QG rf Qb 0),d:=F4.d (QG rf Qb 0)})),.int .i64 (F4.c (X3 (KA rf) (T4 rf Qb) rf.Qa {a:=F4.a (QG rf Qb 0),b:=F4.b (QG rf Qb 0),c:=F4.c (QG rf Qb 0),d:=F4.d (QG rf Qb 0)})),.int .i64 (F4.d (X3 (KA rf) (T4 rf Qb) rf.Qa {a:=F4.a (QG rf Qb 0),b:=F4.b (QG rf Qb 0),c:=F4.c (QG rf Qb 0),d:=F4.d (QG rf Qb 0)}))])
def vT  :Value:=(.tuple #[.agg #[.int .i64 0,.int .i64 0,.int .i64 0,.int .i64 0],.bool false])
def mG(B:Lo)(rf:Qe)(Qb:List Int)(es:List (F4×F4)):List Prop:=[Q7 []/\Q4 YP J0 111 #[.agg #[.int .i64 (Qb.getD 0 0),.int .i64 (Qb.getD 1 0),.int .i64 (Qb.getD 2 0),.int .i64 (Qb.getD 3 0)],.int .i64 1] (T5 Qb)]++([]:List Prop)
def vV(rf:Qe)(Qb:List Int)(es:List (F4×F4)):QE:=[(13,Qj.pure (T5 Qb) [])]
theorem Fw(B:Lo)(rf:Qe)(Qb:List Int)(es:List (F4×F4)):let b:=mapA QC es;let a:=Value.tuple #[.agg (vU Qb es),.bool true];CE.finK 2 (Qv YP (QA YP) J0 B 22 2 (Rp rf Qb es) (dN rf Qb es) 2
 (vV rf Qb es++[(19,Qj.XV (Hint.look a))]) 0 [] []) [(1,KS.same)] [] []=some (OO.ret (.agg (vU Qb es)),[(1,Obj.map b es.length)],[],
 [XH b,JS YP 96 b true (XB {len:=16000,tr:=Tri.set 14 (Tri.set 14 Tri.lf 25 (T5 Qb)) 24 (Value.map (some 1))} 25) a]++mG B rf Qb es):=by intro b a;kernel_rfl
theorem Fv(B:Lo)(rf:Qe)(Qb:List Int)(es:List (F4×F4)):let l:=Value.map (some 1);let k:=rf.Qa;let j:=Fu rf Qb;let i:=Tri.set 14 (Tri.set 14 Tri.lf 43 j) 42 (T5 Qb);let h:=XM rf Qb 0 es;let g:=QG rf Qb 0;let f:=dP QC h {a:=if 0<1 then Qb.getD 0 0 else -1,b:= -1,c:= -1,d:= -1} (X3 (KA rf) (PC rf (Qb.getD (ND 0) 0)) k {a:=g.a,b:=g.b,c:=g.c,d:=g.d});let e:=dP QC h {a:=if 0<1 then Qb.getD 0 0 else -1,b:= -1,c:= -1,d:= -1} (X3 (KA rf) (T4 rf Qb) k {a:=g.a,b:=g.b,c:=g.c,d:=g.d});CE.finK 2 (Qv YP (QA YP) J0 B 24 2 (Rp rf Qb es) (dN rf Qb es) 2
 (vV rf Qb es++[(19,Qj.XV (Hint.look vT)),(33,Qj.wri [1] [0] [true] [] (qT rf Qb es) (qS rf Qb es) (qU rf Qb es)),(36,Qj.pure j []),(42,Qj.XV (Hint.upd (mapA QC e) e.length))]) 0 [] []) [(1,KS.same)] [] []=some (OO.ret j,[(1,Obj.map (mapA QC e) e.length)],[],
 [XH (mapA QC f),fx YP 96 (mapA QC h) h.length (XB {len:=16000,tr:=Tri.set 14 i 41 l} 42) (XB {len:=16000,tr:=Tri.set 14 i 41 l} 43) (mapA QC f) f.length,Q7 []/\Q4 YP J0 78 #[.agg #[QO k.length (Qg Qk k),.int .i64 rf.Qn,.int .i64 rf.Qc,.int .i64 (Qb.getD 0 0),.int .i64 (Qb.getD 1 0),.int .i64 (Qb.getD 2 0),.int .i64 (Qb.getD 3 0)],.agg #[.int .i64 g.a,.int .i64 g.b,.int .i64 g.c,.int .i64 g.d],.int .i64 0] j,Q7 [XH (mapA QC es),XH (mapA QC h)]/\Ib (rf) (Qb) (es),JS YP 96 (mapA QC es) true (XB {len:=16000,tr:=Tri.set 14 (Tri.set 14 Tri.lf 25 (T5 Qb)) 24 l} 25) vT]++mG B rf Qb es):=by intro l k j i h g f e;kernel_rfl
set_option maxHeartbeats 4000000 in
theorem HY(rf:Qe)(Qb:List Int)(es:List (F4×F4))(hr:XG rf=true)(hp:X2 rf Qb=true)(he:JT rf es)(hs:1<=rf.Qc){B:Lo}(hJ:∀w,B.has w->J0 w):FinK YP B (Rp rf Qb es) (dN rf Qb es) 2 (.ret (.agg #[.int .i64 (QG rf Qb 1).a,.int .i64 (QG rf Qb 1).b,.int .i64 (QG rf Qb 1).c,.int .i64 (QG rf Qb 1).d])) (([1]:List Nat).zip [.map (mapA QC (XM rf Qb 1 es)) (XM rf Qb 1 es).length]) [] ([1]:List Nat):=by
 have Z0:=Q5 (Qs hr).1;have hpf:=(Xs hp).1;have hpg:∀j:Nat,0<=Qb.getD j 0/\Qb.getD j 0<=1000000:=fun j=>(fun h=>⟨h.1,by omega⟩) (XK hr hp j)
 have hf4:=(Y5 (Qb:=Qb) hr (s:=0) (by omega)).1;have hs4:=(Y5 (Qb:=Qb) hr (s:=0) (by omega)).2;have hnx:=Ji (rf:=rf) (Qb:=Qb) (s:=0) (by omega);have Vg:Q7 (mG B rf Qb es):=by
  exact⟨⟨trivial,HC (Qb.getD 0 0) (Qb.getD 1 0) (Qb.getD 2 0) (Qb.getD 3 0) (1) (by omega) (by omega)⟩,trivial⟩
 cases q0:Sy QC es {a:=if 0<1 then Qb.getD 0 0 else -1,b:= -1,c:= -1,d:= -1}with
 |true=>
  have hfo:=aF (s:=1) hr hp he (by omega) q0;exact(GoE.finK okF hJ Qf (Q9 (by kernel_rfl)) (Q1 (by kernel_rfl)) ((GoE.refl (P:=YP) (B:=B) (c0:=Rp rf Qb es) (Q9 (by kernel_rfl))).widen (Wf:=((([(1,KS.same)]):List (Nat×KS)).map (·.1))) (by simp) (Q1 (by kernel_rfl))) (Fw B rf Qb es)
   ⟨(by exact X6 (fun _=>by kernel_rfl)),⟨(qm (k:={a:=if 0<1 then Qb.getD 0 0 else -1,b:= -1,c:= -1,d:= -1}) (ok:=true) WQ rfl q0),Vg⟩⟩).cast (by(show _=OO.ret (v4 (QG rf Qb 1));rw[<-hfo];rfl)) (by(unfold XM;rw[show Sy QC es (TC Qb ((0+1:Nat):Int))=_ from q0];rfl)) (by rfl)
 |false=>
  exact(GoE.finK okF hJ Qf (Q9 (by kernel_rfl)) (Q1 (by kernel_rfl)) ((GoE.refl (P:=YP) (B:=B) (c0:=Rp rf Qb es) (Q9 (by kernel_rfl))).widen (Wf:=((([(1,KS.same)]):List (Nat×KS)).map (·.1))) (by simp) (Q1 (by kernel_rfl))) (Fv B rf Qb es)
   ⟨(by exact X6 (fun _=>by kernel_rfl)),⟨(HN (k:={a:=if 0<1 then Qb.getD 0 0 else -1,b:= -1,c:= -1,d:= -1}) (x:=X3 (KA rf) (PC rf (Qb.getD (ND 0) 0)) rf.Qa {a:=F4.a (QG rf Qb 0),b:=F4.b (QG rf Qb 0),c:=F4.c (QG rf Qb 0),d:=F4.d (QG rf Qb 0)}) WQ rfl),⟨⟨trivial,iE (rf) (Qb) (F4.a (QG rf Qb 0)) (F4.b (QG rf Qb 0)) (F4.c (QG rf Qb 0)) (F4.d (QG rf Qb 0)) (0) (by with_reducible assumption) (by omega) (by with_reducible assumption) (by omega) (by omega) (by with_reducible assumption) (by with_reducible assumption)⟩,⟨⟨⟨(X6 (fun _=>by kernel_rfl)),⟨(X6 (fun _=>by kernel_rfl)),trivial⟩⟩,IU (rf) (Qb) (es) (by with_reducible assumption) (by with_reducible assumption) (by with_reducible assumption)⟩,⟨(qo (k:={a:=if 0<1 then Qb.getD 0 0 else -1,b:= -1,c:= -1,d:= -1}) (ok:=true) WQ rfl rfl (by kernel_rfl) q0),Vg⟩⟩⟩⟩⟩).cast (by(show _=OO.ret (v4 (QG rf Qb (0+1)));rw[hnx];rfl)) (by(unfold XM;rw[show Sy QC es (TC Qb ((0+1:Nat):Int))=_ from q0];rfl)) (by rfl)
def qP(rf:Qe)(Qb:List Int)(es:List (F4×F4)):OO:=.ret (.agg #[.int .i64 (QG rf Qb 1).a,.int .i64 (QG rf Qb 1).b,.int .i64 (QG rf Qb 1).c,.int .i64 (QG rf Qb 1).d])
def qO(rf:Qe)(Qb:List Int)(es:List (F4×F4)):List Obj:=[.map (mapA QC (XM rf Qb 1 es)) (XM rf Qb 1 es).length]
def qQ(rf:Qe)(Qb:List Int)(es:List (F4×F4)):List Obj:=[]
def HZ(rf:Qe)(Qb:List Int)(es:List (F4×F4)):Prop:=WriC YP J0 89 #[.agg #[Q6 0 (UU rf.Qa),.int .i64 rf.Qn,.int .i64 rf.Qc,.map (some 1)],.agg #[.int .i64 (Qb.getD 0 0),.int .i64 (Qb.getD 1 0),.int .i64 (Qb.getD 2 0),.int .i64 (Qb.getD 3 0)],.int .i64 1] [.map (mapA QC es) es.length] (qP rf Qb es) (qO rf Qb es) (qQ rf Qb es)
theorem IT(rf:Qe)(Qb:List Int)(es:List (F4×F4))(hr:XG rf=true)(hp:X2 rf Qb=true)(he:JT rf es)(hs:1<=rf.Qc):WriC YP J0 89 #[.agg #[Q6 0 (UU rf.Qa),.int .i64 rf.Qn,.int .i64 rf.Qc,.map (some 1)],.agg #[.int .i64 (Qb.getD 0 0),.int .i64 (Qb.getD 1 0),.int .i64 (Qb.getD 2 0),.int .i64 (Qb.getD 3 0)],.int .i64 1] [.map (mapA QC es) es.length] (qP rf Qb es) (qO rf Qb es) (qQ rf Qb es):=
 FinK.wri (c0:=Rp rf Qb es) (Hb:=dN rf Qb es) (a:=2) (ws:=([1]:List Nat).zip [.map (mapA QC (XM rf Qb 1 es)) (XM rf Qb 1 es).length]) (Wf:=([1]:List Nat)) (by kernel_rfl) rfl rfl rfl rfl fun B hJ=>HY rf Qb es hr hp he hs hJ
def dM(rf:Qe)(Qb:List Int)(es:List (F4×F4)):Qp:=[(1,.map (mapA QC es) es.length),(0,Xp)]
def Ro(rf:Qe)(Qb:List Int)(es:List (F4×F4)):CF:=Qw YP 89 45 [.agg #[Q6 0 (UU rf.Qa),.int .i64 rf.Qn,.int .i64 rf.Qc,.map (some 1)],.agg #[.int .i64 (Qb.getD 0 0),.int .i64 (Qb.getD 1 0),.int .i64 (Qb.getD 2 0),.int .i64 (Qb.getD 3 0)],.int .i64 2]
def vR(Qb:List Int)(es:List (F4×F4)):Array Value:=#[.int .i64 (F4.a (JN QC es {a:=if 0<2 then Qb.getD 0 0 else -1,b:=if 1<2 then Qb.getD 1 0 else -1,c:= -1,d:= -1})),.int .i64 (F4.b (JN QC es {a:=if 0<2 then Qb.getD 0 0 else -1,b:=if 1<2 then Qb.getD 1 0 else -1,c:= -1,d:= -1})),.int .i64 (F4.c (JN QC es {a:=if 0<2 then Qb.getD 0 0 else -1,b:=if 1<2 then Qb.getD 1 0 else -1,c:= -1,d:= -1})),.int .i64 (F4.d (JN QC es {a:=if 0<2 then Qb.getD 0 0 else -1,b:=if 1<2 then Qb.getD 1 0 else -1,c:= -1,d:= -1}))]
def T3(Qb:List Int):Value:=(.agg #[.int .i64 (if 0<2 then Qb.getD 0 0 else -1),.int .i64 (if 1<2 then Qb.getD 1 0 else -1),.int .i64 (-1),.int .i64 (-1)])
def T0(rf:Qe)(Qb:List Int):=(PC rf (Qb.getD (ND 1) 0))
def Fq(rf:Qe)(Qb:List Int):Value:=(.agg #[.int .i64 (F4.a (X3 (KA rf) (T0 rf Qb) rf.Qa {a:=F4.a (QG rf Qb 1),b:=F4.b (QG rf Qb 1),c:=F4.c (QG rf Qb 1),d:=F4.d (QG rf Qb 1)})),.int .i64 (F4.b (X3 (KA rf) (T0 rf Qb) rf.Qa {a:=F4.a (QG rf Qb 1),b:=F4.b (QG rf Qb 1),c:=F4.c (QG rf Qb 1),d:=F4.d (QG rf Qb 1)})),.int .i64 (F4.c (X3 (KA rf) (T0 rf Qb) rf.Qa {a:=F4.a (QG rf Qb 1),b:=F4.b (QG rf Qb 1),c:=F4.c (QG rf Qb 1),d:=F4.d (QG rf Qb 1)})),.int .i64 (F4.d (X3 (KA rf) (T0 rf Qb) rf.Qa {a:=F4.a (QG rf Qb 1),b:=F4.b (QG rf Qb 1),c:=F4.c (QG rf Qb 1),d:=F4.d (QG rf Qb 1)}))])
def vQ  :Value:=(.tuple #[.agg #[.int .i64 0,.int .i64 0,.int .i64 0,.int .i64 0],.bool false])
def mF(B:Lo)(rf:Qe)(Qb:List Int)(es:List (F4×F4)):List Prop:=[Q7 []/\Q4 YP J0 111 #[.agg #[.int .i64 (Qb.getD 0 0),.int .i64 (Qb.getD 1 0),.int .i64 (Qb.getD 2 0),.int .i64 (Qb.getD 3 0)],.int .i64 2] (T3 Qb)]++([]:List Prop)
def vS(rf:Qe)(Qb:List Int)(es:List (F4×F4)):QE:=[(13,Qj.pure (T3 Qb) [])]
theorem Ft(B:Lo)(rf:Qe)(Qb:List Int)(es:List (F4×F4)):let b:=mapA QC es;let a:=Value.tuple #[.agg (vR Qb es),.bool true];CE.finK 2 (Qv YP (QA YP) J0 B 22 2 (Ro rf Qb es) (dM rf Qb es) 2
 (vS rf Qb es++[(19,Qj.XV (Hint.look a))]) 0 [] []) [(1,KS.same)] [] []=some (OO.ret (.agg (vR Qb es)),[(1,Obj.map b es.length)],[],
 [XH b,JS YP 96 b true (XB {len:=16000,tr:=Tri.set 14 (Tri.set 14 Tri.lf 25 (T3 Qb)) 24 (Value.map (some 1))} 25) a]++mF B rf Qb es):=by intro b a;kernel_rfl
theorem Fs(B:Lo)(rf:Qe)(Qb:List Int)(es:List (F4×F4)):let l:=Value.map (some 1);let k:=rf.Qa;let j:=Fq rf Qb;let i:=Tri.set 14 (Tri.set 14 Tri.lf 43 j) 42 (T3 Qb);let h:=XM rf Qb 1 es;let g:=QG rf Qb 1;let f:=dP QC h {a:=if 0<2 then Qb.getD 0 0 else -1,b:=if 1<2 then Qb.getD 1 0 else -1,c:= -1,d:= -1} (X3 (KA rf) (PC rf (Qb.getD (ND 1) 0)) k {a:=g.a,b:=g.b,c:=g.c,d:=g.d});let e:=dP QC h {a:=if 0<2 then Qb.getD 0 0 else -1,b:=if 1<2 then Qb.getD 1 0 else -1,c:= -1,d:= -1} (X3 (KA rf) (T0 rf Qb) k {a:=g.a,b:=g.b,c:=g.c,d:=g.d});CE.finK 2 (Qv YP (QA YP) J0 B 24 2 (Ro rf Qb es) (dM rf Qb es) 2
 (vS rf Qb es++[(19,Qj.XV (Hint.look vQ)),(33,Qj.wri [1] [0] [true] [] (qP rf Qb es) (qO rf Qb es) (qQ rf Qb es)),(36,Qj.pure j []),(42,Qj.XV (Hint.upd (mapA QC e) e.length))]) 0 [] []) [(1,KS.same)] [] []=some (OO.ret j,[(1,Obj.map (mapA QC e) e.length)],[],
 [XH (mapA QC f),fx YP 96 (mapA QC h) h.length (XB {len:=16000,tr:=Tri.set 14 i 41 l} 42) (XB {len:=16000,tr:=Tri.set 14 i 41 l} 43) (mapA QC f) f.length,Q7 []/\Q4 YP J0 78 #[.agg #[QO k.length (Qg Qk k),.int .i64 rf.Qn,.int .i64 rf.Qc,.int .i64 (Qb.getD 0 0),.int .i64 (Qb.getD 1 0),.int .i64 (Qb.getD 2 0),.int .i64 (Qb.getD 3 0)],.agg #[.int .i64 g.a,.int .i64 g.b,.int .i64 g.c,.int .i64 g.d],.int .i64 1] j,Q7 [XH (mapA QC es),XH (mapA QC h)]/\HZ (rf) (Qb) (es),JS YP 96 (mapA QC es) true (XB {len:=16000,tr:=Tri.set 14 (Tri.set 14 Tri.lf 25 (T3 Qb)) 24 l} 25) vQ]++mF B rf Qb es):=by intro l k j i h g f e;kernel_rfl
set_option maxHeartbeats 4000000 in
theorem HW(rf:Qe)(Qb:List Int)(es:List (F4×F4))(hr:XG rf=true)(hp:X2 rf Qb=true)(he:JT rf es)(hs:2<=rf.Qc){B:Lo}(hJ:∀w,B.has w->J0 w):FinK YP B (Ro rf Qb es) (dM rf Qb es) 2 (.ret (.agg #[.int .i64 (QG rf Qb 2).a,.int .i64 (QG rf Qb 2).b,.int .i64 (QG rf Qb 2).c,.int .i64 (QG rf Qb 2).d])) (([1]:List Nat).zip [.map (mapA QC (XM rf Qb 2 es)) (XM rf Qb 2 es).length]) [] ([1]:List Nat):=by
 have Z0:=Q5 (Qs hr).1;have hpf:=(Xs hp).1;have hpg:∀j:Nat,0<=Qb.getD j 0/\Qb.getD j 0<=1000000:=fun j=>(fun h=>⟨h.1,by omega⟩) (XK hr hp j)
 have hf4:=(Y5 (Qb:=Qb) hr (s:=1) (by omega)).1;have hs4:=(Y5 (Qb:=Qb) hr (s:=1) (by omega)).2;have hnx:=Ji (rf:=rf) (Qb:=Qb) (s:=1) (by omega);have Vg:Q7 (mF B rf Qb es):=by
  exact⟨⟨trivial,HC (Qb.getD 0 0) (Qb.getD 1 0) (Qb.getD 2 0) (Qb.getD 3 0) (2) (by omega) (by omega)⟩,trivial⟩
 cases q0:Sy QC es {a:=if 0<2 then Qb.getD 0 0 else -1,b:=if 1<2 then Qb.getD 1 0 else -1,c:= -1,d:= -1}with
 |true=>
  have hfo:=aF (s:=2) hr hp he (by omega) q0;exact(GoE.finK okF hJ Qf (Q9 (by kernel_rfl)) (Q1 (by kernel_rfl)) ((GoE.refl (P:=YP) (B:=B) (c0:=Ro rf Qb es) (Q9 (by kernel_rfl))).widen (Wf:=((([(1,KS.same)]):List (Nat×KS)).map (·.1))) (by simp) (Q1 (by kernel_rfl))) (Ft B rf Qb es)
   ⟨(by exact X6 (fun _=>by kernel_rfl)),⟨(qm (k:={a:=if 0<2 then Qb.getD 0 0 else -1,b:=if 1<2 then Qb.getD 1 0 else -1,c:= -1,d:= -1}) (ok:=true) WQ rfl q0),Vg⟩⟩).cast (by(show _=OO.ret (v4 (QG rf Qb 2));rw[<-hfo];rfl)) (by(unfold XM;rw[show Sy QC es (TC Qb ((1+1:Nat):Int))=_ from q0];rfl)) (by rfl)
 |false=>
  exact(GoE.finK okF hJ Qf (Q9 (by kernel_rfl)) (Q1 (by kernel_rfl)) ((GoE.refl (P:=YP) (B:=B) (c0:=Ro rf Qb es) (Q9 (by kernel_rfl))).widen (Wf:=((([(1,KS.same)]):List (Nat×KS)).map (·.1))) (by simp) (Q1 (by kernel_rfl))) (Fs B rf Qb es)
   ⟨(by exact X6 (fun _=>by kernel_rfl)),⟨(HN (k:={a:=if 0<2 then Qb.getD 0 0 else -1,b:=if 1<2 then Qb.getD 1 0 else -1,c:= -1,d:= -1}) (x:=X3 (KA rf) (PC rf (Qb.getD (ND 1) 0)) rf.Qa {a:=F4.a (QG rf Qb 1),b:=F4.b (QG rf Qb 1),c:=F4.c (QG rf Qb 1),d:=F4.d (QG rf Qb 1)}) WQ rfl),⟨⟨trivial,iE (rf) (Qb) (F4.a (QG rf Qb 1)) (F4.b (QG rf Qb 1)) (F4.c (QG rf Qb 1)) (F4.d (QG rf Qb 1)) (1) (by with_reducible assumption) (by omega) (by with_reducible assumption) (by omega) (by omega) (by with_reducible assumption) (by with_reducible assumption)⟩,⟨⟨⟨(X6 (fun _=>by kernel_rfl)),⟨(X6 (fun _=>by kernel_rfl)),trivial⟩⟩,IT (rf) (Qb) (es) (by with_reducible assumption) (by with_reducible assumption) (by with_reducible assumption) (by omega)⟩,⟨(qo (k:={a:=if 0<2 then Qb.getD 0 0 else -1,b:=if 1<2 then Qb.getD 1 0 else -1,c:= -1,d:= -1}) (ok:=true) WQ rfl rfl (by kernel_rfl) q0),Vg⟩⟩⟩⟩⟩).cast (by(show _=OO.ret (v4 (QG rf Qb (1+1)));rw[hnx];rfl)) (by(unfold XM;rw[show Sy QC es (TC Qb ((1+1:Nat):Int))=_ from q0];rfl)) (by rfl)
def qM(rf:Qe)(Qb:List Int)(es:List (F4×F4)):OO:=.ret (.agg #[.int .i64 (QG rf Qb 2).a,.int .i64 (QG rf Qb 2).b,.int .i64 (QG rf Qb 2).c,.int .i64 (QG rf Qb 2).d])
def qL(rf:Qe)(Qb:List Int)(es:List (F4×F4)):List Obj:=[.map (mapA QC (XM rf Qb 2 es)) (XM rf Qb 2 es).length]
def qN(rf:Qe)(Qb:List Int)(es:List (F4×F4)):List Obj:=[]
def HX(rf:Qe)(Qb:List Int)(es:List (F4×F4)):Prop:=WriC YP J0 89 #[.agg #[Q6 0 (UU rf.Qa),.int .i64 rf.Qn,.int .i64 rf.Qc,.map (some 1)],.agg #[.int .i64 (Qb.getD 0 0),.int .i64 (Qb.getD 1 0),.int .i64 (Qb.getD 2 0),.int .i64 (Qb.getD 3 0)],.int .i64 2] [.map (mapA QC es) es.length] (qM rf Qb es) (qL rf Qb es) (qN rf Qb es)
theorem IS(rf:Qe)(Qb:List Int)(es:List (F4×F4))(hr:XG rf=true)(hp:X2 rf Qb=true)(he:JT rf es)(hs:2<=rf.Qc):WriC YP J0 89 #[.agg #[Q6 0 (UU rf.Qa),.int .i64 rf.Qn,.int .i64 rf.Qc,.map (some 1)],.agg #[.int .i64 (Qb.getD 0 0),.int .i64 (Qb.getD 1 0),.int .i64 (Qb.getD 2 0),.int .i64 (Qb.getD 3 0)],.int .i64 2] [.map (mapA QC es) es.length] (qM rf Qb es) (qL rf Qb es) (qN rf Qb es):=
 FinK.wri (c0:=Ro rf Qb es) (Hb:=dM rf Qb es) (a:=2) (ws:=([1]:List Nat).zip [.map (mapA QC (XM rf Qb 2 es)) (XM rf Qb 2 es).length]) (Wf:=([1]:List Nat)) (by kernel_rfl) rfl rfl rfl rfl fun B hJ=>HW rf Qb es hr hp he hs hJ
def dL(rf:Qe)(Qb:List Int)(es:List (F4×F4)):Qp:=[(1,.map (mapA QC es) es.length),(0,Xp)]
def Rn(rf:Qe)(Qb:List Int)(es:List (F4×F4)):CF:=Qw YP 89 45 [.agg #[Q6 0 (UU rf.Qa),.int .i64 rf.Qn,.int .i64 rf.Qc,.map (some 1)],.agg #[.int .i64 (Qb.getD 0 0),.int .i64 (Qb.getD 1 0),.int .i64 (Qb.getD 2 0),.int .i64 (Qb.getD 3 0)],.int .i64 3]
def vO(Qb:List Int)(es:List (F4×F4)):Array Value:=#[.int .i64 (F4.a (JN QC es {a:=if 0<3 then Qb.getD 0 0 else -1,b:=if 1<3 then Qb.getD 1 0 else -1,c:=if 2<3 then Qb.getD 2 0 else -1,d:= -1})),.int .i64 (F4.b (JN QC es {a:=if 0<3 then Qb.getD 0 0 else -1,b:=if 1<3 then Qb.getD 1 0 else -1,c:=if 2<3 then Qb.getD 2 0 else -1,d:= -1})),.int .i64 (F4.c (JN QC es {a:=if 0<3 then Qb.getD 0 0 else -1,b:=if 1<3 then Qb.getD 1 0 else -1,c:=if 2<3 then Qb.getD 2 0 else -1,d:= -1})),.int .i64 (F4.d (JN QC es {a:=if 0<3 then Qb.getD 0 0 else -1,b:=if 1<3 then Qb.getD 1 0 else -1,c:=if 2<3 then Qb.getD 2 0 else -1,d:= -1}))]
def Tz(Qb:List Int):Value:=(.agg #[.int .i64 (if 0<3 then Qb.getD 0 0 else -1),.int .i64 (if 1<3 then Qb.getD 1 0 else -1),.int .i64 (if 2<3 then Qb.getD 2 0 else -1),.int .i64 (-1)])
def Ty(rf:Qe)(Qb:List Int):=(PC rf (Qb.getD (ND 2) 0))
def Fm(rf:Qe)(Qb:List Int):Value:=(.agg #[.int .i64 (F4.a (X3 (KA rf) (Ty rf Qb) rf.Qa {a:=F4.a (QG rf Qb 2),b:=F4.b (QG rf Qb 2),c:=F4.c (QG rf Qb 2),d:=F4.d (QG rf Qb 2)})),.int .i64 (F4.b (X3 (KA rf) (Ty rf Qb) rf.Qa {a:=F4.a (QG rf Qb 2),b:=F4.b (QG rf Qb 2),c:=F4.c (QG rf Qb 2),d:=F4.d (QG rf Qb 2)})),.int .i64 (F4.c (X3 (KA rf) (Ty rf Qb) rf.Qa {a:=F4.a (QG rf Qb 2),b:=F4.b (QG rf Qb 2),c:=F4.c (QG rf Qb 2),d:=F4.d (QG rf Qb 2)})),.int .i64 (F4.d (X3 (KA rf) (Ty rf Qb) rf.Qa {a:=F4.a (QG rf Qb 2),b:=F4.b (QG rf Qb 2),c:=F4.c (QG rf Qb 2),d:=F4.d (QG rf Qb 2)}))])
def vN  :Value:=(.tuple #[.agg #[.int .i64 0,.int .i64 0,.int .i64 0,.int .i64 0],.bool false])
def mE(B:Lo)(rf:Qe)(Qb:List Int)(es:List (F4×F4)):List Prop:=[Q7 []/\Q4 YP J0 111 #[.agg #[.int .i64 (Qb.getD 0 0),.int .i64 (Qb.getD 1 0),.int .i64 (Qb.getD 2 0),.int .i64 (Qb.getD 3 0)],.int .i64 3] (Tz Qb)]++([]:List Prop)
def vP(rf:Qe)(Qb:List Int)(es:List (F4×F4)):QE:=[(13,Qj.pure (Tz Qb) [])]
theorem Fp(B:Lo)(rf:Qe)(Qb:List Int)(es:List (F4×F4)):let b:=mapA QC es;let a:=Value.tuple #[.agg (vO Qb es),.bool true];CE.finK 2 (Qv YP (QA YP) J0 B 22 2 (Rn rf Qb es) (dL rf Qb es) 2
 (vP rf Qb es++[(19,Qj.XV (Hint.look a))]) 0 [] []) [(1,KS.same)] [] []=some (OO.ret (.agg (vO Qb es)),[(1,Obj.map b es.length)],[],
 [XH b,JS YP 96 b true (XB {len:=16000,tr:=Tri.set 14 (Tri.set 14 Tri.lf 25 (Tz Qb)) 24 (Value.map (some 1))} 25) a]++mE B rf Qb es):=by intro b a;kernel_rfl
theorem Fo(B:Lo)(rf:Qe)(Qb:List Int)(es:List (F4×F4)):let l:=Value.map (some 1);let k:=rf.Qa;let j:=Fm rf Qb;let i:=Tri.set 14 (Tri.set 14 Tri.lf 43 j) 42 (Tz Qb);let h:=XM rf Qb 2 es;let g:=QG rf Qb 2;let f:=dP QC h {a:=if 0<3 then Qb.getD 0 0 else -1,b:=if 1<3 then Qb.getD 1 0 else -1,c:=if 2<3 then Qb.getD 2 0 else -1,d:= -1} (X3 (KA rf) (PC rf (Qb.getD (ND 2) 0)) k {a:=g.a,b:=g.b,c:=g.c,d:=g.d});let e:=dP QC h {a:=if 0<3 then Qb.getD 0 0 else -1,b:=if 1<3 then Qb.getD 1 0 else -1,c:=if 2<3 then Qb.getD 2 0 else -1,d:= -1} (X3 (KA rf) (Ty rf Qb) k {a:=g.a,b:=g.b,c:=g.c,d:=g.d});CE.finK 2 (Qv YP (QA YP) J0 B 24 2 (Rn rf Qb es) (dL rf Qb es) 2
 (vP rf Qb es++[(19,Qj.XV (Hint.look vN)),(33,Qj.wri [1] [0] [true] [] (qM rf Qb es) (qL rf Qb es) (qN rf Qb es)),(36,Qj.pure j []),(42,Qj.XV (Hint.upd (mapA QC e) e.length))]) 0 [] []) [(1,KS.same)] [] []=some (OO.ret j,[(1,Obj.map (mapA QC e) e.length)],[],
 [XH (mapA QC f),fx YP 96 (mapA QC h) h.length (XB {len:=16000,tr:=Tri.set 14 i 41 l} 42) (XB {len:=16000,tr:=Tri.set 14 i 41 l} 43) (mapA QC f) f.length,Q7 []/\Q4 YP J0 78 #[.agg #[QO k.length (Qg Qk k),.int .i64 rf.Qn,.int .i64 rf.Qc,.int .i64 (Qb.getD 0 0),.int .i64 (Qb.getD 1 0),.int .i64 (Qb.getD 2 0),.int .i64 (Qb.getD 3 0)],.agg #[.int .i64 g.a,.int .i64 g.b,.int .i64 g.c,.int .i64 g.d],.int .i64 2] j,Q7 [XH (mapA QC es),XH (mapA QC h)]/\HX (rf) (Qb) (es),JS YP 96 (mapA QC es) true (XB {len:=16000,tr:=Tri.set 14 (Tri.set 14 Tri.lf 25 (Tz Qb)) 24 l} 25) vN]++mE B rf Qb es):=by intro l k j i h g f e;kernel_rfl
set_option maxHeartbeats 4000000 in
theorem HU(rf:Qe)(Qb:List Int)(es:List (F4×F4))(hr:XG rf=true)(hp:X2 rf Qb=true)(he:JT rf es)(hs:3<=rf.Qc){B:Lo}(hJ:∀w,B.has w->J0 w):FinK YP B (Rn rf Qb es) (dL rf Qb es) 2 (.ret (.agg #[.int .i64 (QG rf Qb 3).a,.int .i64 (QG rf Qb 3).b,.int .i64 (QG rf Qb 3).c,.int .i64 (QG rf Qb 3).d])) (([1]:List Nat).zip [.map (mapA QC (XM rf Qb 3 es)) (XM rf Qb 3 es).length]) [] ([1]:List Nat):=by
 have Z0:=Q5 (Qs hr).1;have hpf:=(Xs hp).1;have hpg:∀j:Nat,0<=Qb.getD j 0/\Qb.getD j 0<=1000000:=fun j=>(fun h=>⟨h.1,by omega⟩) (XK hr hp j)
 have hf4:=(Y5 (Qb:=Qb) hr (s:=2) (by omega)).1;have hs4:=(Y5 (Qb:=Qb) hr (s:=2) (by omega)).2;have hnx:=Ji (rf:=rf) (Qb:=Qb) (s:=2) (by omega);have Vg:Q7 (mE B rf Qb es):=by
  exact⟨⟨trivial,HC (Qb.getD 0 0) (Qb.getD 1 0) (Qb.getD 2 0) (Qb.getD 3 0) (3) (by omega) (by omega)⟩,trivial⟩
 cases q0:Sy QC es {a:=if 0<3 then Qb.getD 0 0 else -1,b:=if 1<3 then Qb.getD 1 0 else -1,c:=if 2<3 then Qb.getD 2 0 else -1,d:= -1}with
 |true=>
  have hfo:=aF (s:=3) hr hp he (by omega) q0;exact(GoE.finK okF hJ Qf (Q9 (by kernel_rfl)) (Q1 (by kernel_rfl)) ((GoE.refl (P:=YP) (B:=B) (c0:=Rn rf Qb es) (Q9 (by kernel_rfl))).widen (Wf:=((([(1,KS.same)]):List (Nat×KS)).map (·.1))) (by simp) (Q1 (by kernel_rfl))) (Fp B rf Qb es)
   ⟨(by exact X6 (fun _=>by kernel_rfl)),⟨(qm (k:={a:=if 0<3 then Qb.getD 0 0 else -1,b:=if 1<3 then Qb.getD 1 0 else -1,c:=if 2<3 then Qb.getD 2 0 else -1,d:= -1}) (ok:=true) WQ rfl q0),Vg⟩⟩).cast (by(show _=OO.ret (v4 (QG rf Qb 3));rw[<-hfo];rfl)) (by(unfold XM;rw[show Sy QC es (TC Qb ((2+1:Nat):Int))=_ from q0];rfl)) (by rfl)
 |false=>
  exact(GoE.finK okF hJ Qf (Q9 (by kernel_rfl)) (Q1 (by kernel_rfl)) ((GoE.refl (P:=YP) (B:=B) (c0:=Rn rf Qb es) (Q9 (by kernel_rfl))).widen (Wf:=((([(1,KS.same)]):List (Nat×KS)).map (·.1))) (by simp) (Q1 (by kernel_rfl))) (Fo B rf Qb es)
   ⟨(by exact X6 (fun _=>by kernel_rfl)),⟨(HN (k:={a:=if 0<3 then Qb.getD 0 0 else -1,b:=if 1<3 then Qb.getD 1 0 else -1,c:=if 2<3 then Qb.getD 2 0 else -1,d:= -1}) (x:=X3 (KA rf) (PC rf (Qb.getD (ND 2) 0)) rf.Qa {a:=F4.a (QG rf Qb 2),b:=F4.b (QG rf Qb 2),c:=F4.c (QG rf Qb 2),d:=F4.d (QG rf Qb 2)}) WQ rfl),⟨⟨trivial,iE (rf) (Qb) (F4.a (QG rf Qb 2)) (F4.b (QG rf Qb 2)) (F4.c (QG rf Qb 2)) (F4.d (QG rf Qb 2)) (2) (by with_reducible assumption) (by omega) (by with_reducible assumption) (by omega) (by omega) (by with_reducible assumption) (by with_reducible assumption)⟩,⟨⟨⟨(X6 (fun _=>by kernel_rfl)),⟨(X6 (fun _=>by kernel_rfl)),trivial⟩⟩,IS (rf) (Qb) (es) (by with_reducible assumption) (by with_reducible assumption) (by with_reducible assumption) (by omega)⟩,⟨(qo (k:={a:=if 0<3 then Qb.getD 0 0 else -1,b:=if 1<3 then Qb.getD 1 0 else -1,c:=if 2<3 then Qb.getD 2 0 else -1,d:= -1}) (ok:=true) WQ rfl rfl (by kernel_rfl) q0),Vg⟩⟩⟩⟩⟩).cast (by(show _=OO.ret (v4 (QG rf Qb (2+1)));rw[hnx];rfl)) (by(unfold XM;rw[show Sy QC es (TC Qb ((2+1:Nat):Int))=_ from q0];rfl)) (by rfl)
def qJ(rf:Qe)(Qb:List Int)(es:List (F4×F4)):OO:=.ret (.agg #[.int .i64 (QG rf Qb 3).a,.int .i64 (QG rf Qb 3).b,.int .i64 (QG rf Qb 3).c,.int .i64 (QG rf Qb 3).d])
def qI(rf:Qe)(Qb:List Int)(es:List (F4×F4)):List Obj:=[.map (mapA QC (XM rf Qb 3 es)) (XM rf Qb 3 es).length]
def qK(rf:Qe)(Qb:List Int)(es:List (F4×F4)):List Obj:=[]
def HV(rf:Qe)(Qb:List Int)(es:List (F4×F4)):Prop:=WriC YP J0 89 #[.agg #[Q6 0 (UU rf.Qa),.int .i64 rf.Qn,.int .i64 rf.Qc,.map (some 1)],.agg #[.int .i64 (Qb.getD 0 0),.int .i64 (Qb.getD 1 0),.int .i64 (Qb.getD 2 0),.int .i64 (Qb.getD 3 0)],.int .i64 3] [.map (mapA QC es) es.length] (qJ rf Qb es) (qI rf Qb es) (qK rf Qb es)
theorem IQ(rf:Qe)(Qb:List Int)(es:List (F4×F4))(hr:XG rf=true)(hp:X2 rf Qb=true)(he:JT rf es)(hs:3<=rf.Qc):WriC YP J0 89 #[.agg #[Q6 0 (UU rf.Qa),.int .i64 rf.Qn,.int .i64 rf.Qc,.map (some 1)],.agg #[.int .i64 (Qb.getD 0 0),.int .i64 (Qb.getD 1 0),.int .i64 (Qb.getD 2 0),.int .i64 (Qb.getD 3 0)],.int .i64 3] [.map (mapA QC es) es.length] (qJ rf Qb es) (qI rf Qb es) (qK rf Qb es):=
 FinK.wri (c0:=Rn rf Qb es) (Hb:=dL rf Qb es) (a:=2) (ws:=([1]:List Nat).zip [.map (mapA QC (XM rf Qb 3 es)) (XM rf Qb 3 es).length]) (Wf:=([1]:List Nat)) (by kernel_rfl) rfl rfl rfl rfl fun B hJ=>HU rf Qb es hr hp he hs hJ
def dK(rf:Qe)(Qb:List Int)(es:List (F4×F4)):Qp:=[(1,.map (mapA QC es) es.length),(0,Xp)]
def Rm(rf:Qe)(Qb:List Int)(es:List (F4×F4)):CF:=Qw YP 89 45 [.agg #[Q6 0 (UU rf.Qa),.int .i64 rf.Qn,.int .i64 rf.Qc,.map (some 1)],.agg #[.int .i64 (Qb.getD 0 0),.int .i64 (Qb.getD 1 0),.int .i64 (Qb.getD 2 0),.int .i64 (Qb.getD 3 0)],.int .i64 4]
def vL(Qb:List Int)(es:List (F4×F4)):Array Value:=#[.int .i64 (F4.a (JN QC es {a:=if 0<4 then Qb.getD 0 0 else -1,b:=if 1<4 then Qb.getD 1 0 else -1,c:=if 2<4 then Qb.getD 2 0 else -1,d:=if 3<4 then Qb.getD 3 0 else -1})),.int .i64 (F4.b (JN QC es {a:=if 0<4 then Qb.getD 0 0 else -1,b:=if 1<4 then Qb.getD 1 0 else -1,c:=if 2<4 then Qb.getD 2 0 else -1,d:=if 3<4 then Qb.getD 3 0 else -1})),.int .i64 (F4.c (JN QC es {a:=if 0<4 then Qb.getD 0 0 else -1,b:=if 1<4 then Qb.getD 1 0 else -1,c:=if 2<4 then Qb.getD 2 0 else -1,d:=if 3<4 then Qb.getD 3 0 else -1})),.int .i64 (F4.d (JN QC es {a:=if 0<4 then Qb.getD 0 0 else -1,b:=if 1<4 then Qb.getD 1 0 else -1,c:=if 2<4 then Qb.getD 2 0 else -1,d:=if 3<4 then Qb.getD 3 0 else -1}))]
def Tx(Qb:List Int):Value:=(.agg #[.int .i64 (if 0<4 then Qb.getD 0 0 else -1),.int .i64 (if 1<4 then Qb.getD 1 0 else -1),.int .i64 (if 2<4 then Qb.getD 2 0 else -1),.int .i64 (if 3<4 then Qb.getD 3 0 else -1)])
def Tw(rf:Qe)(Qb:List Int):=(PC rf (Qb.getD (ND 3) 0))
def Fj(rf:Qe)(Qb:List Int):Value:=(.agg #[.int .i64 (F4.a (X3 (KA rf) (Tw rf Qb) rf.Qa {a:=F4.a (QG rf Qb 3),b:=F4.b (QG rf Qb 3),c:=F4.c (QG rf Qb 3),d:=F4.d (QG rf Qb 3)})),.int .i64 (F4.b (X3 (KA rf) (Tw rf Qb) rf.Qa {a:=F4.a (QG rf Qb 3),b:=F4.b (QG rf Qb 3),c:=F4.c (QG rf Qb 3),d:=F4.d (QG rf Qb 3)})),.int .i64 (F4.c (X3 (KA rf) (Tw rf Qb) rf.Qa {a:=F4.a (QG rf Qb 3),b:=F4.b (QG rf Qb 3),c:=F4.c (QG rf Qb 3),d:=F4.d (QG rf Qb 3)})),.int .i64 (F4.d (X3 (KA rf) (Tw rf Qb) rf.Qa {a:=F4.a (QG rf Qb 3),b:=F4.b (QG rf Qb 3),c:=F4.c (QG rf Qb 3),d:=F4.d (QG rf Qb 3)}))])
def vK  :Value:=(.tuple #[.agg #[.int .i64 0,.int .i64 0,.int .i64 0,.int .i64 0],.bool false])
def mD(B:Lo)(rf:Qe)(Qb:List Int)(es:List (F4×F4)):List Prop:=[Q7 []/\Q4 YP J0 111 #[.agg #[.int .i64 (Qb.getD 0 0),.int .i64 (Qb.getD 1 0),.int .i64 (Qb.getD 2 0),.int .i64 (Qb.getD 3 0)],.int .i64 4] (Tx Qb)]++([]:List Prop)
def vM(rf:Qe)(Qb:List Int)(es:List (F4×F4)):QE:=[(13,Qj.pure (Tx Qb) [])]
theorem Fl(B:Lo)(rf:Qe)(Qb:List Int)(es:List (F4×F4)):let b:=mapA QC es;let a:=Value.tuple #[.agg (vL Qb es),.bool true];CE.finK 2 (Qv YP (QA YP) J0 B 22 2 (Rm rf Qb es) (dK rf Qb es) 2
 (vM rf Qb es++[(19,Qj.XV (Hint.look a))]) 0 [] []) [(1,KS.same)] [] []=some (OO.ret (.agg (vL Qb es)),[(1,Obj.map b es.length)],[],
 [XH b,JS YP 96 b true (XB {len:=16000,tr:=Tri.set 14 (Tri.set 14 Tri.lf 25 (Tx Qb)) 24 (Value.map (some 1))} 25) a]++mD B rf Qb es):=by intro b a;kernel_rfl
theorem Fk(B:Lo)(rf:Qe)(Qb:List Int)(es:List (F4×F4)):let l:=Value.map (some 1);let k:=rf.Qa;let j:=Fj rf Qb;let i:=Tri.set 14 (Tri.set 14 Tri.lf 43 j) 42 (Tx Qb);let h:=XM rf Qb 3 es;let g:=QG rf Qb 3;let f:=dP QC h {a:=if 0<4 then Qb.getD 0 0 else -1,b:=if 1<4 then Qb.getD 1 0 else -1,c:=if 2<4 then Qb.getD 2 0 else -1,d:=if 3<4 then Qb.getD 3 0 else -1} (X3 (KA rf) (PC rf (Qb.getD (ND 3) 0)) k {a:=g.a,b:=g.b,c:=g.c,d:=g.d});let e:=dP QC h {a:=if 0<4 then Qb.getD 0 0 else -1,b:=if 1<4 then Qb.getD 1 0 else -1,c:=if 2<4 then Qb.getD 2 0 else -1,d:=if 3<4 then Qb.getD 3 0 else -1} (X3 (KA rf) (Tw rf Qb) k {a:=g.a,b:=g.b,c:=g.c,d:=g.d});CE.finK 2 (Qv YP (QA YP) J0 B 24 2 (Rm rf Qb es) (dK rf Qb es) 2
 (vM rf Qb es++[(19,Qj.XV (Hint.look vK)),(33,Qj.wri [1] [0] [true] [] (qJ rf Qb es) (qI rf Qb es) (qK rf Qb es)),(36,Qj.pure j []),(42,Qj.XV (Hint.upd (mapA QC e) e.length))]) 0 [] []) [(1,KS.same)] [] []=some (OO.ret j,[(1,Obj.map (mapA QC e) e.length)],[],
 [XH (mapA QC f),fx YP 96 (mapA QC h) h.length (XB {len:=16000,tr:=Tri.set 14 i 41 l} 42) (XB {len:=16000,tr:=Tri.set 14 i 41 l} 43) (mapA QC f) f.length,Q7 []/\Q4 YP J0 78 #[.agg #[QO k.length (Qg Qk k),.int .i64 rf.Qn,.int .i64 rf.Qc,.int .i64 (Qb.getD 0 0),.int .i64 (Qb.getD 1 0),.int .i64 (Qb.getD 2 0),.int .i64 (Qb.getD 3 0)],.agg #[.int .i64 g.a,.int .i64 g.b,.int .i64 g.c,.int .i64 g.d],.int .i64 3] j,Q7 [XH (mapA QC es),XH (mapA QC h)]/\HV (rf) (Qb) (es),JS YP 96 (mapA QC es) true (XB {len:=16000,tr:=Tri.set 14 (Tri.set 14 Tri.lf 25 (Tx Qb)) 24 l} 25) vK]++mD B rf Qb es):=by intro l k j i h g f e;kernel_rfl
set_option maxHeartbeats 4000000 in
theorem HT(rf:Qe)(Qb:List Int)(es:List (F4×F4))(hr:XG rf=true)(hp:X2 rf Qb=true)(he:JT rf es)(hs:4<=rf.Qc){B:Lo}(hJ:∀w,B.has w->J0 w):FinK YP B (Rm rf Qb es) (dK rf Qb es) 2 (.ret (.agg #[.int .i64 (QG rf Qb 4).a,.int .i64 (QG rf Qb 4).b,.int .i64 (QG rf Qb 4).c,.int .i64 (QG rf Qb 4).d])) (([1]:List Nat).zip [.map (mapA QC (XM rf Qb 4 es)) (XM rf Qb 4 es).length]) [] ([1]:List Nat):=by
 have Z0:=Q5 (Qs hr).1;have hpf:=(Xs hp).1;have hpg:∀j:Nat,0<=Qb.getD j 0/\Qb.getD j 0<=1000000:=fun j=>(fun h=>⟨h.1,by omega⟩) (XK hr hp j)
 have hf4:=(Y5 (Qb:=Qb) hr (s:=3) (by omega)).1;have hs4:=(Y5 (Qb:=Qb) hr (s:=3) (by omega)).2;have hnx:=Ji (rf:=rf) (Qb:=Qb) (s:=3) (by omega);have Vg:Q7 (mD B rf Qb es):=by
  exact⟨⟨trivial,HC (Qb.getD 0 0) (Qb.getD 1 0) (Qb.getD 2 0) (Qb.getD 3 0) (4) (by omega) (by omega)⟩,trivial⟩
 cases q0:Sy QC es {a:=if 0<4 then Qb.getD 0 0 else -1,b:=if 1<4 then Qb.getD 1 0 else -1,c:=if 2<4 then Qb.getD 2 0 else -1,d:=if 3<4 then Qb.getD 3 0 else -1}with
 |true=>
  have hfo:=aF (s:=4) hr hp he (by omega) q0;exact(GoE.finK okF hJ Qf (Q9 (by kernel_rfl)) (Q1 (by kernel_rfl)) ((GoE.refl (P:=YP) (B:=B) (c0:=Rm rf Qb es) (Q9 (by kernel_rfl))).widen (Wf:=((([(1,KS.same)]):List (Nat×KS)).map (·.1))) (by simp) (Q1 (by kernel_rfl))) (Fl B rf Qb es)
   ⟨(by exact X6 (fun _=>by kernel_rfl)),⟨(qm (k:={a:=if 0<4 then Qb.getD 0 0 else -1,b:=if 1<4 then Qb.getD 1 0 else -1,c:=if 2<4 then Qb.getD 2 0 else -1,d:=if 3<4 then Qb.getD 3 0 else -1}) (ok:=true) WQ rfl q0),Vg⟩⟩).cast (by(show _=OO.ret (v4 (QG rf Qb 4));rw[<-hfo];rfl)) (by(unfold XM;rw[show Sy QC es (TC Qb ((3+1:Nat):Int))=_ from q0];rfl)) (by rfl)
 |false=>
  exact(GoE.finK okF hJ Qf (Q9 (by kernel_rfl)) (Q1 (by kernel_rfl)) ((GoE.refl (P:=YP) (B:=B) (c0:=Rm rf Qb es) (Q9 (by kernel_rfl))).widen (Wf:=((([(1,KS.same)]):List (Nat×KS)).map (·.1))) (by simp) (Q1 (by kernel_rfl))) (Fk B rf Qb es)
   ⟨(by exact X6 (fun _=>by kernel_rfl)),⟨(HN (k:={a:=if 0<4 then Qb.getD 0 0 else -1,b:=if 1<4 then Qb.getD 1 0 else -1,c:=if 2<4 then Qb.getD 2 0 else -1,d:=if 3<4 then Qb.getD 3 0 else -1}) (x:=X3 (KA rf) (PC rf (Qb.getD (ND 3) 0)) rf.Qa {a:=F4.a (QG rf Qb 3),b:=F4.b (QG rf Qb 3),c:=F4.c (QG rf Qb 3),d:=F4.d (QG rf Qb 3)}) WQ rfl),⟨⟨trivial,iE (rf) (Qb) (F4.a (QG rf Qb 3)) (F4.b (QG rf Qb 3)) (F4.c (QG rf Qb 3)) (F4.d (QG rf Qb 3)) (3) (by with_reducible assumption) (by omega) (by with_reducible assumption) (by omega) (by omega) (by with_reducible assumption) (by with_reducible assumption)⟩,⟨⟨⟨(X6 (fun _=>by kernel_rfl)),⟨(X6 (fun _=>by kernel_rfl)),trivial⟩⟩,IQ (rf) (Qb) (es) (by with_reducible assumption) (by with_reducible assumption) (by with_reducible assumption) (by omega)⟩,⟨(qo (k:={a:=if 0<4 then Qb.getD 0 0 else -1,b:=if 1<4 then Qb.getD 1 0 else -1,c:=if 2<4 then Qb.getD 2 0 else -1,d:=if 3<4 then Qb.getD 3 0 else -1}) (ok:=true) WQ rfl rfl (by kernel_rfl) q0),Vg⟩⟩⟩⟩⟩).cast (by(show _=OO.ret (v4 (QG rf Qb (3+1)));rw[hnx];rfl)) (by(unfold XM;rw[show Sy QC es (TC Qb ((3+1:Nat):Int))=_ from q0];rfl)) (by rfl)
def HR(rf:Qe)(Qb:List Int)(es:List (F4×F4)):OO:=.ret (.agg #[.int .i64 (QG rf Qb 4).a,.int .i64 (QG rf Qb 4).b,.int .i64 (QG rf Qb 4).c,.int .i64 (QG rf Qb 4).d])
def HQ(rf:Qe)(Qb:List Int)(es:List (F4×F4)):List Obj:=[.map (mapA QC (XM rf Qb 4 es)) (XM rf Qb 4 es).length]
def HS(rf:Qe)(Qb:List Int)(es:List (F4×F4)):List Obj:=[]
theorem MN(rf:Qe)(Qb:List Int)(es:List (F4×F4))(hr:XG rf=true)(hp:X2 rf Qb=true)(he:JT rf es)(hs:4<=rf.Qc):WriC YP J0 89 #[.agg #[Q6 0 (UU rf.Qa),.int .i64 rf.Qn,.int .i64 rf.Qc,.map (some 1)],.agg #[.int .i64 (Qb.getD 0 0),.int .i64 (Qb.getD 1 0),.int .i64 (Qb.getD 2 0),.int .i64 (Qb.getD 3 0)],.int .i64 4] [.map (mapA QC es) es.length] (HR rf Qb es) (HQ rf Qb es) (HS rf Qb es):=
 FinK.wri (c0:=Rm rf Qb es) (Hb:=dK rf Qb es) (a:=2) (ws:=([1]:List Nat).zip [.map (mapA QC (XM rf Qb 4 es)) (XM rf Qb 4 es).length]) (Wf:=([1]:List Nat)) (by kernel_rfl) rfl rfl rfl rfl fun B hJ=>HT rf Qb es hr hp he hs hJ
end
end Go.Proofs.Ytncjjangllkokaa

namespace Go.Proofs.Ytncjjangllkokaa
open Go Go.CE Go.RowKit
noncomputable section
set_option maxRecDepth 100000
def pW(rf:Qe)(Qb:List Int)(es:List (F4×F4))(k:Int):OO:=.ret (.agg #[.int .i64 (QG rf Qb k.toNat).a,.int .i64 (QG rf Qb k.toNat).b,.int .i64 (QG rf Qb k.toNat).c,.int .i64 (QG rf Qb k.toNat).d])
def pV(rf:Qe)(Qb:List Int)(es:List (F4×F4))(k:Int):List Obj:=[.map (mapA QC (XM rf Qb k.toNat es)) (XM rf Qb k.toNat es).length]
def pX(rf:Qe)(Qb:List Int)(es:List (F4×F4))(k:Int):List Obj:=[]
def Hz(rf:Qe)(Qb:List Int)(es:List (F4×F4))(k:Int):Prop:=WriC YP J0 89 #[.agg #[Q6 0 (UU rf.Qa),.int .i64 rf.Qn,.int .i64 rf.Qc,.map (some 1)],.agg #[.int .i64 (Qb.getD 0 0),.int .i64 (Qb.getD 1 0),.int .i64 (Qb.getD 2 0),.int .i64 (Qb.getD 3 0)],.int .i64 k] [.map (mapA QC es) es.length] (pW rf Qb es k) (pV rf Qb es k) (pX rf Qb es k)
theorem ME(rf:Qe)(Qb:List Int)(es:List (F4×F4))(k:Int)(hr:XG rf=true)(hp:X2 rf Qb=true)(he:JT rf es)(k0:0<=k)(hk:k<=rf.Qc):WriC YP J0 89 #[.agg #[Q6 0 (UU rf.Qa),.int .i64 rf.Qn,.int .i64 rf.Qc,.map (some 1)],.agg #[.int .i64 (Qb.getD 0 0),.int .i64 (Qb.getD 1 0),.int .i64 (Qb.getD 2 0),.int .i64 (Qb.getD 3 0)],.int .i64 k] [.map (mapA QC es) es.length] (pW rf Qb es k) (pV rf Qb es k) (pX rf Qb es k):=by
 have Z0:=Q5 (Qs hr).1;rcases(show k=0\/k=1\/k=2\/k=3\/k=4 by omega)with rfl|rfl|rfl|rfl|rfl
 ·exact IU rf Qb es hr hp he
 ·exact IT rf Qb es hr hp he hk
 ·exact IS rf Qb es hr hp he hk
 ·exact IQ rf Qb es hr hp he hk
 ·exact MN rf Qb es hr hp he hk
def X8(f:F4):List Qd->Int->Bool×Int×Int
 |[],_=>(false,0,0)
 |x::l,i=>bif decide (0<x.goal-f.at i)then(true,i,x.goal-f.at i)else X8 f l (i+1)
theorem WT{f:F4}{l:List Qd}{i:Int}(h0:0<=i)(h:i<l.length):X8 f (l.drop i.toNat) i=bif decide (0<(l.getD i.toNat NC).goal-f.at i)then(true,i,(l.getD i.toNat NC).goal-f.at i)else X8 f (l.drop (i+1).toNat) (i+1):=by
 obtain⟨k,rfl⟩:∃k:Nat,i=k:=⟨i.toNat,by omega⟩
 have hk:k<l.length:=by omega
 have e1:((k:Int)).toNat=k:=by omega
 have e2:((k:Int)+1).toNat=k+1:=by omega
 rw[e1,e2,List.drop_eq_getElem_cons hk];simp[X8,NJ,hk]
theorem bf{f:F4}{l:List Qd}{i:Int}(h:l.length<=i):X8 f (l.drop i.toNat) i=(false,0,0):=by
 rw[List.drop_eq_nil_of_le (by omega)];rfl
theorem nJ{f:F4}:∀{l:List Qd} {i:Int},(X8 f l i).1=false->X8 f l i=(false,0,0)
 |[],_,_=>rfl
 |x::l,i,h=>by
  unfold X8 at h ⊢;cases e:decide (0<x.goal-f.at i)with
  |true=>rw[e]at h;cases h
  |false=>rw[e]at h;exact nJ h
def J7(x_:Qd):Array Value:=#[.int .i64 x_.count,.int .i64 x_.room,.int .i64 x_.glo,.int .i64 x_.ghi,.int .i64 x_.drift,.int .i64 x_.into,.int .i64 x_.olo,.int .i64 x_.ohi,.int .i64 x_.slo,.int .i64 x_.shi,.int .i64 x_.goal,.int .i64 x_.worth]
def Tq(ps:List Qd)(f:F4)(i:Int):Value:=(Value.iface 94 (.agg #[.int .i64 i,.int .i64 (Qd.goal (ps.getD i.toNat NC)-Qm [f.a,f.b,f.c,f.d] i.toNat)]))
def Tp  :Array Value:=#[.int .i64 0,.int .i64 0]
def To(f:F4)(i:Int):Value:=(.int .i64 (Qm [f.a,f.b,f.c,f.d] i.toNat))
def X7(ps:List Qd)(f:F4):Qp:=[(3,Obj.cells #[.bool false] 4),(2,Obj.cells #[.int .i64 0,.int .i64 0] 94),(1,Obj.cells #[.int .i64 f.a,.int .i64 f.b,.int .i64 f.c,.int .i64 f.d] 111),(0,Obj.coro none)]
def Zy(ps:List Qd)(f:F4):CF:=⟨88,ofList 26 [Q6 0 (QO ps.length (Qg Qk ps)),.agg #[.int .i64 f.a,.int .i64 f.b,.int .i64 f.c,.int .i64 f.d],.tuple #[],pA 1 0,pA 2 0,pA 3 0,.tuple #[],.tuple #[],Value.func (Fn.func 109) #[] #[pA 2 0,pA 3 0],.tuple #[],.tuple #[],.tuple #[],.tuple #[],.tuple #[],.tuple #[],.tuple #[],.tuple #[],.tuple #[],.tuple #[],.tuple #[],.tuple #[],.tuple #[],.tuple #[],.tuple #[],.tuple #[],.tuple #[]],[Item.code (Code.seq (Code.seq (Code.region 2 #[{dst:=some 9,op:=Op.move (Operand.tmp 0),type:=22,pos:= "best.go:49",after:=#[],guard:=none},{dst:=some 10,op:=Op.call {callee:=Callee.builtin Builtin.len,args:=#[Operand.tmp 9],argTypes:=#[22]},type:=3,pos:= "best.go:49",after:=#[{on:=0,ground:=Ground.data}],guard:=none},{dst:=some 11,op:=Op.move (Operand.const (.int .i64 0)),type:=3,pos:= "best.go:49",after:=#[],guard:=none}] false) (Code.block 0 (Code.loop (Code.seq (Code.region 3 #[{dst:=some 12,op:=Op.binOp BinOp.lss 3 (Operand.tmp 11) (Operand.tmp 10) 3,type:=0,pos:= "best.go:49",after:=#[],guard:=none}] false) (Code.seq (Code.cond (Operand.tmp 12) Code.skip (Code.exit 0)) (Code.seq (Code.block 1 (Code.seq (Code.region 4 #[{dst:=some 13,op:=Op.move (Operand.tmp 11),type:=3,pos:= "best.go:49",after:=#[],guard:=none},{dst:=some 14,op:=Op.indexAddr 22 (Operand.tmp 9) (Operand.tmp 11),type:=0,pos:= "best.go:49",after:=#[],guard:=none},{dst:=some 15,op:=Op.load 54 (Operand.tmp 14),type:=54,pos:= "best.go:49",after:=#[{on:=1,ground:=Ground.data}],guard:=none},{dst:=some 7,op:=Op.alloc 54,type:=0,pos:= "best.go:49",after:=#[],guard:=none},{dst:=some 6,op:=Op.assign (Operand.tmp 13),type:=3,pos:= "best.go:49",after:=#[{on:=0,ground:=Ground.data},{on:=0,ground:=Ground.phase},{on:=1,ground:=Ground.phase},{on:=2,ground:=Ground.phase},{on:=3,ground:=Ground.phase}],guard:=none},{dst:=none,op:=Op.store 54 (Operand.tmp 7) (Operand.tmp 15),type:=0,pos:= "best.go:49",after:=#[{on:=3,ground:=Ground.data},{on:=2,ground:=Ground.data},{on:=4,ground:=Ground.chain},{on:=0,ground:=Ground.phase},{on:=1,ground:=Ground.phase},{on:=2,ground:=Ground.phase},{on:=3,ground:=Ground.phase},{on:=4,ground:=Ground.phase}],guard:=none}] false) (Code.region 5 #[{dst:=some 16,op:=Op.move (Operand.tmp 6),type:=3,pos:= "best.go:50",after:=#[],guard:=none},{dst:=some 17,op:=Op.fieldAddr 54 (Operand.tmp 7) 7,type:=0,pos:= "best.go:50",after:=#[],guard:=none},{dst:=some 18,op:=Op.load 3 (Operand.tmp 17),type:=3,pos:= "best.go:50",after:=#[{on:=1,ground:=Ground.data}],guard:=none},{dst:=some 19,op:=Op.move (Operand.tmp 6),type:=3,pos:= "best.go:50",after:=#[],guard:=none},{dst:=some 20,op:=Op.indexAddr 111 (Operand.tmp 3) (Operand.tmp 19),type:=0,pos:= "best.go:50",after:=#[{on:=3,ground:=Ground.data}],guard:=none},{dst:=some 21,op:=Op.load 3 (Operand.tmp 20),type:=3,pos:= "best.go:50",after:=#[{on:=4,ground:=Ground.data}],guard:=none},{dst:=some 22,op:=Op.binOp BinOp.sub 3 (Operand.tmp 18) (Operand.tmp 21) 3,type:=3,pos:= "best.go:50",after:=#[{on:=2,ground:=Ground.data},{on:=5,ground:=Ground.data}],guard:=none},{dst:=some 23,op:=Op.call {callee:=Callee.value (Operand.func 110),args:=#[Operand.tmp 16,Operand.tmp 22],argTypes:=#[3,3]},type:=0,pos:= "best.go:50",after:=#[{on:=0,ground:=Ground.data},{on:=6,ground:=Ground.data}],guard:=none}] true))) (Code.region 6 #[{dst:=some 24,op:=Op.binOp BinOp.add 3 (Operand.tmp 11) (Operand.const (.int .i64 1)) 3,type:=3,pos:= "best.go:49",after:=#[],guard:=none},{dst:=some 11,op:=Op.move (Operand.tmp 24),type:=3,pos:= "best.go:49",after:=#[{on:=0,ground:=Ground.data}],guard:=none}] false))))))) (Code.seq (Code.region 7 #[{dst:=some 25,op:=Op.build 94 #[],type:=94,pos:= "best.go:52",after:=#[],guard:=none},{dst:=none,op:=Op.store 94 (Operand.tmp 4) (Operand.tmp 25),type:=0,pos:= "best.go:52",after:=#[{on:=0,ground:=Ground.data},{on:=0,ground:=Ground.phase}],guard:=none},{dst:=none,op:=Op.store 4 (Operand.tmp 5) (Operand.const (.bool false)),type:=0,pos:= "best.go:52",after:=#[{on:=1,ground:=Ground.chain},{on:=0,ground:=Ground.phase},{on:=1,ground:=Ground.phase}],guard:=none}] false) Code.ret))],[],.run,none⟩
def ZF(ps:List Qd)(f:F4)(i:Int):List Value:=[pA 1 0,pA 2 0,pA 3 0,Q6 0 (QO ps.length (Qg Qk ps)),.int .i64 (↑ps.length:Int),.int .i64 i]
def ZE(ps:List Qd)(f:F4)(i:Int):List Obj:=[Obj.cells #[.bool false] 4,Obj.cells #[.int .i64 0,.int .i64 0] 94]
def Zr(ps:List Qd)(f:F4)(i:Int):List Obj:=[]
def ZG:List Item:=([.code [1,1,0,1,0,0],.inLoop [1,1,0,1,0,0],.inBlock 0,.code [1,1,1]]).map (it (QX YP 88))
def J8(B:Lo)(ps:List Qd)(f:F4)(i:Int)(Qt:Nat->Value):List Prop:=[wq (Qd.goal (ps.getD i.toNat NC)-Qm [f.a,f.b,f.c,f.d] i.toNat)=Qd.goal (ps.getD i.toNat NC)-Qm [f.a,f.b,f.c,f.d] i.toNat,#[Value.int .i64 f.a,.int .i64 f.b,.int .i64 f.c,.int .i64 f.d][0+ND i*1]? =some (To f i),i=(↑i.toNat:Int)/\ND i<4,Vq i ps.length (Qg Qk ps) Try.t54.size (J7 (ps.getD i.toNat NC)),XY i (↑ps.length:Int)=true]++([]:List Prop)
def Tr(ps:List Qd)(f:F4)(i:Int)(Qt:Nat->Value):QE:=[(0,W9),(2,Qj.tidx i.toNat (J7 (ps.getD i.toNat NC))),(11,Qj.XV (Hint.idx i.toNat)),(12,Qj.XV (Hint.ld (To f i))),(13,Wu (Qd.goal (ps.getD i.toNat NC)-Qm [f.a,f.b,f.c,f.d] i.toNat))]
def Zz(ps:List Qd)(f:F4)(i:Int)(Qt:Nat->Value):Qp:=[(5,Obj.cells (J7 (ps.getD i.toNat NC)) 54),(3,Obj.cells #[.bool false] 4),(2,Obj.cells #[.int .i64 0,.int .i64 0] 94),(4,Obj.coro none),(3,Obj.cells #[.bool false] 4),(2,Obj.cells #[.int .i64 0,.int .i64 0] 94),(1,Obj.cells #[.int .i64 f.a,.int .i64 f.b,.int .i64 f.c,.int .i64 f.d] 111),(0,Obj.coro none)]
def Wi(ps:List Qd)(f:F4)(i:Int)(Qt:Nat->Value):CF:=⟨110,ofList 10 [.int .i64 i,.int .i64 (Qd.goal (ps.getD i.toNat NC)-Qm [f.a,f.b,f.c,f.d] i.toNat)],[Item.code (QX YP 110)],[],.run,none⟩
theorem kH(B:Lo)(ps:List Qd)(f:F4)(i:Int)(Qt:Nat->Value):CE.finK 6 (Qv YP (QA YP) J0 B 5 6 (Wi ps f i Qt) (Zz ps f i Qt) 6
 [(1,W9)] 0 [] []) [] [] []=some (OO.ZH (Tq ps f i),[],[],
 [XY 0 (Qd.goal (ps.getD i.toNat NC)-Qm [f.a,f.b,f.c,f.d] i.toNat)=true]):=by kernel_rfl
theorem kG(B:Lo)(ps:List Qd)(f:F4)(i:Int)(Qt:Nat->Value):let b:=Zr ps f i;let a:=Tq ps f i;CE.landU 4 (Qv YP (QA YP) J0 B 10 4 (WY (none) 88 26 (([3,4,5,9,10,11]:List Nat).zip (ZF ps f i)) Qt ZG) (Z9 (X7 ps f) 4 (([3,2]:List Nat).zip (ZE ps f i)) b) (4+1+b.length)
 (Tr ps f i Qt++[(14,Qj.call (NI 6) (OO.ZH a) ([]++(6,Xp)::Xk 7 []) 7 [])]) 0 [] []) [4,5] [(3,KS.auto),(2,KS.auto)] [] []=some (88,26,none,OO.ZH a,[pA 2 0,pA 3 0],[(3,Obj.cells #[.bool false] 4),(2,Obj.cells Tp 94)],[],
 [FJ YP B (Wi ps f i Qt) (Zz ps f i Qt) 6 (OO.ZH a) (([]++((6,Xp)::Xk (6+1) []))++Zz ps f i Qt) 7 (NI 6) []]++J8 B ps f i Qt):=by intro b a;kernel_rfl
theorem kF(B:Lo)(ps:List Qd)(f:F4)(i:Int)(Qt:Nat->Value):CE.finK 6 (Qv YP (QA YP) J0 B 6 6 (Wi ps f i Qt) (Zz ps f i Qt) 6
 [(1,Vd)] 0 [] []) [] [] []=some (OO.ret (.tuple #[]),[],[],
 [XY 0 (Qd.goal (ps.getD i.toNat NC)-Qm [f.a,f.b,f.c,f.d] i.toNat)=false]):=by kernel_rfl
theorem kE(B:Lo)(ps:List Qd)(f:F4)(i:Int)(Qt:Nat->Value):let b:=OO.ret (.tuple #[]);let a:=Zr ps f i;CE.landA 4 (Qv YP (QA YP) J0 B 13 4 (WY (none) 88 26 (([3,4,5,9,10,11]:List Nat).zip (ZF ps f i)) Qt ZG) (Z9 (X7 ps f) 4 (([3,2]:List Nat).zip (ZE ps f i)) a) (4+1+a.length)
 (Tr ps f i Qt++[(14,Qj.call (NI 6) b ([]++(6,Xp)::Xk 7 []) 7 []),(15,Wu (i+1))]) 0 [] []) [3,4,5,9,10,11] [(3,KS.auto),(2,KS.auto)] [] []=some ⟨88,26,ZG,[],.run,none,ZF ps f (i+1),([3,2]:List Nat).zip (ZE ps f (i+1)),Zr ps f (i+1),
 [wq (i+1)=i+1,FJ YP B (Wi ps f i Qt) (Zz ps f i Qt) 6 b (([]++((6,Xp)::Xk (6+1) []))++Zz ps f i Qt) 7 (NI 6) []]++J8 B ps f i Qt⟩:=by intro b a;kernel_rfl
theorem kD(B:Lo)(ps:List Qd)(f:F4)(i:Int)(Qt:Nat->Value):let a:=Zr ps f i;CE.landU 4 (Qv YP (QA YP) J0 B 8 4 (WY (none) 88 26 (([3,4,5,9,10,11]:List Nat).zip (ZF ps f i)) Qt ZG) (Z9 (X7 ps f) 4 (([3,2]:List Nat).zip (ZE ps f i)) a) (4+1+a.length)
 [(0,Vd)] 0 [] []) [4,5] [(3,KS.auto),(2,KS.auto)] [] []=some (88,26,none,OO.ret (.tuple #[]),[pA 2 0,pA 3 0],[(3,Obj.cells #[.bool false] 4),(2,Obj.cells Tp 94)],[],
 [XY i (↑ps.length:Int)=false]):=by intro a;kernel_rfl
set_option maxHeartbeats 4000000 in
theorem Po(ps:List Qd)(f:F4)(hl:ps.length<=4)(hg:∀i:Int,0<=i->i<ps.length->0<=(ps.getD i.toNat NC).goal/\(ps.getD i.toNat NC).goal<=1000000)(hf:Pa ⟨f.a,f.b,f.c,f.d⟩){B:Lo}(hJ:∀w,B.has w->J0 w):∀m:Nat,(∀(i:Int),∀(r:Bool),((X8 f (ps.drop i.toNat) i).1)=r->(ps.length-i.toNat)=m->∀(h0:0<=i),(∃Qt:Nat->Value,(∀t,X4 (Qt t))/\GoE YP B (Zy ps f) (X7 ps f) 4 (WY (none) 88 26 (([3,4,5,9,10,11]:List Nat).zip (ZF ps f i)) Qt ZG) (Z9 (X7 ps f) 4 (([3,2]:List Nat).zip (ZE ps f i)) (Zr ps f i)) (4+1+(Zr ps f i).length) ([3,2]:List Nat))->FinU YP B (Zy ps f) (X7 ps f) 4 (bif r then .ZH (.iface 94 (.agg #[.int .i64 (X8 f (ps.drop i.toNat) i).2.1,.int .i64 (X8 f (ps.drop i.toNat) i).2.2]))else .ret (.tuple #[])) (([4,5]:List Nat).zip [pA 2 0,pA 3 0]) (([3,2]:List Nat).zip ([Obj.cells #[.bool false] 4,Obj.cells #[.int .i64 0,.int .i64 0] 94])) ([]) ([3,2]:List Nat)):=by
 intro m0;induction m0 using Oi with
 |_ m0 ih0=>
  intro i r1 hr1 Ru h0 ⟨Qt,Vs,XL⟩;have Y7:Qm [f.a,f.b,f.c,f.d] i.toNat=f.at i:=rfl;by_cases q0:(i:Int)<((↑ps.length:Int))
  ·have Vg:Q7 (J8 B ps f i Qt):=by
    have hgi:=hg i h0 q0;have hfi:=ZI (f:=f) hf h0 (by omega);have s1:=WT (f:=f) h0 q0;exact⟨(Xb (by omega) (by omega)),⟨(S7 rfl (OB (m:=4) (by omega) rfl)),⟨⟨by omega,by omega⟩,⟨⟨by omega,by omega,(Q0 (z:=12) (fun _=>rfl) (by omega))⟩,⟨(XD q0),trivial⟩⟩⟩⟩⟩
   by_cases q1:(0:Int)<(Qd.goal (ps.getD i.toNat NC)-Qm [f.a,f.b,f.c,f.d] i.toNat)
   ·have rj1:FJ YP B (Wi ps f i Qt) (Zz ps f i Qt) 6 (OO.ZH (Value.iface 94 (.agg #[.int .i64 i,.int .i64 (Qd.goal (ps.getD i.toNat NC)-Qm [f.a,f.b,f.c,f.d] i.toNat)]))) (([]++((6,Xp)::Xk (6+1) []))++Zz ps f i Qt) 7 (NI 6) []:=by
     have hgi:=hg i h0 q0;have hfi:=ZI (f:=f) hf h0 (by omega);have s1:=WT (f:=f) h0 q0;rw[decide_eq_true (show 0<(ps.getD i.toNat NC).goal-f.at i from q1),cond_true]at s1;exact FinK.fjB (GoE.finK okF hJ Qf (Q9 (by kernel_rfl)) (Q1 (by kernel_rfl)) ((GoE.refl (P:=YP) (B:=B) (c0:=Wi ps f i Qt) (Q9 (by kernel_rfl))).widen (Wf:=((([]):List (Nat×KS)).map (·.1))) (by simp) (Q1 (by kernel_rfl))) (kH B ps f i Qt)
      ⟨(XD q1),trivial⟩) (ex:=[]) (by kernel_rfl) (Vo _)
    have hgi:=hg i h0 q0;have hfi:=ZI (f:=f) hf h0 (by omega);have s1:=WT (f:=f) h0 q0;rw[decide_eq_true (show 0<(ps.getD i.toNat NC).goal-f.at i from q1),cond_true]at s1;exact(GoE.landU (wks:=[(3,KS.auto),(2,KS.auto)]) okF hJ Qf (Q9 (by kernel_rfl)) (Q1 (by kernel_rfl)) XL (kG B ps f i Qt)
     (by exact⟨rj1,Vg⟩) (by kernel_rfl) rfl).cast (by(subst hr1;rw[s1];rfl)) (by rfl) (by rfl)
   ·have rj1:FJ YP B (Wi ps f i Qt) (Zz ps f i Qt) 6 (OO.ret (.tuple #[])) (([]++((6,Xp)::Xk (6+1) []))++Zz ps f i Qt) 7 (NI 6) []:=by
     have hgi:=hg i h0 q0;have hfi:=ZI (f:=f) hf h0 (by omega);have s1:=WT (f:=f) h0 q0;rw[decide_eq_false (show ¬0<(ps.getD i.toNat NC).goal-f.at i from q1),cond_false]at s1;exact FinK.fjB (GoE.finK okF hJ Qf (Q9 (by kernel_rfl)) (Q1 (by kernel_rfl)) ((GoE.refl (P:=YP) (B:=B) (c0:=Wi ps f i Qt) (Q9 (by kernel_rfl))).widen (Wf:=((([]):List (Nat×KS)).map (·.1))) (by simp) (Q1 (by kernel_rfl))) (kF B ps f i Qt)
      ⟨(Zb (Int.not_lt.1 q1)),trivial⟩) (ex:=[]) (by kernel_rfl) (Vo _)
    have hgi:=hg i h0 q0;have hfi:=ZI (f:=f) hf h0 (by omega);have s1:=WT (f:=f) h0 q0;rw[decide_eq_false (show ¬0<(ps.getD i.toNat NC).goal-f.at i from q1),cond_false]at s1;exact((ih0 _ (by omega)) (i+1) r1 (by rw[<-hr1,s1]) rfl (by omega)
     (GoE.landA okF hJ Qf (Q9 (by kernel_rfl)) (Q1 (by kernel_rfl)) XL (kE B ps f i Qt)
     ⟨(Xb (by omega) (by omega)),⟨rj1,Vg⟩⟩ (by kernel_rfl) (by kernel_rfl) (fun l hl=>by cases hl <;> decide))).cast (by(subst hr1;rw[s1];done)) (by rfl) (by rfl)
  ·have s1:=bf (f:=f) (l:=ps) (i:=i) (by omega);exact(GoE.landU (wks:=[(3,KS.auto),(2,KS.auto)]) okF hJ Qf (Q9 (by kernel_rfl)) (Q1 (by kernel_rfl)) XL (kD B ps f i Qt)
    (by exact⟨(Zb (Int.not_lt.1 q0)),trivial⟩) (by kernel_rfl) rfl).cast (by(subst hr1;rw[s1];rfl)) (by rfl) (by rfl)

theorem kI(B:Lo)(ps:List Qd)(f:F4):CE.landA 4 (Qv YP (QA YP) J0 B 5 4 (Zy ps f) (X7 ps f) 4
 [] 0 [] []) [3,4,5,9,10,11] [(3,KS.auto),(2,KS.auto)] [] []=some ⟨88,26,ZG,[],.run,none,ZF ps f (0),([3,2]:List Nat).zip (ZE ps f (0)),Zr ps f (0),
 []⟩:=by kernel_rfl
theorem kC(B:Lo)(ps:List Qd)(f:F4):let h:=([4,5]:List Nat).zip [pA 2 0,pA 3 0];let e:=Prod.snd (X8 f (List.drop (ND 0) ps) 0);let j:=Prod.snd e;let i:=Prod.fst e;let g:=OO.ZH (Value.iface 94 (.agg #[.int .i64 i,.int .i64 j]));Xe (sk YP (QA YP) J0 B 3 1 (Qw YP 88 26 (([UU ps,.agg #[.int .i64 f.a,.int .i64 f.b,.int .i64 f.c,.int .i64 f.d]]).map (Q8 0 4))) Ze 1
 g h ([(3,Obj.cells #[.bool false] 4),(2,Obj.cells #[.int .i64 0,.int .i64 0] 94)]++(4,Xp)::Xk 5 []) 5 [3,2] (.tuple #[.agg #[.int .i64 i,.int .i64 j],.bool true]) [2,3]) []=some (.tuple #[.agg #[.int .i64 i,.int .i64 j],.bool true],
 [UJ YP B (Zy ps f) (X7 ps f) 4 g h (([(3,Obj.cells #[.bool false] 4),(2,Obj.cells #[.int .i64 0,.int .i64 0] 94)]++((4,Xp)::Xk (4+1) []))++X7 ps f) 5 (NI 4) [3,2],∀d:Nat->Value,j4 YP 88 ([(3,Obj.cells #[.bool true] 4),(2,Obj.cells #[.int .i64 i,.int .i64 j] 94),(4,Obj.coro none),(3,Obj.cells #[.bool false] 4),(2,Obj.cells #[.int .i64 0,.int .i64 0] 94),(1,Obj.cells #[.int .i64 f.a,.int .i64 f.b,.int .i64 f.c,.int .i64 f.d] 111),(0,Obj.coro none)]) (Gw 26 h d)=some (.tuple #[.agg #[.int .i64 i,.int .i64 j],.bool true],[2,3])]):=by intro h e j i g;kernel_rfl
theorem kB(B:Lo)(ps:List Qd)(f:F4):CE.landA 4 (Qv YP (QA YP) J0 B 5 4 (Zy ps f) (X7 ps f) 4
 [] 0 [] []) [3,4,5,9,10,11] [(3,KS.auto),(2,KS.auto)] [] []=some ⟨88,26,ZG,[],.run,none,ZF ps f (0),([3,2]:List Nat).zip (ZE ps f (0)),Zr ps f (0),
 []⟩:=by kernel_rfl
theorem kA(B:Lo)(ps:List Qd)(f:F4):let g:=OO.ret (.tuple #[]);let e:=([4,5]:List Nat).zip [pA 2 0,pA 3 0];Xe (sk YP (QA YP) J0 B 3 1 (Qw YP 88 26 (([UU ps,.agg #[.int .i64 f.a,.int .i64 f.b,.int .i64 f.c,.int .i64 f.d]]).map (Q8 0 4))) Ze 1
 g e ([(3,Obj.cells #[.bool false] 4),(2,Obj.cells #[.int .i64 0,.int .i64 0] 94)]++(4,Xp)::Xk 5 []) 5 [3,2] (.tuple #[.agg #[.int .i64 0,.int .i64 0],.bool false]) [2,3]) []=some (.tuple #[.agg #[.int .i64 0,.int .i64 0],.bool false],
 [UJ YP B (Zy ps f) (X7 ps f) 4 g e (([(3,Obj.cells #[.bool false] 4),(2,Obj.cells #[.int .i64 0,.int .i64 0] 94)]++((4,Xp)::Xk (4+1) []))++X7 ps f) 5 (NI 4) [3,2],∀d:Nat->Value,j4 YP 88 ([(3,Obj.cells #[.bool false] 4),(2,Obj.cells #[.int .i64 0,.int .i64 0] 94),(4,Obj.coro none),(3,Obj.cells #[.bool false] 4),(2,Obj.cells #[.int .i64 0,.int .i64 0] 94),(1,Obj.cells #[.int .i64 f.a,.int .i64 f.b,.int .i64 f.c,.int .i64 f.d] 111),(0,Obj.coro none)]) (Gw 26 e d)=some (.tuple #[.agg #[.int .i64 0,.int .i64 0],.bool false],[2,3])]):=by intro g e;kernel_rfl
set_option maxHeartbeats 4000000 in
theorem n8(ps:List Qd)(f:F4)(hl:ps.length<=4)(hg:∀i:Int,0<=i->i<ps.length->0<=(ps.getD i.toNat NC).goal/\(ps.getD i.toNat NC).goal<=1000000)(hf:Pa ⟨f.a,f.b,f.c,f.d⟩){B:Lo}(hJ:∀w,B.has w->J0 w):EndsT YP B (Qw YP 88 26 (([UU ps,.agg #[.int .i64 f.a,.int .i64 f.b,.int .i64 f.c,.int .i64 f.d]]).map (Q8 0 4))) (.tuple #[.agg #[.int .i64 (X8 f ps 0).2.1,.int .i64 (X8 f ps 0).2.2],.bool (X8 f ps 0).1]):=by
 cases q0:Prod.fst (X8 f (List.drop (ND 0) ps) 0)with
 |true=>
  have rj0:UJ YP B (Zy ps f) (X7 ps f) 4 (OO.ZH (Value.iface 94 (.agg #[.int .i64 (Prod.fst (Prod.snd (X8 f (List.drop (ND 0) ps) 0))),.int .i64 (Prod.snd (Prod.snd (X8 f (List.drop (ND 0) ps) 0)))]))) (([4,5]:List Nat).zip [pA 2 0,pA 3 0]) (([(3,Obj.cells #[.bool false] 4),(2,Obj.cells #[.int .i64 0,.int .i64 0] 94)]++((4,Xp)::Xk (4+1) []))++X7 ps f) 5 (NI 4) [3,2]:=by
   exact FinU.ujB ((Po ps f hl hg hf hJ _) (0) true q0 rfl (by omega)
    (GoE.landA okF hJ Qf (Q9 (by kernel_rfl)) (Q1 (by kernel_rfl)) ((GoE.refl (P:=YP) (B:=B) (c0:=Zy ps f) (Q9 (by kernel_rfl))).widen (Wf:=((([(3,KS.auto),(2,KS.auto)]):List (Nat×KS)).map (·.1))) (by simp) (Q1 (by kernel_rfl))) (kI B ps f)
    trivial (by kernel_rfl) (by kernel_rfl) (fun l hl=>by cases hl <;> decide))) (ex:=[]) (by kernel_rfl) (Vo _)
  exact(GoE.endsD okF hJ Qf GoE.start (kC B ps f)
   (by exact⟨rj0,⟨(fun d=>by kernel_rfl),trivial⟩⟩)).cast (by(rw[show(X8 f ps 0).1=true from q0];rfl))
 |false=>
  have rj0:UJ YP B (Zy ps f) (X7 ps f) 4 (OO.ret (.tuple #[])) (([4,5]:List Nat).zip [pA 2 0,pA 3 0]) (([(3,Obj.cells #[.bool false] 4),(2,Obj.cells #[.int .i64 0,.int .i64 0] 94)]++((4,Xp)::Xk (4+1) []))++X7 ps f) 5 (NI 4) [3,2]:=by
   exact FinU.ujB ((Po ps f hl hg hf hJ _) (0) false q0 rfl (by omega)
    (GoE.landA okF hJ Qf (Q9 (by kernel_rfl)) (Q1 (by kernel_rfl)) ((GoE.refl (P:=YP) (B:=B) (c0:=Zy ps f) (Q9 (by kernel_rfl))).widen (Wf:=((([(3,KS.auto),(2,KS.auto)]):List (Nat×KS)).map (·.1))) (by simp) (Q1 (by kernel_rfl))) (kB B ps f)
    trivial (by kernel_rfl) (by kernel_rfl) (fun l hl=>by cases hl <;> decide))) (ex:=[]) (by kernel_rfl) (Vo _)
  exact(GoE.endsD okF hJ Qf GoE.start (kA B ps f)
   (by exact⟨rj0,⟨(fun d=>by kernel_rfl),trivial⟩⟩)).cast (by(rw[nJ (f:=f) (l:=ps) (i:=0) q0]))
theorem gv(ps:List Qd)(f:F4)(hl:ps.length<=4)(hg:∀i:Int,0<=i->i<ps.length->0<=(ps.getD i.toNat NC).goal/\(ps.getD i.toNat NC).goal<=1000000)(hf:Pa ⟨f.a,f.b,f.c,f.d⟩):Q4 YP J0 88 #[UU ps,.agg #[.int .i64 f.a,.int .i64 f.b,.int .i64 f.c,.int .i64 f.d]] (.tuple #[.agg #[.int .i64 (X8 f ps 0).2.1,.int .i64 (X8 f ps 0).2.2],.bool (X8 f ps 0).1]):=
 Xr (ts:=[UU ps,.agg #[.int .i64 f.a,.int .i64 f.b,.int .i64 f.c,.int .i64 f.d]]) Zk (c0:=Qw YP 88 26 (([UU ps,.agg #[.int .i64 f.a,.int .i64 f.b,.int .i64 f.c,.int .i64 f.d]]).map (Q8 0 4))) (by kernel_rfl) (by kernel_rfl) fun B hJ=>n8 ps f hl hg hf hJ
def ai(rf:Qe)(Qb:List Int)(es:List (F4×F4)):Qp:=[(1,.map (mapA QC es) es.length),(0,Xp)]
def Je(rf:Qe)(Qb:List Int)(es:List (F4×F4)):CF:=Qw YP 64 18 [.agg #[Q6 0 (UU rf.Qa),.int .i64 rf.Qn,.int .i64 rf.Qc,.map (some 1)],.agg #[.int .i64 (Qb.getD 0 0),.int .i64 (Qb.getD 1 0),.int .i64 (Qb.getD 2 0),.int .i64 (Qb.getD 3 0)]]
def Jd(rf:Qe)(Qb:List Int):=(QG rf Qb (ND rf.Qc))
def o5(rf:Qe)(Qb:List Int):Array Value:=#[.int .i64 (Prod.fst (Prod.snd (X8 (Jd rf Qb) rf.Qa 0))),.int .i64 (Prod.snd (Prod.snd (X8 (Jd rf Qb) rf.Qa 0)))]
def o4(rf:Qe)(Qb:List Int):Array Value:=#[QO rf.Qa.length (Qg Qk rf.Qa),.agg #[.int .i64 (F4.a (Jd rf Qb)),.int .i64 (F4.b (Jd rf Qb)),.int .i64 (F4.c (Jd rf Qb)),.int .i64 (F4.d (Jd rf Qb))]]
def AX(rf:Qe)(Qb:List Int):Value:=(.tuple #[.agg (o5 rf Qb),.bool false])
def AW(rf:Qe)(Qb:List Int):Value:=(.tuple #[.agg (o5 rf Qb),.bool true])
def eI(B:Lo)(rf:Qe)(Qb:List Int)(es:List (F4×F4)):List Prop:=[Q7 [XH (mapA QC es),XH (mapA QC (XM rf Qb (ND rf.Qc) es))]/\Hz (rf) (Qb) (es) rf.Qc]++([]:List Prop)
def o6(rf:Qe)(Qb:List Int)(es:List (F4×F4)):QE:=[(12,Qj.wri [1] [0] [true] [] (pW rf Qb es rf.Qc) (pV rf Qb es rf.Qc) (pX rf Qb es rf.Qc))]
theorem AZ(B:Lo)(rf:Qe)(Qb:List Int)(es:List (F4×F4)):let b:=AW rf Qb;let a:=XM rf Qb (ND rf.Qc) es;CE.finK 2 (Qv YP (QA YP) J0 B 6 2 (Je rf Qb es) (ai rf Qb es) 2
 (o6 rf Qb es++[(13,Qj.pure b [])]) 0 [] []) [(1,KS.same)] [] []=some (OO.ret b,[(1,Obj.map (mapA QC a) a.length)],[],
 [XH (mapA QC a),Q7 []/\Q4 YP J0 88 (o4 rf Qb) b]++eI B rf Qb es):=by intro b a;kernel_rfl
theorem AY(B:Lo)(rf:Qe)(Qb:List Int)(es:List (F4×F4)):let b:=AX rf Qb;let a:=XM rf Qb (ND rf.Qc) es;CE.finK 2 (Qv YP (QA YP) J0 B 6 2 (Je rf Qb es) (ai rf Qb es) 2
 (o6 rf Qb es++[(13,Qj.pure b [])]) 0 [] []) [(1,KS.same)] [] []=some (OO.ret b,[(1,Obj.map (mapA QC a) a.length)],[],
 [XH (mapA QC a),Q7 []/\Q4 YP J0 88 (o4 rf Qb) b]++eI B rf Qb es):=by intro b a;kernel_rfl
set_option maxHeartbeats 4000000 in
theorem E2(rf:Qe)(Qb:List Int)(es:List (F4×F4))(hr:XG rf=true)(hp:X2 rf Qb=true)(he:JT rf es){B:Lo}(hJ:∀w,B.has w->J0 w):FinK YP B (Je rf Qb es) (ai rf Qb es) 2 (.ret (.tuple #[.agg #[.int .i64 (X8 (QG rf Qb rf.Qc.toNat) rf.Qa 0).2.1,.int .i64 (X8 (QG rf Qb rf.Qc.toNat) rf.Qa 0).2.2],.bool (X8 (QG rf Qb rf.Qc.toNat) rf.Qa 0).1])) (([1]:List Nat).zip [.map (mapA QC (XM rf Qb rf.Qc.toNat es)) (XM rf Qb rf.Qc.toNat es).length]) [] ([1]:List Nat):=by
 have Z0:=Q5 (Qs hr).1;have hpf:=(Xs hp).1;have hf4:=(Y5 (Qb:=Qb) hr (s:=rf.Qc.toNat) (by omega)).1;have JL:∀i:Int,0<=i->i<rf.Qa.length->0<=(rf.Qa.getD i.toNat NC).goal/\(rf.Qa.getD i.toNat NC).goal<=1000000:=fun i h0 h1=>(QU ((Qs hr).2 i h0 h1).1).2.2.1
 have Vg:Q7 (eI B rf Qb es):=by
  exact⟨⟨⟨(X6 (fun _=>by kernel_rfl)),⟨(X6 (fun _=>by kernel_rfl)),trivial⟩⟩,ME (rf) (Qb) (es) rf.Qc (by with_reducible assumption) (by with_reducible assumption) (by with_reducible assumption) (by omega) (by omega)⟩,trivial⟩
 cases q0:Prod.fst (X8 (QG rf Qb (ND rf.Qc)) rf.Qa 0)with
 |true=>
  exact(GoE.finK okF hJ Qf (Q9 (by kernel_rfl)) (Q1 (by kernel_rfl)) ((GoE.refl (P:=YP) (B:=B) (c0:=Je rf Qb es) (Q9 (by kernel_rfl))).widen (Wf:=((([(1,KS.same)]):List (Nat×KS)).map (·.1))) (by simp) (Q1 (by kernel_rfl))) (AZ B rf Qb es)
   ⟨(by exact X6 (fun _=>by kernel_rfl)),⟨⟨trivial,(by have t_:=gv rf.Qa (QG rf Qb (ND rf.Qc)) (by omega) (by with_reducible assumption) (by with_reducible assumption);rw[q0]at t_;exact t_)⟩,Vg⟩⟩).cast (by rfl) (by rfl) (by rfl)
 |false=>
  exact(GoE.finK okF hJ Qf (Q9 (by kernel_rfl)) (Q1 (by kernel_rfl)) ((GoE.refl (P:=YP) (B:=B) (c0:=Je rf Qb es) (Q9 (by kernel_rfl))).widen (Wf:=((([(1,KS.same)]):List (Nat×KS)).map (·.1))) (by simp) (Q1 (by kernel_rfl))) (AY B rf Qb es)
   ⟨(by exact X6 (fun _=>by kernel_rfl)),⟨⟨trivial,(by have t_:=gv rf.Qa (QG rf Qb (ND rf.Qc)) (by omega) (by with_reducible assumption) (by with_reducible assumption);rw[q0]at t_;exact t_)⟩,Vg⟩⟩).cast (by rfl) (by rfl) (by rfl)
def cR(rf:Qe)(Qb:List Int)(es:List (F4×F4)):OO:=.ret (.tuple #[.agg #[.int .i64 (X8 (QG rf Qb rf.Qc.toNat) rf.Qa 0).2.1,.int .i64 (X8 (QG rf Qb rf.Qc.toNat) rf.Qa 0).2.2],.bool (X8 (QG rf Qb rf.Qc.toNat) rf.Qa 0).1])
def cQ(rf:Qe)(Qb:List Int)(es:List (F4×F4)):List Obj:=[.map (mapA QC (XM rf Qb rf.Qc.toNat es)) (XM rf Qb rf.Qc.toNat es).length]
def cS(rf:Qe)(Qb:List Int)(es:List (F4×F4)):List Obj:=[]
def tU(rf:Qe)(Qb:List Int)(es:List (F4×F4)):Prop:=WriC YP J0 64 #[.agg #[Q6 0 (UU rf.Qa),.int .i64 rf.Qn,.int .i64 rf.Qc,.map (some 1)],.agg #[.int .i64 (Qb.getD 0 0),.int .i64 (Qb.getD 1 0),.int .i64 (Qb.getD 2 0),.int .i64 (Qb.getD 3 0)]] [.map (mapA QC es) es.length] (cR rf Qb es) (cQ rf Qb es) (cS rf Qb es)
theorem E3(rf:Qe)(Qb:List Int)(es:List (F4×F4))(hr:XG rf=true)(hp:X2 rf Qb=true)(he:JT rf es):WriC YP J0 64 #[.agg #[Q6 0 (UU rf.Qa),.int .i64 rf.Qn,.int .i64 rf.Qc,.map (some 1)],.agg #[.int .i64 (Qb.getD 0 0),.int .i64 (Qb.getD 1 0),.int .i64 (Qb.getD 2 0),.int .i64 (Qb.getD 3 0)]] [.map (mapA QC es) es.length] (cR rf Qb es) (cQ rf Qb es) (cS rf Qb es):=
 FinK.wri (c0:=Je rf Qb es) (Hb:=ai rf Qb es) (a:=2) (ws:=([1]:List Nat).zip [.map (mapA QC (XM rf Qb rf.Qc.toNat es)) (XM rf Qb rf.Qc.toNat es).length]) (Wf:=([1]:List Nat)) (by kernel_rfl) rfl rfl rfl rfl fun B hJ=>E2 rf Qb es hr hp he hJ
def Zc(rf:Qe)(Qb:List Int):Bool×Int×Int:=X8 (QG rf Qb rf.Qc.toNat) rf.Qa 0
end
end Go.Proofs.Ytncjjangllkokaa

namespace Go.Proofs.Ytncjjangllkokaa
open Go Go.CE Go.RowKit
def mC(x:Qd)(most:Int):Qd:={x with olo:=if most<x.olo then most else x.olo,ohi:=if most<x.ohi then most else x.ohi}
def XE(rf:Qe)(place most:Int):Qe:=⟨rf.Qa.set place.toNat (mC (Ve rf.Qa place) most),rf.Qn,rf.Qc⟩
theorem Wj{rf:Qe}{place most:Int}:(XE rf place most).Qa.length=rf.Qa.length:=Ow
theorem Sq{rf:Qe}{place most k:Int}(h0:0<=place)(h1:place<rf.Qa.length)(k0:0<=k)(k1:k<rf.Qa.length):(XE rf place most).Qa.getD k.toNat NC=if k=place then mC (Ve rf.Qa k) most else Ve rf.Qa k:=by
 show(rf.Qa.set place.toNat _).getD k.toNat NC=_;rw[NJ,List.getElem?_set];by_cases e:k=place
 ·subst e;rw[if_pos rfl,if_pos (by omega),if_pos rfl];rfl
 ·rw[if_neg (by omega),if_neg e];simp[Ve,NJ]
theorem LW{x:Qd}{most:Int}(h:Sg x=true)(hm:0<=most/\most<=1000000):Sg (mC x most)=true:=by
 have hp:=QU h;simp only[Sg,mC,YB,Wa,ep];refine⟨hp.1,hp.2.1,hp.2.2.1,hp.2.2.2.1,hp.2.2.2.2.1,hp.2.2.2.2.2.1, ?_,hp.2.2.2.2.2.2.2.1⟩;have ho:=hp.2.2.2.2.2.2.1;split <;> split <;> omega
theorem Sr{rf:Qe}{place most:Int}(hr:XG rf=true)(h0:0<=place)(h1:place<rf.Qa.length)(hm:0<=most/\most<=1000000):XG (XE rf place most)=true:=by
 obtain⟨hs,hp⟩:=Qs hr;unfold XG;rw[YB];constructor
 ·unfold YC at hs ⊢;rw[Wj];exact hs
 ·refine List.all_eq_true.2 fun k hk=> ?_
  unfold JY at hk;obtain⟨m,hm',rfl⟩:=List.mem_map.1 hk;have hm2:=List.mem_range.1 hm';rw[Wj]at hm2;have k0:0<=0+(m:Int):=by omega
  have k1:0+(m:Int)<rf.Qa.length:=by omega
  have a:=hp (0+(m:Int)) k0 k1;rw[Sq h0 h1 k0 k1,Wj];simp only[YB,Bool.not_eq_true',decide_eq_false_iff_not];split
  ·exact⟨LW a.1 hm,a.2.1,a.2.2⟩
  ·exact⟨a.1,a.2.1,a.2.2⟩
theorem Vp{rf:Qe}{place most:Int}{Qb:List Int}:X2 (XE rf place most) Qb=X2 rf Qb:=by
 unfold X2;rw[Wj];rfl
noncomputable def Yr(rf:Qe)(Qb:List Int)(place most:Int):Qp:=[(2,Obj.cells #[.slice none 0 0,.int .i64 0,.int .i64 0,.int .i64 0,.int .i64 0,.int .i64 0,.int .i64 0] 84),(1,Obj.cells #[Q6 0 (QO rf.Qa.length (Qg Qk rf.Qa)),.int .i64 rf.Qn,.int .i64 rf.Qc,.int .i64 (Qb.getD 0 0),.int .i64 (Qb.getD 1 0),.int .i64 (Qb.getD 2 0),.int .i64 (Qb.getD 3 0)] 84),(0,Obj.coro none)]
noncomputable def Pm(rf:Qe)(Qb:List Int)(place most:Int):CF:=⟨113,ofList 8 [Q6 0 (QO rf.Qa.length (Qg Qk rf.Qa))],[Item.code (QX YP 113)],[],.run,none⟩
set_option maxRecDepth 100000 in
theorem tW(B:Lo)(rf:Qe)(Qb:List Int)(place most:Int):let b:=rf.Qa;let a:=Qg Qk b;CE.finK 3 (Qv YP (QA YP) J0 B 11 3 (Pm rf Qb place most) (Yr rf Qb place most) 3
 [(2,Qj.tnil),(5,Qj.tapp a)] 0 [] []) [] [(3,KS.cells [] a)] []=some (OO.ret (.slice (some {block:=4,off:=0}) b.length 12),[],[Obj.cells a 54],
 [QK 3 [] a a,0<NG b/\NG b<=maxLen/\NG b*96<=140737488355328/\Ox a=NG b*(11+1)/\Array.map (ZX 0) a=Qg Qk b/\(Array.all a fun v=>simple v || WO v)=true/\ones a=true,0<NG b]):=by intro b a;kernel_rfl
set_option maxRecDepth 100000 in
theorem tV(B:Lo)(rf:Qe)(Qb:List Int)(place most:Int):let h:=0+ND place*12+6;let e:=ND place;let c:=rf.Qa;let f:=OO.ret (.slice (some {block:=4,off:=0}) c.length 12);let d:=Qg Qk c;let b:=c.getD e NC;let a:=Ot c e {count:=b.count,room:=b.room,glo:=b.glo,ghi:=b.ghi,drift:=b.drift,into:=b.into,olo:=if most<b.olo then most else b.olo,ohi:=if most<b.ohi then most else b.ohi,slo:=b.slo,shi:=b.shi,goal:=b.goal,worth:=b.worth};let g:=Fz.cs {k:=4,rs:=[],cs:=Qg Qk a};Xe (Qv YP (QA YP) J0 B 12 1 (Qw YP 94 37 (([.agg (QV rf Qb).toArray,.int .i64 place,.int .i64 most]).map (Q8 0 4))) Ze 1
 [(5,Qj.call (NI 3) f ([]++(3,Xp)::Xk 4 [Obj.cells d 54]) 5 []),(13,Qj.XV (Hint.idx e)),(15,Qj.XV (Hint.ld (.agg #[.int .i64 b.olo,.int .i64 b.ohi]))),(31,Qj.XV (Hint.idx e)),(33,Qj.XV (Hint.st (Qg Qk a)))] 0 [] []) [{k:=4,rs:=[],cs:=Qg Qk a}]=some (.agg #[QO c.length g,.int .i64 rf.Qn,.int .i64 rf.Qc,.int .i64 (Qb.getD 0 0),.int .i64 (Qb.getD 1 0),.int .i64 (Qb.getD 2 0),.int .i64 (Qb.getD 3 0)],
 [XT (Fz.rs {k:=4,rs:=[],cs:=Qg Qk a}) (Qg Qk a) g,0+ND place*12+6+TypeInfo.size Try.t38<=Ox d/\splice d h (Value.cells (XB {len:=16000,tr:=Tri.set 14 (Tri.set 14 Tri.lf 33 (.agg #[.int .i64 (if most<b.olo then most else b.olo),.int .i64 (if most<b.ohi then most else b.ohi)])) 35 (.pointer (some {block:=4,off:=0+ND place*12+6}))} 33))=Qg Qk a,place=(↑e:Int)/\ND place<NG c,0+ND place*12+6+TypeInfo.size Try.t38<=Ox d/\NW d h (0+ND place*12+6+TypeInfo.size Try.t38)=#[.int .i64 b.olo,.int .i64 b.ohi],place=(↑e:Int)/\ND place<NG c,FJ YP B (Pm rf Qb place most) (Yr rf Qb place most) 3 f (([]++((3,Xp)::Xk (3+1) [Obj.cells d 54]))++Yr rf Qb place most) 5 (NI 3) []]):=by intro h e c f d b a g;kernel_rfl
set_option maxHeartbeats 4000000 in
theorem xC(rf:Qe)(Qb:List Int)(place most:Int)(hn:1<=rf.Qa.length/\rf.Qa.length<=4)(h0:0<=place)(h1:place<rf.Qa.length){B:Lo}(hJ:∀w,B.has w->J0 w):EndsT YP B (Qw YP 94 37 (([.agg (QV rf Qb).toArray,.int .i64 place,.int .i64 most]).map (Q8 0 4))) (.agg (QV (XE rf place most) Qb).toArray):=by
 by_cases q0:(NG rf.Qa:Int)=(0)
 ·exfalso
  (omega)
 ·have rj0:FJ YP B (Pm rf Qb place most) (Yr rf Qb place most) 3 (OO.ret (.slice (some {block:=4,off:=0}) rf.Qa.length 12)) (([]++((3,Xp)::Xk (3+1) [Obj.cells (Qg Qk rf.Qa) 54]))++Yr rf Qb place most) 5 (NI 3) []:=by
   exact FinK.fjB (GoE.finK okF hJ Qf (Q9 (by kernel_rfl)) (Q1 (by kernel_rfl)) ((GoE.refl (P:=YP) (B:=B) (c0:=Pm rf Qb place most) (Q9 (by kernel_rfl))).widen (Wf:=((([]):List (Nat×KS)).map (·.1))) (by simp) (Q1 (by kernel_rfl))) (tW B rf Qb place most)
    ⟨(Qr (Q2 (fun x=>List.all_eq_true.1 (by rfl)))),⟨⟨by omega,(by unfold maxLen;omega),by omega,(by exact Xi (z:=12) (fun _=>rfl)),SN (fun _=>rfl) _⟩,⟨(by omega),trivial⟩⟩⟩) (ex:=[]) (by kernel_rfl) (Vo _)
  exact(GoE.endsT okF hJ Qf GoE.start (tV B rf Qb place most)
   ⟨(X9 (fun x=>List.all_eq_true.1 (by rfl))),⟨(by exact s9 (z:=12) (k:=ND place) (j:=6) (fun _=>rfl) (by omega) rfl rfl (by decide)),⟨⟨by omega,by omega⟩,⟨(by exact nK (z:=12) (k:=ND place) (j:=6) (fun _=>rfl) (by omega) (by decide) rfl rfl),⟨⟨by omega,by omega⟩,⟨rj0,trivial⟩⟩⟩⟩⟩⟩).cast (by(have hs_:(XE rf place most).Qa.length=rf.Qa.length:=Wj;show _=Value.agg #[QO (XE rf place most).Qa.length _,_,_,_,_,_,_];rw[hs_];rfl))
theorem tX(rf:Qe)(Qb:List Int)(place most:Int)(hn:1<=rf.Qa.length/\rf.Qa.length<=4)(h0:0<=place)(h1:place<rf.Qa.length):Q4 YP J0 94 #[.agg (QV rf Qb).toArray,.int .i64 place,.int .i64 most] (.agg (QV (XE rf place most) Qb).toArray):=
 Xr (ts:=[.agg (QV rf Qb).toArray,.int .i64 place,.int .i64 most]) Zk (c0:=Qw YP 94 37 (([.agg (QV rf Qb).toArray,.int .i64 place,.int .i64 most]).map (Q8 0 4))) (by kernel_rfl) (by kernel_rfl) fun B hJ=>xC rf Qb place most hn h0 h1 hJ
end Go.Proofs.Ytncjjangllkokaa

namespace Go.Proofs.Ytncjjangllkokaa
open Go Go.CE Go.RowKit
noncomputable section
set_option maxRecDepth 100000
def K6(rf:Qe)(Qb:List Int)(place l:Int):Bool:=(Zc (XE rf place l) Qb).1
def QN(rf:Qe)(Qb:List Int)(place:Int):Int:=(JD (K6 rf Qb place) (fun _=>0) 0 1000001 0).1
def Ta(x_:Qe):Array Value:=#[Q6 4 (QO x_.Qa.length (Qg Qk x_.Qa)),.int .i64 x_.Qn,.int .i64 x_.Qc,Value.map (some 6)]
def fR(rf:Qe)(Qb:List Int)(place:Int)(a b:Int):Value:=(.agg #[QO (NG (Qe.Qa (XE rf place (NF (a+b) 2)))) (Qg Qk (Qe.Qa (XE rf place (NF (a+b) 2)))),.int .i64 (Qe.Qn (XE rf place (NF (a+b) 2))),.int .i64 (Qe.Qc (XE rf place (NF (a+b) 2))),.int .i64 (Qb.getD 0 0),.int .i64 (Qb.getD 1 0),.int .i64 (Qb.getD 2 0),.int .i64 (Qb.getD 3 0)])
def fQ(rf:Qe)(Qb:List Int)(place:Int)(a b:Int):Array Value:=#[.int .i64 (Prod.fst (Prod.snd (X8 (QG (XE rf place (NF (a+b) 2)) Qb (ND (Qe.Qc (XE rf place (NF (a+b) 2))))) (Qe.Qa (XE rf place (NF (a+b) 2))) 0))),.int .i64 (Prod.snd (Prod.snd (X8 (QG (XE rf place (NF (a+b) 2)) Qb (ND (Qe.Qc (XE rf place (NF (a+b) 2))))) (Qe.Qa (XE rf place (NF (a+b) 2))) 0)))]
def Wh(rf:Qe)(Qb:List Int)(place:Int):Qp:=[(2,Obj.cells #[.int .i64 place] 3),(1,Obj.cells #[Q6 0 (QO rf.Qa.length (Qg Qk rf.Qa)),.int .i64 rf.Qn,.int .i64 rf.Qc,.int .i64 (Qb.getD 0 0),.int .i64 (Qb.getD 1 0),.int .i64 (Qb.getD 2 0),.int .i64 (Qb.getD 3 0)] 84),(0,Obj.coro none)]
def UY(rf:Qe)(Qb:List Int)(place:Int):CF:=⟨92,ofList 26 [.int .i64 1000000,Value.func (Fn.func 93) #[] #[pA 1 0,pA 2 0]],[Item.code (QX YP 92)],[],.run,none⟩
def WG(rf:Qe)(Qb:List Int)(place:Int)(a b:Int):List Value:=[Value.func (Fn.func 93) #[] #[pA 1 0,pA 2 0],.int .i64 a,.int .i64 b]
def WE(rf:Qe)(Qb:List Int)(place:Int)(a b:Int):List Obj:=[]
def Wg(rf:Qe)(Qb:List Int)(place:Int)(a b:Int):List Obj:=[]
def WH:List Item:=([.code [1,0,1,1,0,0,0],.inLoop [1,0,1,1,0,0,0],.inBlock 0,.code [1,0,1,1,1],.inScope [1,0]]).map (it (QX YP 92))
def Tc(B:Lo)(rf:Qe)(Qb:List Int)(place:Int)(a b:Int)(Qt:Nat->Value):List Prop:=[IntKind.wrap .i64 (NF (a+b) 2)=NF (a+b) 2,wq (a+b)=a+b]++([]:List Prop)
def fT(rf:Qe)(Qb:List Int)(place:Int)(a b:Int)(Qt:Nat->Value):QE:=[(2,Wu (a+b)),(3,Wu (NF (a+b) 2))]
theorem tQ(B:Lo)(rf:Qe)(Qb:List Int)(place:Int)(a b:Int)(Qt:Nat->Value):let c:=Wg rf Qb place a b;CE.finK 3 (Qv YP (QA YP) J0 B 12 3 (WY (none) 92 26 (([1,5,6]:List Nat).zip (WG rf Qb place a b)) Qt WH) (Z9 (Wh rf Qb place) 3 (([]:List Nat).zip (WE rf Qb place a b)) c) (3+1+c.length)
 (fT rf Qb place a b Qt++[(7,W9)]) 0 [] []) [] [] []=some (OO.ret (.int .i64 a),[],[],
 [YM a b=true]++Tc B rf Qb place a b Qt):=by intro c;kernel_rfl
def Tb(B:Lo)(rf:Qe)(Qb:List Int)(place:Int)(a b:Int)(Qt:Nat->Value):List Prop:=[YM a b=false]++Tc B rf Qb place a b Qt
def fS(rf:Qe)(Qb:List Int)(place:Int)(a b:Int)(Qt:Nat->Value):QE:=fT rf Qb place a b Qt++[(7,Vd)]
def Ua(rf:Qe)(Qb:List Int)(place:Int)(a b:Int)(Qt:Nat->Value):Qp:=[(4,Obj.coro none),(3,Obj.coro none),(2,Obj.cells #[.int .i64 place] 3),(1,Obj.cells #[Q6 0 (QO rf.Qa.length (Qg Qk rf.Qa)),.int .i64 rf.Qn,.int .i64 rf.Qc,.int .i64 (Qb.getD 0 0),.int .i64 (Qb.getD 1 0),.int .i64 (Qb.getD 2 0),.int .i64 (Qb.getD 3 0)] 84),(0,Obj.coro none)]
def Ym(rf:Qe)(Qb:List Int)(place:Int)(a b:Int)(Qt:Nat->Value):CF:=⟨63,ofList 6 [.agg #[Q6 4 (QO (NG (Qe.Qa (XE rf place (NF (a+b) 2)))) (Qg Qk (Qe.Qa (XE rf place (NF (a+b) 2))))),.int .i64 (Qe.Qn (XE rf place (NF (a+b) 2))),.int .i64 (Qe.Qc (XE rf place (NF (a+b) 2)))]],[Item.code (QX YP 63)],[],.run,none⟩
theorem tP(B:Lo)(rf:Qe)(Qb:List Int)(place:Int)(a b:Int)(Qt:Nat->Value):CE.finK 5 (Qv YP (QA YP) J0 B 6 5 (Ym rf Qb place a b Qt) (Ua rf Qb place a b Qt) 5
 [] 0 [] []) [] [(7,KS.same)] []=some (OO.ret (.agg (Ta (XE rf place (NF (a+b) 2)))),[],[Obj.map #[] 0],
 [XH #[]]):=by kernel_rfl
def W6(rf:Qe)(Qb:List Int)(place:Int)(a b:Int)(Qt:Nat->Value):Qp:=[(3,Obj.coro none),(2,Obj.cells #[.int .i64 place] 3),(1,Obj.cells #[Q6 0 (QO rf.Qa.length (Qg Qk rf.Qa)),.int .i64 rf.Qn,.int .i64 rf.Qc,.int .i64 (Qb.getD 0 0),.int .i64 (Qb.getD 1 0),.int .i64 (Qb.getD 2 0),.int .i64 (Qb.getD 3 0)] 84),(0,Obj.coro none)]
def Vv(rf:Qe)(Qb:List Int)(place:Int)(a b:Int)(Qt:Nat->Value):CF:=⟨93,ofList 20 [.int .i64 (NF (a+b) 2),pA 1 0,pA 2 0],[Item.code (QX YP 93)],[],.run,none⟩
theorem tO(B:Lo)(rf:Qe)(Qb:List Int)(place:Int)(a b:Int)(Qt:Nat->Value):let g:=fR rf Qb place a b;let f:=fQ rf Qb place a b;let d:=Value.tuple #[.agg f,.bool true];let c:=XE rf place (NF (a+b) 2);let h:=ND c.Qc;let e:=OO.ret (.agg (Ta c));CE.finK 4 (Qv YP (QA YP) J0 B 8 4 (Vv rf Qb place a b Qt) (W6 rf Qb place a b Qt) 4
 [(4,Qj.pure g []),(6,Qj.call (NI 5) e ([]++(5,Xp)::Xk 6 [Obj.map #[] 0]) 7 []),(9,Qj.wriC [6] [4] [true] [] (cR c Qb []) (cQ c Qb []) (cS c Qb []) (OO.ret d))] 0 [] []) [] [] []=some (OO.ret (.bool true),[],[],
 [(Q7 [XH (mapA QC []),XH (mapA QC (XM c Qb h []))]/\tU c (Qb) ([]))/\OO.ret (.tuple #[.agg f,.bool (Prod.fst (X8 (QG c Qb h) c.Qa 0))])=OO.ret d,FJ YP B (Ym rf Qb place a b Qt) (Ua rf Qb place a b Qt) 5 e (([]++((5,Xp)::Xk (5+1) [Obj.map #[] 0]))++Ua rf Qb place a b Qt) 7 (NI 5) [],Q7 []/\Q4 YP J0 94 #[.agg #[QO rf.Qa.length (Qg Qk rf.Qa),.int .i64 rf.Qn,.int .i64 rf.Qc,.int .i64 (Qb.getD 0 0),.int .i64 (Qb.getD 1 0),.int .i64 (Qb.getD 2 0),.int .i64 (Qb.getD 3 0)],.int .i64 place,.int .i64 (NF (a+b) 2)] g]):=by intro g f d c h e;kernel_rfl
theorem tN(B:Lo)(rf:Qe)(Qb:List Int)(place:Int)(a b:Int)(Qt:Nat->Value):let e:=OO.ret (.bool true);let d:=Wg rf Qb place a b;let c:=NF (a+b) 2;CE.landA 3 (Qv YP (QA YP) J0 B 14 3 (WY (none) 92 26 (([1,5,6]:List Nat).zip (WG rf Qb place a b)) Qt WH) (Z9 (Wh rf Qb place) 3 (([]:List Nat).zip (WE rf Qb place a b)) d) (3+1+d.length)
 (fS rf Qb place a b Qt++[(11,Qj.call (NI 4) e ([]++(4,Xp)::Xk 5 []) 5 [])]) 0 [] []) [1,5,6] [] [] []=some ⟨92,26,WH,[],.run,none,WG rf Qb place (a) c,([]:List Nat).zip (WE rf Qb place (a) c),Wg rf Qb place (a) c,
 [FJ YP B (Vv rf Qb place a b Qt) (W6 rf Qb place a b Qt) 4 e (([]++((4,Xp)::Xk (4+1) []))++W6 rf Qb place a b Qt) 5 (NI 4) []]++Tb B rf Qb place a b Qt⟩:=by intro e d c;kernel_rfl
theorem tM(B:Lo)(rf:Qe)(Qb:List Int)(place:Int)(a b:Int)(Qt:Nat->Value):let g:=fR rf Qb place a b;let f:=fQ rf Qb place a b;let d:=Value.tuple #[.agg f,.bool false];let c:=XE rf place (NF (a+b) 2);let h:=ND c.Qc;let e:=OO.ret (.agg (Ta c));CE.finK 4 (Qv YP (QA YP) J0 B 8 4 (Vv rf Qb place a b Qt) (W6 rf Qb place a b Qt) 4
 [(4,Qj.pure g []),(6,Qj.call (NI 5) e ([]++(5,Xp)::Xk 6 [Obj.map #[] 0]) 7 []),(9,Qj.wriC [6] [4] [true] [] (cR c Qb []) (cQ c Qb []) (cS c Qb []) (OO.ret d))] 0 [] []) [] [] []=some (OO.ret (.bool false),[],[],
 [(Q7 [XH (mapA QC []),XH (mapA QC (XM c Qb h []))]/\tU c (Qb) ([]))/\OO.ret (.tuple #[.agg f,.bool (Prod.fst (X8 (QG c Qb h) c.Qa 0))])=OO.ret d,FJ YP B (Ym rf Qb place a b Qt) (Ua rf Qb place a b Qt) 5 e (([]++((5,Xp)::Xk (5+1) [Obj.map #[] 0]))++Ua rf Qb place a b Qt) 7 (NI 5) [],Q7 []/\Q4 YP J0 94 #[.agg #[QO rf.Qa.length (Qg Qk rf.Qa),.int .i64 rf.Qn,.int .i64 rf.Qc,.int .i64 (Qb.getD 0 0),.int .i64 (Qb.getD 1 0),.int .i64 (Qb.getD 2 0),.int .i64 (Qb.getD 3 0)],.int .i64 place,.int .i64 (NF (a+b) 2)] g]):=by intro g f d c h e;kernel_rfl
theorem tL(B:Lo)(rf:Qe)(Qb:List Int)(place:Int)(a b:Int)(Qt:Nat->Value):let e:=OO.ret (.bool false);let d:=Wg rf Qb place a b;let c:=NF (a+b) 2+1;CE.landA 3 (Qv YP (QA YP) J0 B 14 3 (WY (none) 92 26 (([1,5,6]:List Nat).zip (WG rf Qb place a b)) Qt WH) (Z9 (Wh rf Qb place) 3 (([]:List Nat).zip (WE rf Qb place a b)) d) (3+1+d.length)
 (fS rf Qb place a b Qt++[(11,Qj.call (NI 4) e ([]++(4,Xp)::Xk 5 []) 5 []),(14,Wu c)]) 0 [] []) [1,5,6] [] [] []=some ⟨92,26,WH,[],.run,none,WG rf Qb place c (b),([]:List Nat).zip (WE rf Qb place c (b)),Wg rf Qb place c (b),
 [wq c=NF (a+b) 2+1,FJ YP B (Vv rf Qb place a b Qt) (W6 rf Qb place a b Qt) 4 e (([]++((4,Xp)::Xk (4+1) []))++W6 rf Qb place a b Qt) 5 (NI 4) []]++Tb B rf Qb place a b Qt⟩:=by intro e d c;kernel_rfl
set_option maxHeartbeats 4000000 in
theorem jT(rf:Qe)(Qb:List Int)(place:Int)(hr:XG rf=true)(hp:X2 rf Qb=true)(p0:0<=place)(p1:place<rf.Qa.length){B:Lo}(hJ:∀w,B.has w->J0 w):∀m:Nat,(∀(a b:Int),(b-a).toNat=m->∀(a0:0<=a) (ab:a<=b) (b1:b<=1000001),(∃Qt:Nat->Value,(∀t,X4 (Qt t))/\GoE YP B (UY rf Qb place) (Wh rf Qb place) 3 (WY (none) 92 26 (([1,5,6]:List Nat).zip (WG rf Qb place a b)) Qt WH) (Z9 (Wh rf Qb place) 3 (([]:List Nat).zip (WE rf Qb place a b)) (Wg rf Qb place a b)) (3+1+(Wg rf Qb place a b).length) ([]:List Nat))->FinK YP B (UY rf Qb place) (Wh rf Qb place) 3 (.ret (.int .i64 (JD (K6 rf Qb place) (fun _=>0) a b 0).1)) (([]:List Nat).zip ([])) ([]) ([]:List Nat)):=by
 intro m0;induction m0 using Oi with
 |_ m0 ih0=>
  intro a b Ru a0 ab b1 ⟨Qt,Vs,XL⟩;have Z0:=Q5 (Qs hr).1;have Z0:=Q5 (Qs hr).1;have hl:=LR a0 ab;have Vg:Q7 (Tc B rf Qb place a b Qt):=by
   have hP:=(Vp (rf:=rf) (place:=place) (most:=(a+b).tdiv 2) (Qb:=Qb)).trans hp;have Ug:=JM (rf:=XE rf place ((a+b).tdiv 2));exact⟨(KW (by omega) (by omega)),⟨(Xb (by omega) (by omega)),trivial⟩⟩
  by_cases q0:(a:Int)=(b)
  ·have hP:=(Vp (rf:=rf) (place:=place) (most:=(a+b).tdiv 2) (Qb:=Qb)).trans hp;have Ug:=JM (rf:=XE rf place ((a+b).tdiv 2));have s2:=kX (p:=K6 rf Qb place) (q:=fun _=>0) (u:=0) (show a=b by omega);exact(GoE.finK okF hJ Qf (Q9 (by kernel_rfl)) (Q1 (by kernel_rfl)) XL (tQ B rf Qb place a b Qt)
    ⟨(K2 q0),Vg⟩).cast (by(rw[s2];done)) (by rfl) (by rfl)
  ·have hp1:Q7 (Tb B rf Qb place a b Qt):=by
    exact⟨(K3 q0),Vg⟩
   have rj2:FJ YP B (Ym rf Qb place a b Qt) (Ua rf Qb place a b Qt) 5 (OO.ret (.agg #[Q6 4 (QO (NG (Qe.Qa (XE rf place (NF (a+b) 2)))) (Qg Qk (Qe.Qa (XE rf place (NF (a+b) 2))))),.int .i64 (Qe.Qn (XE rf place (NF (a+b) 2))),.int .i64 (Qe.Qc (XE rf place (NF (a+b) 2))),Value.map (some 6)])) (([]++((5,Xp)::Xk (5+1) [Obj.map #[] 0]))++Ua rf Qb place a b Qt) 7 (NI 5) []:=by
    have hm:=b9 a0 (show a<b by omega);have hW:=Sr (most:=(a+b).tdiv 2) hr p0 p1 (by omega);have hP:=(Vp (rf:=rf) (place:=place) (most:=(a+b).tdiv 2) (Qb:=Qb)).trans hp;have Ug:=JM (rf:=XE rf place ((a+b).tdiv 2));exact FinK.fjB (GoE.finK okF hJ Qf (Q9 (by kernel_rfl)) (Q1 (by kernel_rfl)) ((GoE.refl (P:=YP) (B:=B) (c0:=Ym rf Qb place a b Qt) (Q9 (by kernel_rfl))).widen (Wf:=((([]):List (Nat×KS)).map (·.1))) (by simp) (Q1 (by kernel_rfl))) (tP B rf Qb place a b Qt)
     ⟨(by(intro i e he;simp at he;done)),trivial⟩) (ex:=[]) (by kernel_rfl) (Vo _)
   cases q1:Prod.fst (X8 (QG (XE rf place (NF (a+b) 2)) Qb (ND (Qe.Qc (XE rf place (NF (a+b) 2))))) (Qe.Qa (XE rf place (NF (a+b) 2))) 0)with
   |true=>
    have rj1:FJ YP B (Vv rf Qb place a b Qt) (W6 rf Qb place a b Qt) 4 (OO.ret (.bool true)) (([]++((4,Xp)::Xk (4+1) []))++W6 rf Qb place a b Qt) 5 (NI 4) []:=by
     have hm:=b9 a0 (show a<b by omega);have hW:=Sr (most:=(a+b).tdiv 2) hr p0 p1 (by omega);have hP:=(Vp (rf:=rf) (place:=place) (most:=(a+b).tdiv 2) (Qb:=Qb)).trans hp;have Ug:=JM (rf:=XE rf place ((a+b).tdiv 2));have s2:=dE (p:=K6 rf Qb place) (q:=fun _=>0) (u:=0) a0 (show a<b by omega) (show K6 rf Qb place ((a+b).tdiv 2)=_ by assumption);exact FinK.fjB (GoE.finK okF hJ Qf (Q9 (by kernel_rfl)) (Q1 (by kernel_rfl)) ((GoE.refl (P:=YP) (B:=B) (c0:=Vv rf Qb place a b Qt) (Q9 (by kernel_rfl))).widen (Wf:=((([]):List (Nat×KS)).map (·.1))) (by simp) (Q1 (by kernel_rfl))) (tO B rf Qb place a b Qt)
      ⟨⟨⟨⟨(X6 (fun _=>by kernel_rfl)),⟨(X6 (fun _=>by kernel_rfl)),trivial⟩⟩,E3 (XE rf place (NF (a+b) 2)) (Qb) ([]) (by with_reducible assumption) (by with_reducible assumption) (by with_reducible assumption)⟩,(by(rw[q1];done))⟩,⟨rj2,⟨⟨trivial,tX (rf) (Qb) (place) (NF (a+b) 2) (by omega) (by with_reducible assumption) (by with_reducible assumption)⟩,trivial⟩⟩⟩) (ex:=[]) (by kernel_rfl) (Vo _)
    have hm:=b9 a0 (show a<b by omega);have hW:=Sr (most:=(a+b).tdiv 2) hr p0 p1 (by omega);have hP:=(Vp (rf:=rf) (place:=place) (most:=(a+b).tdiv 2) (Qb:=Qb)).trans hp;have Ug:=JM (rf:=XE rf place ((a+b).tdiv 2));have s2:=dE (p:=K6 rf Qb place) (q:=fun _=>0) (u:=0) a0 (show a<b by omega) (show K6 rf Qb place ((a+b).tdiv 2)=_ by assumption);exact((ih0 _ (by omega)) (a) (NF (a+b) 2) rfl (by with_reducible assumption) (by omega) (by omega)
     (GoE.landA okF hJ Qf (Q9 (by kernel_rfl)) (Q1 (by kernel_rfl)) XL (tN B rf Qb place a b Qt)
     ⟨rj1,hp1⟩ (by kernel_rfl) (by kernel_rfl) (fun l hl=>by cases hl <;> decide))).cast (by(rw[s2];done)) (by rfl) (by rfl)
   |false=>
    have rj1:FJ YP B (Vv rf Qb place a b Qt) (W6 rf Qb place a b Qt) 4 (OO.ret (.bool false)) (([]++((4,Xp)::Xk (4+1) []))++W6 rf Qb place a b Qt) 5 (NI 4) []:=by
     have hm:=b9 a0 (show a<b by omega);have hW:=Sr (most:=(a+b).tdiv 2) hr p0 p1 (by omega);have hP:=(Vp (rf:=rf) (place:=place) (most:=(a+b).tdiv 2) (Qb:=Qb)).trans hp;have Ug:=JM (rf:=XE rf place ((a+b).tdiv 2));have s2:=iF (p:=K6 rf Qb place) (q:=fun _=>0) (u:=0) a0 (show a<b by omega) (show K6 rf Qb place ((a+b).tdiv 2)=_ by assumption);exact FinK.fjB (GoE.finK okF hJ Qf (Q9 (by kernel_rfl)) (Q1 (by kernel_rfl)) ((GoE.refl (P:=YP) (B:=B) (c0:=Vv rf Qb place a b Qt) (Q9 (by kernel_rfl))).widen (Wf:=((([]):List (Nat×KS)).map (·.1))) (by simp) (Q1 (by kernel_rfl))) (tM B rf Qb place a b Qt)
      ⟨⟨⟨⟨(X6 (fun _=>by kernel_rfl)),⟨(X6 (fun _=>by kernel_rfl)),trivial⟩⟩,E3 (XE rf place (NF (a+b) 2)) (Qb) ([]) (by with_reducible assumption) (by with_reducible assumption) (by with_reducible assumption)⟩,(by(rw[q1];done))⟩,⟨rj2,⟨⟨trivial,tX (rf) (Qb) (place) (NF (a+b) 2) (by omega) (by with_reducible assumption) (by with_reducible assumption)⟩,trivial⟩⟩⟩) (ex:=[]) (by kernel_rfl) (Vo _)
    have hm:=b9 a0 (show a<b by omega);have hW:=Sr (most:=(a+b).tdiv 2) hr p0 p1 (by omega);have hP:=(Vp (rf:=rf) (place:=place) (most:=(a+b).tdiv 2) (Qb:=Qb)).trans hp;have Ug:=JM (rf:=XE rf place ((a+b).tdiv 2));have s2:=iF (p:=K6 rf Qb place) (q:=fun _=>0) (u:=0) a0 (show a<b by omega) (show K6 rf Qb place ((a+b).tdiv 2)=_ by assumption);exact((ih0 _ (by omega)) (NF (a+b) 2+1) (b) rfl (by omega) (by omega) (by with_reducible assumption)
     (GoE.landA okF hJ Qf (Q9 (by kernel_rfl)) (Q1 (by kernel_rfl)) XL (tL B rf Qb place a b Qt)
     ⟨(Xb (by omega) (by omega)),⟨rj1,hp1⟩⟩ (by kernel_rfl) (by kernel_rfl) (fun l hl=>by cases hl <;> decide))).cast (by(rw[s2];done)) (by rfl) (by rfl)

theorem tR(B:Lo)(rf:Qe)(Qb:List Int)(place:Int):CE.landA 3 (Qv YP (QA YP) J0 B 10 3 (UY rf Qb place) (Wh rf Qb place) 3
 [] 0 [] []) [1,5,6] [] [] []=some ⟨92,26,WH,[],.run,none,WG rf Qb place (0) (1000001),([]:List Nat).zip (WE rf Qb place (0) (1000001)),Wg rf Qb place (0) (1000001),
 []⟩:=by kernel_rfl
theorem tK(B:Lo)(rf:Qe)(Qb:List Int)(place:Int):let a:=K6 rf Qb place;Xe (Qv YP (QA YP) J0 B 6 1 (Qw YP 71 7 (([.agg (QV rf Qb).toArray,.int .i64 place]).map (Q8 0 4))) Ze 1
 [(4,Qj.call (NI 3) (OO.ret (.int .i64 (Prod.fst (JD a (fun x=>0) 0 1000001 0)))) ([]++(3,Xp)::Xk 4 []) 4 [])] 0 [] []) []=some (.int .i64 (Prod.fst (JD a (fun x=>0) 0 1000001 0)),
 [FJ YP B (UY rf Qb place) (Wh rf Qb place) 3 (OO.ret (.int .i64 (Prod.fst (JD a (fun x=>0) 0 1000001 0)))) (([]++((3,Xp)::Xk (3+1) []))++Wh rf Qb place) 4 (NI 3) []]):=by intro a;kernel_rfl
set_option maxHeartbeats 4000000 in
theorem xt(rf:Qe)(Qb:List Int)(place:Int)(hr:XG rf=true)(hp:X2 rf Qb=true)(p0:0<=place)(p1:place<rf.Qa.length){B:Lo}(hJ:∀w,B.has w->J0 w):EndsT YP B (Qw YP 71 7 (([.agg (QV rf Qb).toArray,.int .i64 place]).map (Q8 0 4))) (.int .i64 (QN rf Qb place)):=by
 have Z0:=Q5 (Qs hr).1;have rj0:FJ YP B (UY rf Qb place) (Wh rf Qb place) 3 (OO.ret (.int .i64 (Prod.fst (JD (K6 rf Qb place) (fun x=>0) 0 1000001 0)))) (([]++((3,Xp)::Xk (3+1) []))++Wh rf Qb place) 4 (NI 3) []:=by
  exact FinK.fjB ((jT rf Qb place hr hp p0 p1 hJ _) (0) (1000001) rfl (by omega) (by omega) (by omega)
   (GoE.landA okF hJ Qf (Q9 (by kernel_rfl)) (Q1 (by kernel_rfl)) ((GoE.refl (P:=YP) (B:=B) (c0:=UY rf Qb place) (Q9 (by kernel_rfl))).widen (Wf:=((([]):List (Nat×KS)).map (·.1))) (by simp) (Q1 (by kernel_rfl))) (tR B rf Qb place)
   trivial (by kernel_rfl) (by kernel_rfl) (fun l hl=>by cases hl <;> decide))) (ex:=[]) (by kernel_rfl) (Vo _)
 exact(GoE.endsT okF hJ Qf GoE.start (tK B rf Qb place)
  ⟨rj0,trivial⟩).cast (by rfl)
theorem Eu(rf:Qe)(Qb:List Int)(place:Int)(hr:XG rf=true)(hp:X2 rf Qb=true)(p0:0<=place)(p1:place<rf.Qa.length):Q4 YP J0 71 #[.agg (QV rf Qb).toArray,.int .i64 place] (.int .i64 (QN rf Qb place)):=
 Xr (ts:=[.agg (QV rf Qb).toArray,.int .i64 place]) Zk (c0:=Qw YP 71 7 (([.agg (QV rf Qb).toArray,.int .i64 place]).map (Q8 0 4))) (by kernel_rfl) (by kernel_rfl) fun B hJ=>xt rf Qb place hr hp p0 p1 hJ
end
end Go.Proofs.Ytncjjangllkokaa

namespace Go.Proofs.Ytncjjangllkokaa
open Go Go.CE Go.RowKit
theorem zk{g h:Int->Int}:∀(k:Nat),(∀m:Int,0<=m->m<k->g m<=h m)->QS 0 k g<=QS 0 k h
 |0,_=>by rw[ZQ (by omega),ZQ (by omega)];omega
 |k+1,H=>by
  have ih:=zk k fun m h0 h1=>H m h0 (by omega)
  have h2:=H k (by omega) (by omega);rw[show((k+1:Nat):Int)=(k:Int)+1 by omega,QM (by omega),QM (by omega)];omega
section
variable {ps:List Qd} {n:Int} {gs ts:List (List Int)} {f:F4}
theorem GC{k i:Int}(h4:ps.length<=4)(i0:0<=i)(i1:i<ps.length):(s8 ps gs ts f k).getD i.toNat NC=(Zp ps gs ts f (k.toNat+1)).at i:=by
 unfold s8;rw[<-zR h4];exact Xh i0 i1
end
end Go.Proofs.Ytncjjangllkokaa

namespace Go.Proofs.Ytncjjangllkokaa
open Go Go.CE Go.RowKit
def Cr(f g:F4):Prop:=∀j:Int,0<=j->j<4->f.at j<=g.at j
def LX(n:Nat)(xs ys:List Int):Prop:=∀k:Int,0<=k->k<n->nth xs k<=nth ys k
theorem bR{a:Int}(h:0<=a):a.tdiv 1000=a / 1000:=Ov h
theorem yB{room x y g g':Int}(x0:0<=x)(xy:x<=y)(g0:0<=g)(gg:g<=g'):x+Wm room x g<=y+Wm room y g':=by
 have h0:0<=x*g:=Int.mul_nonneg x0 g0;have h1:x*g<=y*g':=Int.mul_le_mul xy gg g0 (by omega);have e1:=bR h0;have e2:=bR (a:=y*g') (by omega);unfold Wm;rw[e1,e2];have hd:x*g / 1000<=y*g' / 1000:=Int.ediv_le_ediv (by omega) h1;have hn:0<=x*g / 1000:=Int.ediv_nonneg h0 (by omega);split <;> split <;> (try split) <;> (try split) <;> omega
theorem Im{gs gs':List Int}{ps:List Qd}{f f':F4}(hg:UP ps.length gs 2000)(hgg:LX ps.length gs gs')(hf:Pa f)(hff:Cr f f'):Cr (WZ gs ps f) (WZ gs' ps f'):=fun j j0 j1=>by
 unfold WZ;rw[U9 j0 j1,U9 j0 j1];unfold XA ZJ;have h:=hff j j0 j1;split
 ·rename_i hj;have a:=hg.2 j j0 hj;have b:=hgg j j0 hj;have c:=(ZI hf j0 j1).1;exact yB c h a.1 b
 ·exact h
theorem po{x y d:Int}(x0:0<=x)(xy:x<=y)(d0:0<=d)(d1:d<=1000):(x*d).tdiv 1000<=(y*d).tdiv 1000/\x-(x*d).tdiv 1000<=y-(y*d).tdiv 1000:=by
 have h0:0<=x*d:=Int.mul_nonneg x0 d0;have h1:x*d<=y*d:=Int.mul_le_mul_of_nonneg_right xy d0;have h2:(y-x)*d<=(y-x)*1000:=Int.mul_le_mul_of_nonneg_left d1 (by omega);have h3:(y-x)*d=y*d-x*d:=Int.sub_mul ..;rw[bR h0,bR (a:=y*d) (by omega)];omega
theorem Iy{ps:List Qd}{b b':F4}(hp:Y4 ps)(hf:Pa b)(h:Cr b b'):Cr (SC ps b) (SC ps b'):=fun j j0 j1=>by
 have h4:=hp.1;unfold SC;rw[U9 j0 j1,U9 j0 j1];unfold Ww;have hs:QS 0 ps.length (fun m=>if(Ve ps m).into=j then ZK ps b m else 0)<=QS 0 ps.length (fun m=>if(Ve ps m).into=j then ZK ps b' m else 0):=zk ps.length fun m m0 m1=>by
  have hd:=(hp.2 m m0 m1).2.1;have:=(po (ZI hf m0 (by omega)).1 (h m m0 (by omega)) hd.1 hd.2).1;show(if(Ve ps m).into=j then ZK ps b m else 0)<=(if(Ve ps m).into=j then ZK ps b' m else 0)
  unfold ZK;split <;> omega
 have hj:=h j j0 j1;split
 ·rename_i hn;have hd:=(hp.2 j j0 hn).2.1;have:b.at j-ZK ps b j<=b'.at j-ZK ps b' j:=(po (ZI hf j0 j1).1 hj hd.1 hd.2).2;omega
 ·omega
theorem G8{ts ts':List Int}{ps:List Qd}{b b':F4}(ht:LX ps.length ts' ts)(h:Cr b b'):Cr (wU ts ps b) (wU ts' ps b'):=fun j j0 j1=>by
 unfold wU;rw[U9 j0 j1,U9 j0 j1];unfold YA Zh;have hj:=h j j0 j1;split
 ·rename_i hn;have:=ht j j0 hn;split <;> split <;> omega
 ·exact hj
theorem Bl{gs gs' ts ts':List Int}{ps:List Qd}{f f':F4}(hp:Y4 ps)(hg:UP ps.length gs 2000)(hgg:LX ps.length gs gs')(ht:LX ps.length ts' ts)(hf:Pa f)(hs:f.sum<=10000000000)(hff:Cr f f'):Cr (X3 gs ts ps f) (X3 gs' ts' ps f'):=
 G8 ht (Iy hp (mM hp hg hf hs) (Im hg hgg hf hff))
theorem zl{ps:List Qd}{n:Int}{gs gs' ts ts':List (List Int)}{f f':F4}(h:OkT ps n gs ts f)(hgg:∀k:Nat,k<n->LX ps.length (gs.getD k NC) (gs'.getD k NC))(htt:∀k:Nat,k<n->LX ps.length (ts'.getD k NC) (ts.getD k NC))(hff:Cr f f'):∀k:Nat,k<=n->Cr (Zp ps gs ts f k) (Zp ps gs' ts' f' k)
 |0,_=>hff
 |k+1,hk=>by
  have h4:=h.s4;have h9:=h.hs;have XZ:=h.st k (by omega);have:=XZ.2;exact Bl h.hp (h.rg k (by omega)) (hgg k (by omega)) (htt k (by omega)) XZ.1 (by omega) (zl h hgg htt hff k (by omega))
theorem Ac{l l':List Int}{n:Nat}(hl:l.length=n)(hl':l'.length=n)(h:LX n l l'):Cr (Qh l) (Qh l'):=fun j j0 j1=>by
 rw[<-YV j0 j1,<-YV j0 j1];by_cases hj:j<n
 ·exact h j j0 hj
 ·unfold nth;rw[NJ,NJ,Oc (by omega),Oc (by omega)];exact Ol _
end Go.Proofs.Ytncjjangllkokaa

namespace Go.Proofs.Ytncjjangllkokaa
open Go Go.CE Go.RowKit
theorem jn{g g':Int->Int}(h:∀j:Int,0<=j->j<4->g j=g' j):wW g=wW g':=by
 unfold wW;rw[h 0 (by omega) (by omega),h 1 (by omega) (by omega),h 2 (by omega) (by omega),h 3 (by omega) (by omega)]
theorem jo{g g':Int->Int}:∀(k:Nat),(∀m:Int,0<=m->m<k->g m=g' m)->QS 0 k g=QS 0 k g'
 |0,_=>by rw[ZQ (by omega),ZQ (by omega)]
 |k+1,h=>by
  have ih:=jo k fun m h0 h1=>h m h0 (by omega)
  rw[show((k+1:Nat):Int)=(k:Int)+1 by omega,QM (by omega),QM (by omega),ih,h k (by omega) (by omega)]
def sx(ps ps':List Qd):Prop:=ps'.length=ps.length/\∀k:Int,0<=k->k<ps.length->(Ve ps' k).room=(Ve ps k).room/\(Ve ps' k).drift=(Ve ps k).drift/\(Ve ps' k).into=(Ve ps k).into
theorem Il{ps ps':List Qd}(h:sx ps ps'){gs:List Int}{f:F4}:WZ gs ps' f=WZ gs ps f:=by
 unfold WZ;rw[h.1];refine jn fun j j0 j1=> ?_
 unfold XA;split
 ·rename_i hj;unfold ZJ;rw[(h.2 j j0 hj).1]
 ·rfl
theorem Ix{ps ps':List Qd}(h:sx ps ps'){b:F4}:SC ps' b=SC ps b:=by
 unfold SC;rw[h.1];refine jn fun j j0 j1=> ?_
 unfold Ww;have hs:QS 0 ps.length (fun m=>if(Ve ps' m).into=j then ZK ps' b m else 0)=QS 0 ps.length (fun m=>if(Ve ps m).into=j then ZK ps b m else 0):=jo _ fun m m0 m1=>by
  unfold ZK;rw[(h.2 m m0 m1).2.1,(h.2 m m0 m1).2.2]
 rw[hs];split
 ·rename_i hj;unfold ZK;rw[(h.2 j j0 hj).2.1]
 ·rfl
theorem G7{ps ps':List Qd}(h:sx ps ps'){ts:List Int}{b:F4}:wU ts ps' b=wU ts ps b:=by
 unfold wU;rw[h.1]
theorem ix{ps ps':List Qd}(h:sx ps ps'){gs ts:List (List Int)}{f:F4}:∀k:Nat,Zp ps' gs ts f k=Zp ps gs ts f k
 |0=>rfl
 |k+1=>by
  show X3 _ _ ps' _=X3 _ _ ps _;unfold X3;rw[ix h k,Il h,Ix h,G7 h]
section
variable {rf:Qe} {Qb:List Int} {season place:Int} (hr:X1 rf=true) (V7:X2 rf Qb=true) (hse:0<=season/\season<rf.Qc) (hpc:0<=place/\place<rf.Qa.length)
include hr V7 hse hpc
end
structure NB (g:Qd->Qd):Prop where
 ok:∀x,Zj x=true->Zj (g x)=true
 rm:∀x,(g x).room=x.room
 dr:∀x,(g x).drift=x.drift
 it:∀x,(g x).into=x.into
 ct:∀x,(g x).count=x.count
 op:∀x,Uw (g x)=Uw x
 sh:∀x,p9 (g x)=p9 x
section
variable {rf:Qe} {g:Qd->Qd} (hr:X1 rf=true) (hg:NB g)
include hg in
include hr hg in
include hg in
include hg in
include hr hg in
include hr hg in
include hr hg in
end
end Go.Proofs.Ytncjjangllkokaa
