/- Reef: truths. -/
import Derived.Test.YtncjjangllkokaaZRQ15
import Derived.Test.YtncjjangllkokaaZRQ07
import Derived.Test.YtncjjangllkokaaZRQ11
import Derived.Test.YtncjjangllkokaaZRQ10
set_option linter.all false
open List renaming getD_eq_getElem?_getD->NJ,getElem?_eq_none->Oc,range->NI,set->Ot,replicate->Of,length->NG,length_set->Ow,length_replicate->Ou,getD->Og,getElem?_toArray->Oy,length_append->NV,length_cons->NY,length_nil->Oj,getElem?_take_of_lt->OE,range'->Oa,mem_cons_of_mem->NS
open Int renaming le_refl->Ol,toNat->ND,tdiv_eq_ediv_of_nonneg->Ov
open Nat renaming ble->Oo,blt->NO,beq->NH,strongRecOn->Oi,min->OA,le_refl->NZ,zero_add->Ob,lt_of_lt_of_eq->OB
open Array renaming eq_empty_of_size_eq_zero->On,size->Ox,extract->NW,getElem?_extract->Oz,getElem?_toList->NM,getElem?_eq_none->OG
open Inhabited renaming default->NC
namespace Go.Proofs.Ytncjjangllkokaa
open Go Go.CE Go.RowKit
set_option maxRecDepth 100000
end Go.Proofs.Ytncjjangllkokaa

namespace Go.Proofs.Ytncjjangllkokaa
open Go Go.CE Go.RowKit
set_option maxRecDepth 100000
theorem L9{n:Nat}(h:n<=4):((Vb n:Nat):Int)<=16:=by
 unfold Vb;have:n=0\/n=1\/n=2\/n=3\/n=4:=by omega
 rcases this with rfl|rfl|rfl|rfl|rfl <;> decide
theorem XK{rf:Qe}{Qb:List Int}(hr:XG rf=true)(hp:X2 rf Qb=true)(j:Nat):0<=Qb.getD j 0/\Qb.getD j 0<=15:=by
 have h:=(Xs hp).2;have h4:=L9 (n:=rf.Qa.length) (by have:=Q5 (Qs hr).1;omega);by_cases hj:j<Qb.length
 ·have e:Qb.getD j 0=Qb[j]:=by simp[NJ,hj]
  have:=h Qb[j] (List.getElem_mem hj);rw[e];omega
 ·rw[NJ,Oc (by omega)];exact⟨Ol _,by decide⟩
theorem E5{rf:Qe}(hr:XG rf=true):Y4 rf.Qa:=by
 have hs:=Q5 (Qs hr).1;refine⟨by omega,fun k h0 h1=> ?_⟩;have h:=(Qs hr).2 k h0 h1;have hp:=QU h.1;exact⟨hp.2.1,hp.2.2.2.2.2.1,h.2.1,h.2.2⟩
theorem SO{ps:List Qd}{p k:Int}(h0:0<=k)(h:k<ps.length):(ZO ps p).getD k.toNat NC=VJ p k (ps.getD k.toNat NC):=Xh h0 h
theorem VY{ps:List Qd}{p:Int}:(ZO ps p).length=ps.length:=by rw[ZO,Xf];omega
theorem nG{rf:Qe}(hr:XG rf=true){p k:Int}(h0:0<=k)(h:k<rf.Qa.length):0<=(VJ p k (rf.Qa.getD k.toNat NC)).lo/\(VJ p k (rf.Qa.getD k.toNat NC)).lo<=(VJ p k (rf.Qa.getD k.toNat NC)).hi/\(VJ p k (rf.Qa.getD k.toNat NC)).hi<=1000000:=by
 have hp:=QU ((Qs hr).2 k h0 h).1;unfold VJ;split
 ·exact hp.2.2.2.2.2.2.2.1
 ·exact hp.2.2.2.2.2.2.1
end Go.Proofs.Ytncjjangllkokaa

namespace Go.Proofs.Ytncjjangllkokaa
open Go Go.CE Go.RowKit
def Qx(n:Int):Value:=.int .i64 n
def Xl(g:FuncId):Bool:=Oo 3 g && (NO g 116 && !([]:List Nat).any (NH g))
theorem QF:∀g,Xl g=true->QA YP g=true:=by
 have h:(NI 116).all (fun g=> !(Xl g) || QA YP g)=true:=by decide+kernel
 intro g hg;have hg':=hg;simp only[Xl,YB]at hg;have h1:g<116:=YL hg.2.1;have:=List.all_eq_true.1 h g (List.mem_range.2 h1);rw[hg']at this;simpa using this
def VT:Obj:=.cells #[Qx 1000,Qx 2000,Qx 200,Qx 300,Qx 100,Qx 1,Qx 200,Qx 300,Qx 0,Qx 50,Qx 900,Qx 10,Qx 500,Qx 800,Qx 100,Qx 200,Qx 0,Qx (-1),Qx 100,Qx 200,Qx 0,Qx 20,Qx 450,Qx 6] 54 (0,0)
def pj:Obj:=.cells #[.slice (some ⟨2104,0,none⟩) 2 12,Qx 200,Qx 2,Qx 1,Qx 1,Qx 0,Qx 0] 84 (0,0)
def NA:Obj:=.cells #[Qx 1000,Qx 2000,Qx 200,Qx 300,Qx 100,Qx 1,Qx 200,Qx 300,Qx 0,Qx 50,Qx 900,Qx 10,Qx 500,Qx 800,Qx 100,Qx 200,Qx 0,Qx (-1),Qx 100,Qx 122,Qx 0,Qx 20,Qx 450,Qx 6] 54 (0,0)
def N9:Obj:=.cells #[Qx 1000,Qx 2000,Qx 200,Qx 300,Qx 100,Qx 1,Qx 200,Qx 300,Qx 0,Qx 50,Qx 900,Qx 10,Qx 500,Qx 800,Qx 100,Qx 200,Qx 0,Qx (-1),Qx 100,Qx 183,Qx 0,Qx 20,Qx 450,Qx 6] 54 (0,0)
def N8:Obj:=.cells #[Qx 1000,Qx 2000,Qx 200,Qx 300,Qx 100,Qx 1,Qx 200,Qx 300,Qx 0,Qx 50,Qx 900,Qx 10,Qx 500,Qx 800,Qx 100,Qx 200,Qx 0,Qx (-1),Qx 100,Qx 199,Qx 0,Qx 20,Qx 450,Qx 6] 54 (0,0)
def N7:Obj:=.cells #[Qx 1000,Qx 2000,Qx 200,Qx 300,Qx 100,Qx 1,Qx 200,Qx 300,Qx 0,Qx 50,Qx 900,Qx 10,Qx 500,Qx 800,Qx 100,Qx 200,Qx 0,Qx (-1),Qx 100,Qx 191,Qx 0,Qx 20,Qx 450,Qx 6] 54 (0,0)
def N6:Obj:=.cells #[Qx 1000,Qx 2000,Qx 200,Qx 300,Qx 100,Qx 1,Qx 200,Qx 300,Qx 0,Qx 50,Qx 900,Qx 10,Qx 500,Qx 800,Qx 100,Qx 200,Qx 0,Qx (-1),Qx 100,Qx 195,Qx 0,Qx 20,Qx 450,Qx 6] 54 (0,0)
def N5:Obj:=.cells #[Qx 1000,Qx 2000,Qx 200,Qx 300,Qx 100,Qx 1,Qx 200,Qx 300,Qx 0,Qx 50,Qx 900,Qx 10,Qx 500,Qx 800,Qx 100,Qx 200,Qx 0,Qx (-1),Qx 100,Qx 197,Qx 0,Qx 20,Qx 450,Qx 6] 54 (0,0)
def N4:Obj:=.cells #[Qx 1000,Qx 2000,Qx 200,Qx 300,Qx 100,Qx 1,Qx 200,Qx 300,Qx 0,Qx 50,Qx 900,Qx 10,Qx 500,Qx 800,Qx 100,Qx 200,Qx 0,Qx (-1),Qx 100,Qx 196,Qx 0,Qx 20,Qx 450,Qx 6] 54 (0,0)
end Go.Proofs.Ytncjjangllkokaa

namespace Go.Proofs.Ytncjjangllkokaa
open Go Go.CE Go.RowKit
def yy:Memo:=
 ⟨26,#[.agg #[.slice (some ⟨7,0,none⟩) 2 12,Qx 200,Qx 2],.slice (some ⟨8,0,none⟩) 2 1,.agg #[.slice (some ⟨9,0,none⟩) 2 1,.slice (some ⟨12,0,none⟩) 2 1,.slice (some ⟨15,0,none⟩) 2 1]],[(9,.cells #[Qx 1100,Qx 550] 3 (0,0)),(12,.cells #[.slice (some ⟨10,0,none⟩) 2 1,.slice (some ⟨11,0,none⟩) 2 1] 25 (0,0)),(10,.cells #[Qx 250,Qx 150] 3 (0,0)),(15,.cells #[.slice (some ⟨13,0,none⟩) 2 1,.slice (some ⟨14,0,none⟩) 2 1] 25 (0,0)),(13,.cells #[Qx 250,Qx 150] 3 (0,0)),(11,.cells #[Qx 200,Qx 100] 3 (0,0)),(14,.cells #[Qx 200,Qx 100] 3 (0,0)),(8,.cells #[Qx 0,Qx 0] 3 (0,0)),(7,VT)],16,.tuple #[.slice (some ⟨107,0,none⟩) 2 1,.agg #[Qx 1650,Qx 615,Qx 700,Qx 0,Qx 1565],Qx 0],[(121,.cells #[Qx 867,Qx 698] 3 (0,0)),(114,.cells #[Qx 988,Qx 619] 3 (0,0)),(107,.cells #[.slice (some ⟨114,0,none⟩) 2 1,.slice (some ⟨121,0,none⟩) 2 1] 25 (0,0))],123⟩
theorem BO:QP yy (yy.run YP Xl Xw 100000)=true:=by decide+kernel
def qF:Memo:=
 ⟨18,#[.agg #[.slice (some ⟨131,0,none⟩) 2 12,Qx 200,Qx 2],.slice (some ⟨132,0,none⟩) 2 1],[(132,.cells #[Qx 0,Qx 0] 3 (0,0)),(131,VT)],133,.tuple #[.slice (some ⟨191,0,none⟩) 2 1,Qx 0],[(375,.cells #[Qx 543,Qx 1209,Qx 410,Qx 856] 38 (0,0)),(283,.cells #[Qx 780,Qx 1204,Qx 470,Qx 776] 38 (0,0)),(191,.cells #[.slice (some ⟨283,0,none⟩) 2 2,.slice (some ⟨375,0,none⟩) 2 2] 36 (0,0))],376⟩
theorem yz:QP qF (qF.run YP Xl Xw 100000)=true:=by decide+kernel
def qC:Memo:=
 ⟨88,#[.slice (some ⟨383,0,none⟩) 2 12,.agg #[Qx 1063,Qx 440,Qx 0,Qx 0]],[(383,VT)],539,.tuple #[.agg #[Qx 1,Qx 10],.bool true],[],544⟩
theorem yv:QP qC (qC.drun YP Xl Xw 100000)=true:=by decide+kernel
def qx:Memo:=
 ⟨98,#[.agg #[.slice (some ⟨552,0,none⟩) 2 12,Qx 200,Qx 2,Qx 3,Qx 3,Qx 0,Qx 0],.agg #[Qx 1000,Qx 500,Qx 0,Qx 0],Qx 0,.func (.func 76) #[] #[],.func (.func 77) #[] #[]],[(552,VT)],622,.agg #[Qx 1030,Qx 650,Qx 0,Qx 0],[],663⟩
theorem yo:QP qx (qx.run YP Xl Xw 100000)=true:=by decide+kernel
def qw:Memo:=
 ⟨98,#[.agg #[.slice (some ⟨552,0,none⟩) 2 12,Qx 200,Qx 2,Qx 3,Qx 3,Qx 0,Qx 0],.agg #[Qx 1030,Qx 650,Qx 0,Qx 0],Qx 1,.func (.func 76) #[] #[],.func (.func 77) #[] #[]],[(552,VT)],666,.agg #[Qx 1063,Qx 818,Qx 0,Qx 0],[],707⟩
theorem yn:QP qw (qw.run YP Xl Xw 100000)=true:=by decide+kernel
def qB:Memo:=
 ⟨88,#[.slice (some ⟨552,0,none⟩) 2 12,.agg #[Qx 1063,Qx 818,Qx 0,Qx 0]],[(552,VT)],707,.tuple #[.agg #[Qx 0,Qx 0],.bool false],[],712⟩
theorem yu:QP qB (qB.drun YP Xl Xw 100000)=true:=by decide+kernel
def qv:Memo:=
 ⟨98,#[.agg #[.slice (some ⟨552,0,none⟩) 2 12,Qx 200,Qx 2,Qx 0,Qx 0,Qx 0,Qx 0],.agg #[Qx 1000,Qx 500,Qx 0,Qx 0],Qx 0,.func (.func 76) #[] #[],.func (.func 77) #[] #[]],[(552,VT)],760,.agg #[Qx 780,Qx 470,Qx 0,Qx 0],[],801⟩
theorem ym:QP qv (qv.run YP Xl Xw 100000)=true:=by decide+kernel
def qu:Memo:=
 ⟨98,#[.agg #[.slice (some ⟨552,0,none⟩) 2 12,Qx 200,Qx 2,Qx 0,Qx 0,Qx 0,Qx 0],.agg #[Qx 780,Qx 470,Qx 0,Qx 0],Qx 1,.func (.func 76) #[] #[],.func (.func 77) #[] #[]],[(552,VT)],804,.agg #[Qx 543,Qx 410,Qx 0,Qx 0],[],845⟩
theorem yl:QP qu (qu.run YP Xl Xw 100000)=true:=by decide+kernel
def qA:Memo:=
 ⟨88,#[.slice (some ⟨552,0,none⟩) 2 12,.agg #[Qx 543,Qx 410,Qx 0,Qx 0]],[(552,VT)],845,.tuple #[.agg #[Qx 0,Qx 357],.bool true],[],849⟩
theorem yr:QP qA (qA.drun YP Xl Xw 100000)=true:=by decide+kernel
def qt:Memo:=
 ⟨98,#[.agg #[.slice (some ⟨552,0,none⟩) 2 12,Qx 200,Qx 2,Qx 0,Qx 1,Qx 0,Qx 0],.agg #[Qx 780,Qx 470,Qx 0,Qx 0],Qx 1,.func (.func 76) #[] #[],.func (.func 77) #[] #[]],[(552,VT)],876,.agg #[Qx 793,Qx 410,Qx 0,Qx 0],[],917⟩
theorem yj:QP qt (qt.run YP Xl Xw 100000)=true:=by decide+kernel
def qz:Memo:=
 ⟨88,#[.slice (some ⟨552,0,none⟩) 2 12,.agg #[Qx 793,Qx 410,Qx 0,Qx 0]],[(552,VT)],917,.tuple #[.agg #[Qx 0,Qx 107],.bool true],[],921⟩
theorem yq:QP qz (qz.drun YP Xl Xw 100000)=true:=by decide+kernel
def qq:Memo:=
 ⟨98,#[.agg #[.slice (some ⟨552,0,none⟩) 2 12,Qx 200,Qx 2,Qx 0,Qx 2,Qx 0,Qx 0],.agg #[Qx 780,Qx 470,Qx 0,Qx 0],Qx 1,.func (.func 76) #[] #[],.func (.func 77) #[] #[]],[(552,VT)],948,.agg #[Qx 543,Qx 590,Qx 0,Qx 0],[],989⟩
theorem yi:QP qq (qq.run YP Xl Xw 100000)=true:=by decide+kernel
def qy:Memo:=
 ⟨88,#[.slice (some ⟨552,0,none⟩) 2 12,.agg #[Qx 543,Qx 590,Qx 0,Qx 0]],[(552,VT)],989,.tuple #[.agg #[Qx 0,Qx 357],.bool true],[],993⟩
theorem yp:QP qy (qy.drun YP Xl Xw 100000)=true:=by decide+kernel
def l7:Memo:=
 ⟨98,#[.agg #[.slice (some ⟨552,0,none⟩) 2 12,Qx 200,Qx 2,Qx 0,Qx 3,Qx 0,Qx 0],.agg #[Qx 780,Qx 470,Qx 0,Qx 0],Qx 1,.func (.func 76) #[] #[],.func (.func 77) #[] #[]],[(552,VT)],1020,.agg #[Qx 793,Qx 590,Qx 0,Qx 0],[],1061⟩
theorem uD:QP l7 (l7.run YP Xl Xw 100000)=true:=by decide+kernel
end Go.Proofs.Ytncjjangllkokaa

namespace Go.Proofs.Ytncjjangllkokaa
open Go Go.CE Go.RowKit
noncomputable def gz:Vj:=XQ [qC]
theorem kU(B:Lo):WB YP B gz:=Xa QF Qf (QL _ _) yv (Zg _ _)
def qE:Memo:=
 ⟨35,#[.agg #[.slice (some ⟨383,0,none⟩) 2 12,Qx 200,Qx 2],.slice (some ⟨384,0,none⟩) 2 1],[(384,.cells #[Qx 1,Qx 1] 3 (0,0)),(383,VT)],385,.tuple #[Qx 1,Qx 10,Qx 0],[],545⟩
theorem yx:QP qE (qE.run YP Xl gz 100000)=true:=by decide+kernel
end Go.Proofs.Ytncjjangllkokaa

namespace Go.Proofs.Ytncjjangllkokaa
open Go Go.CE Go.RowKit
def m7:Memo:=
 ⟨88,#[.slice (some ⟨552,0,none⟩) 2 12,.agg #[Qx 793,Qx 590,Qx 0,Qx 0]],[(552,VT)],1061,.tuple #[.agg #[Qx 0,Qx 107],.bool true],[],1065⟩
theorem vC:QP m7 (m7.drun YP Xl Xw 100000)=true:=by decide+kernel
def l6:Memo:=
 ⟨98,#[.agg #[.slice (some ⟨552,0,none⟩) 2 12,Qx 200,Qx 2,Qx 1,Qx 0,Qx 0,Qx 0],.agg #[Qx 1000,Qx 500,Qx 0,Qx 0],Qx 0,.func (.func 76) #[] #[],.func (.func 77) #[] #[]],[(552,VT)],1112,.agg #[Qx 1030,Qx 470,Qx 0,Qx 0],[],1153⟩
theorem uC:QP l6 (l6.run YP Xl Xw 100000)=true:=by decide+kernel
def l5:Memo:=
 ⟨98,#[.agg #[.slice (some ⟨552,0,none⟩) 2 12,Qx 200,Qx 2,Qx 1,Qx 0,Qx 0,Qx 0],.agg #[Qx 1030,Qx 470,Qx 0,Qx 0],Qx 1,.func (.func 76) #[] #[],.func (.func 77) #[] #[]],[(552,VT)],1156,.agg #[Qx 813,Qx 440,Qx 0,Qx 0],[],1197⟩
theorem uB:QP l5 (l5.run YP Xl Xw 100000)=true:=by decide+kernel
def m6:Memo:=
 ⟨88,#[.slice (some ⟨552,0,none⟩) 2 12,.agg #[Qx 813,Qx 440,Qx 0,Qx 0]],[(552,VT)],1197,.tuple #[.agg #[Qx 0,Qx 87],.bool true],[],1201⟩
theorem vB:QP m6 (m6.drun YP Xl Xw 100000)=true:=by decide+kernel
def lz:Memo:=
 ⟨98,#[.agg #[.slice (some ⟨552,0,none⟩) 2 12,Qx 200,Qx 2,Qx 1,Qx 1,Qx 0,Qx 0],.agg #[Qx 1030,Qx 470,Qx 0,Qx 0],Qx 1,.func (.func 76) #[] #[],.func (.func 77) #[] #[]],[(552,VT)],1228,.agg #[Qx 1063,Qx 440,Qx 0,Qx 0],[],1269⟩
theorem uA:QP lz (lz.run YP Xl Xw 100000)=true:=by decide+kernel
def m5:Memo:=
 ⟨88,#[.slice (some ⟨552,0,none⟩) 2 12,.agg #[Qx 1063,Qx 440,Qx 0,Qx 0]],[(552,VT)],1269,.tuple #[.agg #[Qx 1,Qx 10],.bool true],[],1274⟩
theorem vA:QP m5 (m5.drun YP Xl Xw 100000)=true:=by decide+kernel
def ly:Memo:=
 ⟨98,#[.agg #[.slice (some ⟨552,0,none⟩) 2 12,Qx 200,Qx 2,Qx 1,Qx 2,Qx 0,Qx 0],.agg #[Qx 1030,Qx 470,Qx 0,Qx 0],Qx 1,.func (.func 76) #[] #[],.func (.func 77) #[] #[]],[(552,VT)],1301,.agg #[Qx 813,Qx 620,Qx 0,Qx 0],[],1342⟩
theorem u9:QP ly (ly.run YP Xl Xw 100000)=true:=by decide+kernel
def m4:Memo:=
 ⟨88,#[.slice (some ⟨552,0,none⟩) 2 12,.agg #[Qx 813,Qx 620,Qx 0,Qx 0]],[(552,VT)],1342,.tuple #[.agg #[Qx 0,Qx 87],.bool true],[],1346⟩
theorem v9:QP m4 (m4.drun YP Xl Xw 100000)=true:=by decide+kernel
def lx:Memo:=
 ⟨98,#[.agg #[.slice (some ⟨552,0,none⟩) 2 12,Qx 200,Qx 2,Qx 1,Qx 3,Qx 0,Qx 0],.agg #[Qx 1030,Qx 470,Qx 0,Qx 0],Qx 1,.func (.func 76) #[] #[],.func (.func 77) #[] #[]],[(552,VT)],1373,.agg #[Qx 1063,Qx 620,Qx 0,Qx 0],[],1414⟩
theorem u7:QP lx (lx.run YP Xl Xw 100000)=true:=by decide+kernel
def mz:Memo:=
 ⟨88,#[.slice (some ⟨552,0,none⟩) 2 12,.agg #[Qx 1063,Qx 620,Qx 0,Qx 0]],[(552,VT)],1414,.tuple #[.agg #[Qx 0,Qx 0],.bool false],[],1419⟩
theorem v8:QP mz (mz.drun YP Xl Xw 100000)=true:=by decide+kernel
def lv:Memo:=
 ⟨98,#[.agg #[.slice (some ⟨552,0,none⟩) 2 12,Qx 200,Qx 2,Qx 2,Qx 0,Qx 0,Qx 0],.agg #[Qx 1000,Qx 500,Qx 0,Qx 0],Qx 0,.func (.func 76) #[] #[],.func (.func 77) #[] #[]],[(552,VT)],1486,.agg #[Qx 780,Qx 650,Qx 0,Qx 0],[],1527⟩
theorem u6:QP lv (lv.run YP Xl Xw 100000)=true:=by decide+kernel
def lu:Memo:=
 ⟨98,#[.agg #[.slice (some ⟨552,0,none⟩) 2 12,Qx 200,Qx 2,Qx 2,Qx 0,Qx 0,Qx 0],.agg #[Qx 780,Qx 650,Qx 0,Qx 0],Qx 1,.func (.func 76) #[] #[],.func (.func 77) #[] #[]],[(552,VT)],1530,.agg #[Qx 543,Qx 608,Qx 0,Qx 0],[],1571⟩
theorem u5:QP lu (lu.run YP Xl Xw 100000)=true:=by decide+kernel
def my:Memo:=
 ⟨88,#[.slice (some ⟨552,0,none⟩) 2 12,.agg #[Qx 543,Qx 608,Qx 0,Qx 0]],[(552,VT)],1571,.tuple #[.agg #[Qx 0,Qx 357],.bool true],[],1575⟩
theorem v7:QP my (my.drun YP Xl Xw 100000)=true:=by decide+kernel
def lr:Memo:=
 ⟨98,#[.agg #[.slice (some ⟨552,0,none⟩) 2 12,Qx 200,Qx 2,Qx 2,Qx 1,Qx 0,Qx 0],.agg #[Qx 780,Qx 650,Qx 0,Qx 0],Qx 1,.func (.func 76) #[] #[],.func (.func 77) #[] #[]],[(552,VT)],1622,.agg #[Qx 793,Qx 608,Qx 0,Qx 0],[],1663⟩
theorem u4:QP lr (lr.run YP Xl Xw 100000)=true:=by decide+kernel
end Go.Proofs.Ytncjjangllkokaa

namespace Go.Proofs.Ytncjjangllkokaa
open Go Go.CE Go.RowKit
def mw:Memo:=
 ⟨88,#[.slice (some ⟨552,0,none⟩) 2 12,.agg #[Qx 793,Qx 608,Qx 0,Qx 0]],[(552,VT)],1663,.tuple #[.agg #[Qx 0,Qx 107],.bool true],[],1667⟩
theorem v5:QP mw (mw.drun YP Xl Xw 100000)=true:=by decide+kernel
def lq:Memo:=
 ⟨98,#[.agg #[.slice (some ⟨552,0,none⟩) 2 12,Qx 200,Qx 2,Qx 2,Qx 2,Qx 0,Qx 0],.agg #[Qx 780,Qx 650,Qx 0,Qx 0],Qx 1,.func (.func 76) #[] #[],.func (.func 77) #[] #[]],[(552,VT)],1714,.agg #[Qx 543,Qx 788,Qx 0,Qx 0],[],1755⟩
theorem u3:QP lq (lq.run YP Xl Xw 100000)=true:=by decide+kernel
def mr:Memo:=
 ⟨88,#[.slice (some ⟨552,0,none⟩) 2 12,.agg #[Qx 543,Qx 788,Qx 0,Qx 0]],[(552,VT)],1755,.tuple #[.agg #[Qx 0,Qx 357],.bool true],[],1759⟩
theorem v3:QP mr (mr.drun YP Xl Xw 100000)=true:=by decide+kernel
def lp:Memo:=
 ⟨98,#[.agg #[.slice (some ⟨552,0,none⟩) 2 12,Qx 200,Qx 2,Qx 2,Qx 3,Qx 0,Qx 0],.agg #[Qx 780,Qx 650,Qx 0,Qx 0],Qx 1,.func (.func 76) #[] #[],.func (.func 77) #[] #[]],[(552,VT)],1806,.agg #[Qx 793,Qx 788,Qx 0,Qx 0],[],1847⟩
theorem u0:QP lp (lp.run YP Xl Xw 100000)=true:=by decide+kernel
def mq:Memo:=
 ⟨88,#[.slice (some ⟨552,0,none⟩) 2 12,.agg #[Qx 793,Qx 788,Qx 0,Qx 0]],[(552,VT)],1847,.tuple #[.agg #[Qx 0,Qx 107],.bool true],[],1851⟩
theorem vz:QP mq (mq.drun YP Xl Xw 100000)=true:=by decide+kernel
def ll:Memo:=
 ⟨98,#[.agg #[.slice (some ⟨552,0,none⟩) 2 12,Qx 200,Qx 2,Qx 3,Qx 0,Qx 0,Qx 0],.agg #[Qx 1030,Qx 650,Qx 0,Qx 0],Qx 1,.func (.func 76) #[] #[],.func (.func 77) #[] #[]],[(552,VT)],1898,.agg #[Qx 813,Qx 638,Qx 0,Qx 0],[],1939⟩
theorem uz:QP ll (ll.run YP Xl Xw 100000)=true:=by decide+kernel
def mo:Memo:=
 ⟨88,#[.slice (some ⟨552,0,none⟩) 2 12,.agg #[Qx 813,Qx 638,Qx 0,Qx 0]],[(552,VT)],1939,.tuple #[.agg #[Qx 0,Qx 87],.bool true],[],1943⟩
theorem vy:QP mo (mo.drun YP Xl Xw 100000)=true:=by decide+kernel
def lk:Memo:=
 ⟨98,#[.agg #[.slice (some ⟨552,0,none⟩) 2 12,Qx 200,Qx 2,Qx 3,Qx 2,Qx 0,Qx 0],.agg #[Qx 1030,Qx 650,Qx 0,Qx 0],Qx 1,.func (.func 76) #[] #[],.func (.func 77) #[] #[]],[(552,VT)],2014,.agg #[Qx 813,Qx 818,Qx 0,Qx 0],[],2055⟩
theorem uy:QP lk (lk.run YP Xl Xw 100000)=true:=by decide+kernel
def mn:Memo:=
 ⟨88,#[.slice (some ⟨552,0,none⟩) 2 12,.agg #[Qx 813,Qx 818,Qx 0,Qx 0]],[(552,VT)],2055,.tuple #[.agg #[Qx 0,Qx 87],.bool true],[],2059⟩
theorem vx:QP mn (mn.drun YP Xl Xw 100000)=true:=by decide+kernel
def mm:Memo:=
 ⟨88,#[.slice (some ⟨2134,0,none⟩) 2 12,.agg #[Qx 1063,Qx 440,Qx 0,Qx 0]],[(2134,VT)],2266,.tuple #[.agg #[Qx 1,Qx 10],.bool true],[],2271⟩
theorem vw:QP mm (mm.drun YP Xl Xw 100000)=true:=by decide+kernel
def ml:Memo:=
 ⟨88,#[.slice (some ⟨2274,0,none⟩) 2 12,.agg #[Qx 1063,Qx 440,Qx 0,Qx 0]],[(2274,VT)],2406,.tuple #[.agg #[Qx 1,Qx 10],.bool true],[],2411⟩
theorem vv:QP ml (ml.drun YP Xl Xw 100000)=true:=by decide+kernel
def mj:Memo:=
 ⟨88,#[.slice (some ⟨2414,0,none⟩) 2 12,.agg #[Qx 1063,Qx 440,Qx 0,Qx 0]],[(2414,VT)],2546,.tuple #[.agg #[Qx 1,Qx 10],.bool true],[],2551⟩
theorem vu:QP mj (mj.drun YP Xl Xw 100000)=true:=by decide+kernel
def mi:Memo:=
 ⟨88,#[.slice (some ⟨2554,0,none⟩) 2 12,.agg #[Qx 1063,Qx 440,Qx 0,Qx 0]],[(2554,VT)],2686,.tuple #[.agg #[Qx 1,Qx 10],.bool true],[],2691⟩
theorem vt:QP mi (mi.drun YP Xl Xw 100000)=true:=by decide+kernel
def mh:Memo:=
 ⟨88,#[.slice (some ⟨2694,0,none⟩) 2 12,.agg #[Qx 1063,Qx 440,Qx 0,Qx 0]],[(2694,VT)],2826,.tuple #[.agg #[Qx 1,Qx 10],.bool true],[],2831⟩
theorem vq:QP mh (mh.drun YP Xl Xw 100000)=true:=by decide+kernel
end Go.Proofs.Ytncjjangllkokaa

namespace Go.Proofs.Ytncjjangllkokaa
open Go Go.CE Go.RowKit
noncomputable def gy:Vj:=XQ [qx,qw,qB,qv,qu,qA,qt,qz,qq,qy,l7,m7,l6,l5,m6,lz,m5,ly,m4,lx,mz,lv,lu,my,lr,mw,lq,mr,lp,mq,ll,mo,lk,mn]
theorem kT(B:Lo):WB YP B gy:=QY QF Qf (QL _ _) yo (QY QF Qf (QL _ _) yn (Xa QF Qf (QL _ _) yu (QY QF Qf (QL _ _) ym (QY QF Qf (QL _ _) yl (Xa QF Qf (QL _ _) yr (QY QF Qf (QL _ _) yj (Xa QF Qf (QL _ _) yq (QY QF Qf (QL _ _) yi (Xa QF Qf (QL _ _) yp (QY QF Qf (QL _ _) uD (Xa QF Qf (QL _ _) vC (QY QF Qf (QL _ _) uC (QY QF Qf (QL _ _) uB (Xa QF Qf (QL _ _) vB (QY QF Qf (QL _ _) uA (Xa QF Qf (QL _ _) vA (QY QF Qf (QL _ _) u9 (Xa QF Qf (QL _ _) v9 (QY QF Qf (QL _ _) u7 (Xa QF Qf (QL _ _) v8 (QY QF Qf (QL _ _) u6 (QY QF Qf (QL _ _) u5 (Xa QF Qf (QL _ _) v7 (QY QF Qf (QL _ _) u4 (Xa QF Qf (QL _ _) v5 (QY QF Qf (QL _ _) u3 (Xa QF Qf (QL _ _) v3 (QY QF Qf (QL _ _) u0 (Xa QF Qf (QL _ _) vz (QY QF Qf (QL _ _) uz (Xa QF Qf (QL _ _) vy (QY QF Qf (QL _ _) uy (Xa QF Qf (QL _ _) vx (Zg _ _))))))))))))))))))))))))))))))))))
def qD:Memo:=
 ⟨37,#[.agg #[.slice (some ⟨552,0,none⟩) 2 12,Qx 200,Qx 2]],[(552,VT)],553,.tuple #[.slice (some ⟨2086,0,none⟩) 2 1,Qx 26,Qx 0],[(2086,.cells #[Qx 1,Qx 3] 3 (0,0))],2097⟩
theorem yw:QP qD (qD.run YP Xl gy 100000)=true:=by decide+kernel
end Go.Proofs.Ytncjjangllkokaa

namespace Go.Proofs.Ytncjjangllkokaa
open Go Go.CE Go.RowKit
def mg:Memo:=
 ⟨88,#[.slice (some ⟨2834,0,none⟩) 2 12,.agg #[Qx 1063,Qx 440,Qx 0,Qx 0]],[(2834,VT)],2966,.tuple #[.agg #[Qx 1,Qx 10],.bool true],[],2971⟩
theorem vp:QP mg (mg.drun YP Xl Xw 100000)=true:=by decide+kernel
def mf:Memo:=
 ⟨88,#[.slice (some ⟨2974,0,none⟩) 2 12,.agg #[Qx 1063,Qx 440,Qx 0,Qx 0]],[(2974,VT)],3106,.tuple #[.agg #[Qx 1,Qx 10],.bool true],[],3111⟩
theorem vo:QP mf (mf.drun YP Xl Xw 100000)=true:=by decide+kernel
def me:Memo:=
 ⟨88,#[.slice (some ⟨3114,0,none⟩) 2 12,.agg #[Qx 1063,Qx 440,Qx 0,Qx 0]],[(3114,VT)],3246,.tuple #[.agg #[Qx 1,Qx 10],.bool true],[],3251⟩
theorem vn:QP me (me.drun YP Xl Xw 100000)=true:=by decide+kernel
def md:Memo:=
 ⟨88,#[.slice (some ⟨3254,0,none⟩) 2 12,.agg #[Qx 1063,Qx 440,Qx 0,Qx 0]],[(3254,VT)],3386,.tuple #[.agg #[Qx 1,Qx 10],.bool true],[],3391⟩
theorem vm:QP md (md.drun YP Xl Xw 100000)=true:=by decide+kernel
def mc:Memo:=
 ⟨88,#[.slice (some ⟨3394,0,none⟩) 2 12,.agg #[Qx 1063,Qx 440,Qx 0,Qx 0]],[(3394,VT)],3526,.tuple #[.agg #[Qx 1,Qx 10],.bool true],[],3531⟩
theorem vl:QP mc (mc.drun YP Xl Xw 100000)=true:=by decide+kernel
def mb:Memo:=
 ⟨88,#[.slice (some ⟨3534,0,none⟩) 2 12,.agg #[Qx 1063,Qx 440,Qx 0,Qx 0]],[(3534,VT)],3666,.tuple #[.agg #[Qx 1,Qx 10],.bool true],[],3671⟩
theorem vk:QP mb (mb.drun YP Xl Xw 100000)=true:=by decide+kernel
def ma:Memo:=
 ⟨88,#[.slice (some ⟨3674,0,none⟩) 2 12,.agg #[Qx 1063,Qx 440,Qx 0,Qx 0]],[(3674,VT)],3806,.tuple #[.agg #[Qx 1,Qx 10],.bool true],[],3811⟩
theorem vj:QP ma (ma.drun YP Xl Xw 100000)=true:=by decide+kernel
def lZ:Memo:=
 ⟨88,#[.slice (some ⟨3814,0,none⟩) 2 12,.agg #[Qx 1063,Qx 603,Qx 0,Qx 0]],[(3814,NA)],3946,.tuple #[.agg #[Qx 0,Qx 0],.bool false],[],3951⟩
theorem vi:QP lZ (lZ.drun YP Xl Xw 100000)=true:=by decide+kernel
def lY:Memo:=
 ⟨88,#[.slice (some ⟨3954,0,none⟩) 2 12,.agg #[Qx 1063,Qx 475,Qx 0,Qx 0]],[(3954,N9)],4086,.tuple #[.agg #[Qx 0,Qx 0],.bool false],[],4091⟩
theorem vh:QP lY (lY.drun YP Xl Xw 100000)=true:=by decide+kernel
def lX:Memo:=
 ⟨88,#[.slice (some ⟨4094,0,none⟩) 2 12,.agg #[Qx 1063,Qx 440,Qx 0,Qx 0]],[(4094,VT)],4226,.tuple #[.agg #[Qx 1,Qx 10],.bool true],[],4231⟩
theorem vg:QP lX (lX.drun YP Xl Xw 100000)=true:=by decide+kernel
def lW:Memo:=
 ⟨88,#[.slice (some ⟨4234,0,none⟩) 2 12,.agg #[Qx 1063,Qx 442,Qx 0,Qx 0]],[(4234,N8)],4366,.tuple #[.agg #[Qx 1,Qx 8],.bool true],[],4371⟩
theorem vf:QP lW (lW.drun YP Xl Xw 100000)=true:=by decide+kernel
def lV:Memo:=
 ⟨88,#[.slice (some ⟨4374,0,none⟩) 2 12,.agg #[Qx 1063,Qx 458,Qx 0,Qx 0]],[(4374,N7)],4506,.tuple #[.agg #[Qx 0,Qx 0],.bool false],[],4511⟩
theorem vd:QP lV (lV.drun YP Xl Xw 100000)=true:=by decide+kernel
def lU:Memo:=
 ⟨88,#[.slice (some ⟨4514,0,none⟩) 2 12,.agg #[Qx 1063,Qx 450,Qx 0,Qx 0]],[(4514,N6)],4646,.tuple #[.agg #[Qx 0,Qx 0],.bool false],[],4651⟩
theorem va:QP lU (lU.drun YP Xl Xw 100000)=true:=by decide+kernel
def lT:Memo:=
 ⟨88,#[.slice (some ⟨4654,0,none⟩) 2 12,.agg #[Qx 1063,Qx 446,Qx 0,Qx 0]],[(4654,N5)],4786,.tuple #[.agg #[Qx 1,Qx 4],.bool true],[],4791⟩
theorem uZ:QP lT (lT.drun YP Xl Xw 100000)=true:=by decide+kernel
end Go.Proofs.Ytncjjangllkokaa

namespace Go.Proofs.Ytncjjangllkokaa
open Go Go.CE Go.RowKit
noncomputable section
def dA:Vj:=XQ [mm]
theorem il(B:Lo):WB YP B dA:=Xa QF Qf (QL _ _) vw (Zg _ _)
def lR:Memo:=
 ⟨93,#[Qx 500000,.pointer (some ⟨2130,0,none⟩),.pointer (some ⟨2131,0,none⟩)],[(2104,VT),(2131,.cells #[Qx 1] 3 (0,0)),(2130,pj)],2132,.bool true,[],2272⟩
theorem uX:QP lR (lR.run YP Xl dA 100000)=true:=by decide+kernel
def dz:Vj:=XQ [ml]
theorem ik(B:Lo):WB YP B dz:=Xa QF Qf (QL _ _) vv (Zg _ _)
def lQ:Memo:=
 ⟨93,#[Qx 250000,.pointer (some ⟨2130,0,none⟩),.pointer (some ⟨2131,0,none⟩)],[(2104,VT),(2131,.cells #[Qx 1] 3 (0,0)),(2130,pj)],2272,.bool true,[],2412⟩
theorem uW:QP lQ (lQ.run YP Xl dz 100000)=true:=by decide+kernel
def dy:Vj:=XQ [mj]
theorem ij(B:Lo):WB YP B dy:=Xa QF Qf (QL _ _) vu (Zg _ _)
def lP:Memo:=
 ⟨93,#[Qx 125000,.pointer (some ⟨2130,0,none⟩),.pointer (some ⟨2131,0,none⟩)],[(2104,VT),(2131,.cells #[Qx 1] 3 (0,0)),(2130,pj)],2412,.bool true,[],2552⟩
theorem uV:QP lP (lP.run YP Xl dy 100000)=true:=by decide+kernel
def dx:Vj:=XQ [mi]
theorem ig(B:Lo):WB YP B dx:=Xa QF Qf (QL _ _) vt (Zg _ _)
def lO:Memo:=
 ⟨93,#[Qx 62500,.pointer (some ⟨2130,0,none⟩),.pointer (some ⟨2131,0,none⟩)],[(2104,VT),(2131,.cells #[Qx 1] 3 (0,0)),(2130,pj)],2552,.bool true,[],2692⟩
theorem uU:QP lO (lO.run YP Xl dx 100000)=true:=by decide+kernel
def dw:Vj:=XQ [mh]
theorem ic(B:Lo):WB YP B dw:=Xa QF Qf (QL _ _) vq (Zg _ _)
def lN:Memo:=
 ⟨93,#[Qx 31250,.pointer (some ⟨2130,0,none⟩),.pointer (some ⟨2131,0,none⟩)],[(2104,VT),(2131,.cells #[Qx 1] 3 (0,0)),(2130,pj)],2692,.bool true,[],2832⟩
theorem uT:QP lN (lN.run YP Xl dw 100000)=true:=by decide+kernel
def dv:Vj:=XQ [mg]
theorem ib(B:Lo):WB YP B dv:=Xa QF Qf (QL _ _) vp (Zg _ _)
def lM:Memo:=
 ⟨93,#[Qx 15625,.pointer (some ⟨2130,0,none⟩),.pointer (some ⟨2131,0,none⟩)],[(2104,VT),(2131,.cells #[Qx 1] 3 (0,0)),(2130,pj)],2832,.bool true,[],2972⟩
theorem uS:QP lM (lM.run YP Xl dv 100000)=true:=by decide+kernel
def du:Vj:=XQ [mf]
theorem ia(B:Lo):WB YP B du:=Xa QF Qf (QL _ _) vo (Zg _ _)
def lL:Memo:=
 ⟨93,#[Qx 7812,.pointer (some ⟨2130,0,none⟩),.pointer (some ⟨2131,0,none⟩)],[(2104,VT),(2131,.cells #[Qx 1] 3 (0,0)),(2130,pj)],2972,.bool true,[],3112⟩
theorem uR:QP lL (lL.run YP Xl du 100000)=true:=by decide+kernel
def dt:Vj:=XQ [me]
theorem hZ(B:Lo):WB YP B dt:=Xa QF Qf (QL _ _) vn (Zg _ _)
def lK:Memo:=
 ⟨93,#[Qx 3906,.pointer (some ⟨2130,0,none⟩),.pointer (some ⟨2131,0,none⟩)],[(2104,VT),(2131,.cells #[Qx 1] 3 (0,0)),(2130,pj)],3112,.bool true,[],3252⟩
theorem uQ:QP lK (lK.run YP Xl dt 100000)=true:=by decide+kernel
def dq:Vj:=XQ [md]
theorem hY(B:Lo):WB YP B dq:=Xa QF Qf (QL _ _) vm (Zg _ _)
def lJ:Memo:=
 ⟨93,#[Qx 1953,.pointer (some ⟨2130,0,none⟩),.pointer (some ⟨2131,0,none⟩)],[(2104,VT),(2131,.cells #[Qx 1] 3 (0,0)),(2130,pj)],3252,.bool true,[],3392⟩
theorem uP:QP lJ (lJ.run YP Xl dq 100000)=true:=by decide+kernel
def dp:Vj:=XQ [mc]
theorem hQ(B:Lo):WB YP B dp:=Xa QF Qf (QL _ _) vl (Zg _ _)
def lI:Memo:=
 ⟨93,#[Qx 976,.pointer (some ⟨2130,0,none⟩),.pointer (some ⟨2131,0,none⟩)],[(2104,VT),(2131,.cells #[Qx 1] 3 (0,0)),(2130,pj)],3392,.bool true,[],3532⟩
theorem uO:QP lI (lI.run YP Xl dp 100000)=true:=by decide+kernel
def dn:Vj:=XQ [mb]
theorem hO(B:Lo):WB YP B dn:=Xa QF Qf (QL _ _) vk (Zg _ _)
def lH:Memo:=
 ⟨93,#[Qx 488,.pointer (some ⟨2130,0,none⟩),.pointer (some ⟨2131,0,none⟩)],[(2104,VT),(2131,.cells #[Qx 1] 3 (0,0)),(2130,pj)],3532,.bool true,[],3672⟩
theorem uN:QP lH (lH.run YP Xl dn 100000)=true:=by decide+kernel
def dm:Vj:=XQ [ma]
theorem hC(B:Lo):WB YP B dm:=Xa QF Qf (QL _ _) vj (Zg _ _)
def lG:Memo:=
 ⟨93,#[Qx 244,.pointer (some ⟨2130,0,none⟩),.pointer (some ⟨2131,0,none⟩)],[(2104,VT),(2131,.cells #[Qx 1] 3 (0,0)),(2130,pj)],3672,.bool true,[],3812⟩
theorem uM:QP lG (lG.run YP Xl dm 100000)=true:=by decide+kernel
def dj:Vj:=XQ [lZ]
theorem h8(B:Lo):WB YP B dj:=Xa QF Qf (QL _ _) vi (Zg _ _)
def lF:Memo:=
 ⟨93,#[Qx 122,.pointer (some ⟨2130,0,none⟩),.pointer (some ⟨2131,0,none⟩)],[(2104,VT),(2131,.cells #[Qx 1] 3 (0,0)),(2130,pj)],3812,.bool false,[],3952⟩
theorem uL:QP lF (lF.run YP Xl dj 100000)=true:=by decide+kernel
def di:Vj:=XQ [lY]
theorem gZ(B:Lo):WB YP B di:=Xa QF Qf (QL _ _) vh (Zg _ _)
def lE:Memo:=
 ⟨93,#[Qx 183,.pointer (some ⟨2130,0,none⟩),.pointer (some ⟨2131,0,none⟩)],[(2104,VT),(2131,.cells #[Qx 1] 3 (0,0)),(2130,pj)],3952,.bool false,[],4092⟩
theorem uK:QP lE (lE.run YP Xl di 100000)=true:=by decide+kernel
end
end Go.Proofs.Ytncjjangllkokaa

namespace Go.Proofs.Ytncjjangllkokaa
open Go Go.CE Go.RowKit
def lS:Memo:=
 ⟨88,#[.slice (some ⟨4794,0,none⟩) 2 12,.agg #[Qx 1063,Qx 448,Qx 0,Qx 0]],[(4794,N4)],4926,.tuple #[.agg #[Qx 1,Qx 2],.bool true],[],4931⟩
theorem uY:QP lS (lS.drun YP Xl Xw 100000)=true:=by decide+kernel
end Go.Proofs.Ytncjjangllkokaa

namespace Go.Proofs.Ytncjjangllkokaa
open Go Go.CE Go.RowKit
noncomputable section
def dh:Vj:=XQ [lX]
theorem gY(B:Lo):WB YP B dh:=Xa QF Qf (QL _ _) vg (Zg _ _)
def lD:Memo:=
 ⟨93,#[Qx 214,.pointer (some ⟨2130,0,none⟩),.pointer (some ⟨2131,0,none⟩)],[(2104,VT),(2131,.cells #[Qx 1] 3 (0,0)),(2130,pj)],4092,.bool true,[],4232⟩
theorem uJ:QP lD (lD.run YP Xl dh 100000)=true:=by decide+kernel
def dg:Vj:=XQ [lW]
theorem gX(B:Lo):WB YP B dg:=Xa QF Qf (QL _ _) vf (Zg _ _)
def lC:Memo:=
 ⟨93,#[Qx 199,.pointer (some ⟨2130,0,none⟩),.pointer (some ⟨2131,0,none⟩)],[(2104,VT),(2131,.cells #[Qx 1] 3 (0,0)),(2130,pj)],4232,.bool true,[],4372⟩
theorem uI:QP lC (lC.run YP Xl dg 100000)=true:=by decide+kernel
def de:Vj:=XQ [lV]
theorem gW(B:Lo):WB YP B de:=Xa QF Qf (QL _ _) vd (Zg _ _)
def lB:Memo:=
 ⟨93,#[Qx 191,.pointer (some ⟨2130,0,none⟩),.pointer (some ⟨2131,0,none⟩)],[(2104,VT),(2131,.cells #[Qx 1] 3 (0,0)),(2130,pj)],4372,.bool false,[],4512⟩
theorem uH:QP lB (lB.run YP Xl de 100000)=true:=by decide+kernel
def dd:Vj:=XQ [lU]
theorem gU(B:Lo):WB YP B dd:=Xa QF Qf (QL _ _) va (Zg _ _)
def lA:Memo:=
 ⟨93,#[Qx 195,.pointer (some ⟨2130,0,none⟩),.pointer (some ⟨2131,0,none⟩)],[(2104,VT),(2131,.cells #[Qx 1] 3 (0,0)),(2130,pj)],4512,.bool false,[],4652⟩
theorem uG:QP lA (lA.run YP Xl dd 100000)=true:=by decide+kernel
def dc:Vj:=XQ [lT]
theorem gT(B:Lo):WB YP B dc:=Xa QF Qf (QL _ _) uZ (Zg _ _)
def l9:Memo:=
 ⟨93,#[Qx 197,.pointer (some ⟨2130,0,none⟩),.pointer (some ⟨2131,0,none⟩)],[(2104,VT),(2131,.cells #[Qx 1] 3 (0,0)),(2130,pj)],4652,.bool true,[],4792⟩
theorem uF:QP l9 (l9.run YP Xl dc 100000)=true:=by decide+kernel
def db:Vj:=XQ [lS]
theorem gS(B:Lo):WB YP B db:=Xa QF Qf (QL _ _) uY (Zg _ _)
def l8:Memo:=
 ⟨93,#[Qx 196,.pointer (some ⟨2130,0,none⟩),.pointer (some ⟨2131,0,none⟩)],[(2104,VT),(2131,.cells #[Qx 1] 3 (0,0)),(2130,pj)],4792,.bool true,[],4932⟩
theorem uE:QP l8 (l8.run YP Xl db 100000)=true:=by decide+kernel
end
end Go.Proofs.Ytncjjangllkokaa

namespace Go.Proofs.Ytncjjangllkokaa
open Go Go.CE Go.RowKit
noncomputable def dB:Vj:=XQ [lR,lQ,lP,lO,lN,lM,lL,lK,lJ,lI,lH,lG,lF,lE,lD,lC,lB,lA,l9,l8]
theorem iq(B:Lo):WB YP B dB:=QY QF Qf (il _) uX (QY QF Qf (ik _) uW (QY QF Qf (ij _) uV (QY QF Qf (ig _) uU (QY QF Qf (ic _) uT (QY QF Qf (ib _) uS (QY QF Qf (ia _) uR (QY QF Qf (hZ _) uQ (QY QF Qf (hY _) uP (QY QF Qf (hQ _) uO (QY QF Qf (hO _) uN (QY QF Qf (hC _) uM (QY QF Qf (h8 _) uL (QY QF Qf (gZ _) uK (QY QF Qf (gY _) uJ (QY QF Qf (gX _) uI (QY QF Qf (gW _) uH (QY QF Qf (gU _) uG (QY QF Qf (gT _) uF (QY QF Qf (gS _) uE (Zg _ _))))))))))))))))))))
def m8:Memo:=
 ⟨43,#[.agg #[.slice (some ⟨2104,0,none⟩) 2 12,Qx 200,Qx 2],.slice (some ⟨2105,0,none⟩) 2 1,Qx 1],[(2105,.cells #[Qx 1,Qx 1] 3 (0,0)),(2104,VT)],2106,.tuple #[Qx 195,Qx 0],[],4932⟩
theorem vD:QP m8 (m8.run YP Xl dB 100000)=true:=by decide+kernel
end Go.Proofs.Ytncjjangllkokaa

namespace Go.Proofs.Ytncjjangllkokaa
open Go Go.CE Go.RowKit
noncomputable def EU:Vj:=XQ [yy,qF,qE,qD,m8]
theorem BJ(B:Lo):WB YP B EU:=QY QF Qf (QL _ _) BO (QY QF Qf (QL _ _) yz (QY QF Qf (kU _) yx (QY QF Qf (kT _) yw (QY QF Qf (iq _) vD (Zg _ _)))))
theorem BW:zG (nc YP Xl EU 100000 16 #[] (P5 0 []) ([]:List (Array Value×TypeId)).length) (.bool true) []=true:=by decide+kernel
theorem y7(w:World):Calls YP 16 #[] w fun e w'=>e=.returned (.bool true)/\Below w.heap.size w w':=by
 have hc:=Ch QF Qf (at':=[]) (args':=#[]) BW (w:=w) (I:=fun _=>True) (hI:=fun _ _ _ _=>trivial) (BJ _) trivial rfl (fun i x a h=>by simp at h) ⟨rfl,fun i v v' h=>by simp at h⟩;intro cs;obtain⟨e,w',fr,⟨v',n',H',μ',he,hp,hv,hb,hun,Sx⟩,h1,h2,h3⟩:=hc cs;exact⟨e,w',fr,⟨by rw[he,RA rfl hv],Sx⟩,h1,h2,h3⟩
theorem known:Q4 YP J0 16 #[] (.bool true):=fun fm w args' _ _ ha=>by
 have e:args'=#[]:=by exact On ha.1.symm
 subst e;exact(y7 w).mono fun _ _ h=>⟨_,h.1,h.2,.simple rfl⟩
end Go.Proofs.Ytncjjangllkokaa

namespace Go.Proofs.Ytncjjangllkokaa
open Go Go.CE Go.RowKit
set_option maxRecDepth 100000
end Go.Proofs.Ytncjjangllkokaa

namespace Go.Proofs.Ytncjjangllkokaa
open Go Go.CE Go.RowKit
def pC:Sh:=Nm [.int,.int]
def zo:Sh:=Nm [.int,.int,pC,.int,.int,pC,pC,.int,.int]
def jx:Sh:=Nm [.slice zo,.int,.int]
theorem mZ{cs:List Value}(h:pC.ok cs):∃s:Span,cs=QW s:=by
 obtain⟨_,_,rfl,⟨a,_,rfl⟩,_,_,rfl,⟨b,_,rfl⟩,rfl⟩:=h;exact⟨⟨a,b⟩,rfl⟩
theorem Cf{cs:List Value}(h:zo.ok cs):∃s:Qd,cs=Qk s:=by
 obtain⟨_,_,rfl,⟨a,_,rfl⟩,_,_,rfl,⟨b,_,rfl⟩,_,_,rfl,h3,_,_,rfl,⟨d,_,rfl⟩,_,_,rfl,⟨e,_,rfl⟩,_,_,rfl,h6,_,_,rfl,h7,_,_,rfl,⟨g,_,rfl⟩,_,_,rfl,⟨w,_,rfl⟩,rfl⟩:=h;obtain⟨x,rfl⟩:=mZ h3;obtain⟨y,rfl⟩:=mZ h6;obtain⟨z,rfl⟩:=mZ h7;exact⟨⟨a,b,x.lo,x.hi,d,e,y.lo,y.hi,z.lo,z.hi,g,w⟩,rfl⟩
theorem Gr{v:Value}(h:jx.arg v):∃r:Qe,v=.agg (Qz r).toArray:=by
 obtain⟨cs,rfl,h⟩:=h;obtain⟨_,_,rfl,h1,_,_,rfl,⟨m,_,rfl⟩,_,_,rfl,⟨n,_,rfl⟩,rfl⟩:=h;obtain⟨xs,rfl⟩:=su (fun _=>Cf) h1;exact⟨⟨xs,m,n⟩,rfl⟩
theorem FX{cs:List Value}(h:Sh.ok (.slice .int) cs):∃xs:List Int,cs=X5 xs:=su (fun _=>Lm) h
theorem Gs{v:Value}(h:Sh.arg (.slice .int) v):∃xs:List Int,v=XJ xs:=by
 obtain⟨xs,hx⟩:=FX (show Sh.ok (.slice .int) [v]from h);exact⟨xs,by simpa using hx⟩
theorem I7{v:Value}(h:Sh.arg .int v):∃z:Int,v=.int .i64 z:=by
 obtain⟨z,_,h⟩:=h;exact⟨z,by simpa using h⟩
end Go.Proofs.Ytncjjangllkokaa

namespace Go.Proofs.Ytncjjangllkokaa
open Go Go.CE Go.RowKit
noncomputable section
set_option maxRecDepth 100000
def bL(s:Span):Int:=s.lo
def n4(s:Span):Int:=s.hi
def VS(rf:Qe):List Int:=(rf.Qa.map (ZD rf.Qn)).map bL
def Kl(rf:Qe):List Int:=(rf.Qa.map (ZD rf.Qn)).map n4
def KA(rf:Qe):List Int:=(rf.Qa.map Wn).map bL
def BY(rf:Qe):List Int:=(rf.Qa.map Wn).map n4
def zZ(rf:Qe)(p:Int):List Int:=(ZO rf.Qa p).map bL
def PC(rf:Qe)(p:Int):List Int:=(ZO rf.Qa p).map n4
theorem Kz{α:Type}[Inhabited α]{l:List α}{f:α->Span}{g:Span->Int}{k:Int}(h0:0<=k)(h:k<l.length):nth ((l.map f).map g) k=g (f (l.getD k.toNat NC)):=by
 obtain⟨m,rfl⟩:∃m:Nat,k=m:=⟨k.toNat,by omega⟩
 have hm:m<l.length:=by omega
 show((l.map f).map g).getD ((m:Int).toNat) NC=_;simp[NJ,hm]
theorem eY{rf:Qe}(hr:XG rf=true):UP rf.Qa.length (KA rf) 2000/\UP rf.Qa.length (BY rf) 2000:=by
 refine⟨⟨by simp[KA],fun k h0 h1=> ?_⟩,⟨by simp[BY],fun k h0 h1=> ?_⟩⟩
 ·have hp:=QU ((Qs hr).2 k h0 h1).1;unfold KA;rw[Kz h0 h1];simp only[Wn,bL];omega
 ·have hp:=QU ((Qs hr).2 k h0 h1).1;unfold BY;rw[Kz h0 h1];simp only[Wn,n4];omega
theorem bB{l:List Span}{g:Span->Int}{k:Int}(h0:0<=k)(h:k<l.length):nth (l.map g) k=g (l.getD k.toNat NC):=by
 obtain⟨m,rfl⟩:∃m:Nat,k=m:=⟨k.toNat,by omega⟩
 have hm:m<l.length:=by omega
 show(l.map g).getD ((m:Int).toNat) NC=_;simp[NJ,hm]
theorem ei{rf:Qe}(hr:XG rf=true)(p:Int):UP rf.Qa.length (zZ rf p) 1000000/\UP rf.Qa.length (PC rf p) 1000000:=by
 refine⟨⟨by simp[zZ,VY],fun k h0 h1=> ?_⟩,⟨by simp[PC,VY],fun k h0 h1=> ?_⟩⟩
 ·have hp:=nG hr (p:=p) h0 h1;unfold zZ;rw[bB h0 (by rw[VY];exact h1),SO h0 h1];simp only[bL];omega
 ·have hp:=nG hr (p:=p) h0 h1;unfold PC;rw[bB h0 (by rw[VY];exact h1),SO h0 h1];simp only[n4];omega
def Re(xs:List Span)(i:Int)(ys:List Int):List Value:=[Value.func (Fn.func 76) #[] #[],.slice (some {block:=2,off:=0}) xs.length 1,Q6 1 (QO xs.length (Qg QW xs)),.int .i64 (↑xs.length:Int),.int .i64 i]
def Kc(xs:List Span)(i:Int)(ys:List Int):List Obj:=[.cells (Qg Q3 ys) 3 (0,0)]
def Rf:List Item:=([.code [1,1,0,1,0,0],.inLoop [1,1,0,1,0,0],.inBlock 0,.code [1,1,1]]).map (it (QX YP 97))
def By(B:Lo)(c0:CF)(xs:List Span)(i:Int)(ys:List Int):Prop:=∃dJ:Nat->Value,(∀t,X4 (dJ t))/\GoE YP B c0 Ze 1 (QJ 97 26 (([1,5,11,12,13]:List Nat).zip (Re xs i ys)) dJ Rf) (QH (Kc xs i ys)) (2+(Kc xs i ys).length) []
def ay(xs:List Span)(i:Int):=(Span.lo (xs.getD i.toNat NC))
def Bt(xs:List Span)(i:Int):Array Value:=#[.int .i64 (ay xs i),.int .i64 (Span.hi (xs.getD i.toNat NC))]
def Bs(xs:List Span)(i:Int)(ys:List Int):Array Value:=(Qg Q3 (Ot ys i.toNat (ay xs i)))
def oG(xs:List Span):Array Value:=(Qg (K9 [.int .i64 0]) (Of xs.length ()))
theorem Bw(B:Lo)(xs:List Span)(i:Int)(ys:List Int)(Qt:Nat->Value):let e:=Bt xs i;let c:=Bs xs i ys;let a:=ND i;let d:=Ot ys a (ay xs i);let b:=Span.lo (xs.getD a NC);let f:=.int .i64 b;landM (Qv YP (QA YP) J0 B 13 1 (QJ 97 26 (([1,5,11,12,13]:List Nat).zip (Re xs i ys)) Qt Rf) (QH (Kc xs i ys)) (2+(Kc xs i ys).length)
 [(0,W9),(2,Qj.tidx a e),(11,Qj.pure (.int .i64 (ay xs i)) []),(12,Qj.XV (Hint.idx a)),(13,Qj.XV (Hint.st c)),(14,Wu (i+1))] 0 [] []) [1,5,11,12,13] [(2,KS.cells [] c)] []=some ⟨97,26,Rf,[],.run,none,Re xs (i+1) d,Kc xs (i+1) d,
 [QK 1 [] c c,wq (i+1)=i+1,0+ND i*1+TypeInfo.size Try.t3<=Ox (Qg Q3 ys)/\splice (Qg Q3 ys) (0+ND i*1) (Value.cells (XB {len:=16000,tr:=Tri.set 14 (Tri.set 14 Tri.lf 22 f) 23 (.pointer (some {block:=2,off:=0+ND i*1}))} 22))=Qg Q3 (Ot ys a b),i=(↑a:Int)/\ND i<NG xs,Q7 []/\Q4 YP J0 76 #[.agg e] f,Vq i xs.length (Qg QW xs) Try.t38.size e,XY i (↑xs.length:Int)=true]⟩:=by intro e c a d b f;kernel_rfl
theorem Bv(B:Lo)(xs:List Span)(i:Int)(ys:List Int)(Qt:Nat->Value):let a:=Fz.cs {k:=2,rs:=[],cs:=Qg Q3 ys};Xe (Qv YP (QA YP) J0 B 9 1 (QJ 97 26 (([1,5,11,12,13]:List Nat).zip (Re xs i ys)) Qt Rf) (QH (Kc xs i ys)) (2+(Kc xs i ys).length)
 [(0,Vd)] 0 [] []) [{k:=2,rs:=[],cs:=Qg Q3 ys}]=some (QO xs.length a,
 [XT (Fz.rs {k:=2,rs:=[],cs:=Qg Q3 ys}) (Qg Q3 ys) a,XY i (↑xs.length:Int)=false]):=by intro a;kernel_rfl
theorem Bu(B:Lo)(xs:List Span):let a:=NG xs;let c:=Of a 0;let b:=XB {len:=16000,tr:=Tri.set 14 Tri.lf 9 (.int .i64 (↑a:Int))} 9;landM (Qv YP (QA YP) J0 B 9 1 (Qw YP 97 26 (([P0 xs,.func (.func 76) #[] #[]]).map (Q8 0 4))) Ze 1
 [(3,Qj.XV (Hint.mk a (oG xs)))] 0 [] []) [1,5,11,12,13] [(1,KS.rows [] [] [] (Qg Q3 c))] []=some ⟨97,26,Rf,[],.run,none,Re xs (0) c,Kc xs (0) c,
 [Xv 1 [] [] [] (oG xs) (Qg Q3 c),S9 YP 25 b b=some (3,Qg (K9 [.int .i64 0]) (Of a ()),NG xs,TypeInfo.size Try.t3)]⟩:=by intro a c b;kernel_rfl
set_option maxHeartbeats 4000000 in
theorem Bx(xs:List Span)(hn:xs.length<=1000000){B:Lo}(hJ:∀w,B.has w->J0 w){c0:CF}:∀m:Nat,(∀(i:Int) (ys:List Int),(xs.length-i.toNat)=m->∀(h0:0<=i) (hy:ys=Pu bL 0 xs i),By B c0 xs i ys->EndsT YP B c0 (XJ (xs.map bL))):=by
 intro m0;induction m0 using Oi with
 |_ m0 ih0=>
  intro i ys Ru h0 hy ⟨Qt,Vs,XL⟩;have hyl:ys.length=xs.length:=by rw[hy];exact Ry
  by_cases q0:(i:Int)<((↑xs.length:Int))
  ·exact((ih0 _ (by omega)) (i+1) (Ot ys i.toNat (Span.lo (xs.getD i.toNat NC))) rfl (by omega) (by(subst hy;exact Rx (f:=bL) h0 q0))
    (XL.landM okF hJ Qf (Bw B xs i ys Qt)
    ⟨(Qr (Q2 (fun x=>List.all_eq_true.1 (by rfl)))),⟨(Xb (by omega) (by omega)),⟨(by exact WU (z:=1) (k:=ND i) (fun _=>rfl) (by first|omega|(rw[Ow];omega)|(rw[Ou];omega)) rfl rfl),⟨⟨by omega,by omega⟩,⟨⟨trivial,Nq (Span.lo (xs.getD i.toNat NC)) (Span.hi (xs.getD i.toNat NC))⟩,⟨⟨by omega,by omega,(Q0 (z:=2) (fun _=>rfl) (by omega))⟩,⟨(XD q0),trivial⟩⟩⟩⟩⟩⟩⟩ (by kernel_rfl) (by kernel_rfl))).cast (by rfl)
  ·exact(GoE.endsT okF hJ Qf XL (Bv B xs i ys Qt)
    ⟨(X9 (fun x=>List.all_eq_true.1 (by rfl))),⟨(Zb (Int.not_lt.1 q0)),trivial⟩⟩).cast (by exact bY (hy.trans (Rz (by omega))) (by simp))
set_option maxHeartbeats 4000000 in
theorem EL(xs:List Span)(hn:xs.length<=1000000){B:Lo}(hJ:∀w,B.has w->J0 w):EndsT YP B (Qw YP 97 26 (([P0 xs,.func (.func 76) #[] #[]]).map (Q8 0 4))) (XJ (xs.map bL)):=by
 exact((Bx xs hn hJ _) (0) (Of xs.length 0) rfl (by omega) (by exact dW)
  (GoE.start.landM okF hJ Qf (Bu B xs)
  ⟨(by exact(Ki (by exact⟨(.simple rfl),trivial⟩) _)),⟨(ni (bytes:=8) (by kernel_rfl) (by omega) (by omega) (by omega)),trivial⟩⟩ (by kernel_rfl) (by kernel_rfl))).cast (by rfl)
theorem EM(xs:List Span)(hn:xs.length<=1000000):Q4 YP J0 97 #[P0 xs,.func (.func 76) #[] #[]] (XJ (xs.map bL)):=
 Xr (ts:=[P0 xs,.func (.func 76) #[] #[]]) Zk (c0:=Qw YP 97 26 (([P0 xs,.func (.func 76) #[] #[]]).map (Q8 0 4))) (by kernel_rfl) (by kernel_rfl) fun B hJ=>EL xs hn hJ
def Rg(xs:List Span)(i:Int)(ys:List Int):List Value:=[Value.func (Fn.func 77) #[] #[],.slice (some {block:=2,off:=0}) xs.length 1,Q6 1 (QO xs.length (Qg QW xs)),.int .i64 (↑xs.length:Int),.int .i64 i]
def Kd(xs:List Span)(i:Int)(ys:List Int):List Obj:=[.cells (Qg Q3 ys) 3 (0,0)]
def Rh:List Item:=([.code [1,1,0,1,0,0],.inLoop [1,1,0,1,0,0],.inBlock 0,.code [1,1,1]]).map (it (QX YP 97))
def B5(B:Lo)(c0:CF)(xs:List Span)(i:Int)(ys:List Int):Prop:=∃dJ:Nat->Value,(∀t,X4 (dJ t))/\GoE YP B c0 Ze 1 (QJ 97 26 (([1,5,11,12,13]:List Nat).zip (Rg xs i ys)) dJ Rh) (QH (Kd xs i ys)) (2+(Kd xs i ys).length) []
def az(xs:List Span)(i:Int):=(Span.hi (xs.getD i.toNat NC))
def B0(xs:List Span)(i:Int):Array Value:=#[.int .i64 (Span.lo (xs.getD i.toNat NC)),.int .i64 (az xs i)]
def Bz(xs:List Span)(i:Int)(ys:List Int):Array Value:=(Qg Q3 (Ot ys i.toNat (az xs i)))
def oH(xs:List Span):Array Value:=(Qg (K9 [.int .i64 0]) (Of xs.length ()))
theorem B3(B:Lo)(xs:List Span)(i:Int)(ys:List Int)(Qt:Nat->Value):let e:=B0 xs i;let c:=Bz xs i ys;let a:=ND i;let d:=Ot ys a (az xs i);let b:=Span.hi (xs.getD a NC);let f:=.int .i64 b;landM (Qv YP (QA YP) J0 B 13 1 (QJ 97 26 (([1,5,11,12,13]:List Nat).zip (Rg xs i ys)) Qt Rh) (QH (Kd xs i ys)) (2+(Kd xs i ys).length)
 [(0,W9),(2,Qj.tidx a e),(11,Qj.pure (.int .i64 (az xs i)) []),(12,Qj.XV (Hint.idx a)),(13,Qj.XV (Hint.st c)),(14,Wu (i+1))] 0 [] []) [1,5,11,12,13] [(2,KS.cells [] c)] []=some ⟨97,26,Rh,[],.run,none,Rg xs (i+1) d,Kd xs (i+1) d,
 [QK 1 [] c c,wq (i+1)=i+1,0+ND i*1+TypeInfo.size Try.t3<=Ox (Qg Q3 ys)/\splice (Qg Q3 ys) (0+ND i*1) (Value.cells (XB {len:=16000,tr:=Tri.set 14 (Tri.set 14 Tri.lf 22 f) 23 (.pointer (some {block:=2,off:=0+ND i*1}))} 22))=Qg Q3 (Ot ys a b),i=(↑a:Int)/\ND i<NG xs,Q7 []/\Q4 YP J0 77 #[.agg e] f,Vq i xs.length (Qg QW xs) Try.t38.size e,XY i (↑xs.length:Int)=true]⟩:=by intro e c a d b f;kernel_rfl
theorem B2(B:Lo)(xs:List Span)(i:Int)(ys:List Int)(Qt:Nat->Value):let a:=Fz.cs {k:=2,rs:=[],cs:=Qg Q3 ys};Xe (Qv YP (QA YP) J0 B 9 1 (QJ 97 26 (([1,5,11,12,13]:List Nat).zip (Rg xs i ys)) Qt Rh) (QH (Kd xs i ys)) (2+(Kd xs i ys).length)
 [(0,Vd)] 0 [] []) [{k:=2,rs:=[],cs:=Qg Q3 ys}]=some (QO xs.length a,
 [XT (Fz.rs {k:=2,rs:=[],cs:=Qg Q3 ys}) (Qg Q3 ys) a,XY i (↑xs.length:Int)=false]):=by intro a;kernel_rfl
theorem B1(B:Lo)(xs:List Span):let a:=NG xs;let c:=Of a 0;let b:=XB {len:=16000,tr:=Tri.set 14 Tri.lf 9 (.int .i64 (↑a:Int))} 9;landM (Qv YP (QA YP) J0 B 9 1 (Qw YP 97 26 (([P0 xs,.func (.func 77) #[] #[]]).map (Q8 0 4))) Ze 1
 [(3,Qj.XV (Hint.mk a (oH xs)))] 0 [] []) [1,5,11,12,13] [(1,KS.rows [] [] [] (Qg Q3 c))] []=some ⟨97,26,Rh,[],.run,none,Rg xs (0) c,Kd xs (0) c,
 [Xv 1 [] [] [] (oH xs) (Qg Q3 c),S9 YP 25 b b=some (3,Qg (K9 [.int .i64 0]) (Of a ()),NG xs,TypeInfo.size Try.t3)]⟩:=by intro a c b;kernel_rfl
set_option maxHeartbeats 4000000 in
theorem B4(xs:List Span)(hn:xs.length<=1000000){B:Lo}(hJ:∀w,B.has w->J0 w){c0:CF}:∀m:Nat,(∀(i:Int) (ys:List Int),(xs.length-i.toNat)=m->∀(h0:0<=i) (hy:ys=Pu n4 0 xs i),B5 B c0 xs i ys->EndsT YP B c0 (XJ (xs.map n4))):=by
 intro m0;induction m0 using Oi with
 |_ m0 ih0=>
  intro i ys Ru h0 hy ⟨Qt,Vs,XL⟩;have hyl:ys.length=xs.length:=by rw[hy];exact Ry
  by_cases q0:(i:Int)<((↑xs.length:Int))
  ·exact((ih0 _ (by omega)) (i+1) (Ot ys i.toNat (Span.hi (xs.getD i.toNat NC))) rfl (by omega) (by(subst hy;exact Rx (f:=n4) h0 q0))
    (XL.landM okF hJ Qf (B3 B xs i ys Qt)
    ⟨(Qr (Q2 (fun x=>List.all_eq_true.1 (by rfl)))),⟨(Xb (by omega) (by omega)),⟨(by exact WU (z:=1) (k:=ND i) (fun _=>rfl) (by first|omega|(rw[Ow];omega)|(rw[Ou];omega)) rfl rfl),⟨⟨by omega,by omega⟩,⟨⟨trivial,MH (Span.lo (xs.getD i.toNat NC)) (Span.hi (xs.getD i.toNat NC))⟩,⟨⟨by omega,by omega,(Q0 (z:=2) (fun _=>rfl) (by omega))⟩,⟨(XD q0),trivial⟩⟩⟩⟩⟩⟩⟩ (by kernel_rfl) (by kernel_rfl))).cast (by rfl)
  ·exact(GoE.endsT okF hJ Qf XL (B2 B xs i ys Qt)
    ⟨(X9 (fun x=>List.all_eq_true.1 (by rfl))),⟨(Zb (Int.not_lt.1 q0)),trivial⟩⟩).cast (by exact bY (hy.trans (Rz (by omega))) (by simp))
set_option maxHeartbeats 4000000 in
theorem EN(xs:List Span)(hn:xs.length<=1000000){B:Lo}(hJ:∀w,B.has w->J0 w):EndsT YP B (Qw YP 97 26 (([P0 xs,.func (.func 77) #[] #[]]).map (Q8 0 4))) (XJ (xs.map n4)):=by
 exact((B4 xs hn hJ _) (0) (Of xs.length 0) rfl (by omega) (by exact dW)
  (GoE.start.landM okF hJ Qf (B1 B xs)
  ⟨(by exact(Ki (by exact⟨(.simple rfl),trivial⟩) _)),⟨(ni (bytes:=8) (by kernel_rfl) (by omega) (by omega) (by omega)),trivial⟩⟩ (by kernel_rfl) (by kernel_rfl))).cast (by rfl)
theorem LJ(xs:List Span)(hn:xs.length<=1000000):Q4 YP J0 97 #[P0 xs,.func (.func 77) #[] #[]] (XJ (xs.map n4)):=
 Xr (ts:=[P0 xs,.func (.func 77) #[] #[]]) Zk (c0:=Qw YP 97 26 (([P0 xs,.func (.func 77) #[] #[]]).map (Q8 0 4))) (by kernel_rfl) (by kernel_rfl) fun B hJ=>EN xs hn hJ
def KJ(rf:Qe):=(List.map (ZD rf.Qn) rf.Qa)
def xU(rf:Qe):Array Value:=#[.int .i64 (Og (List.map bL (KJ rf)) 0 NC),.int .i64 (Og (List.map bL (KJ rf)) 1 NC),.int .i64 (Og (List.map bL (KJ rf)) 2 NC),.int .i64 (Og (List.map bL (KJ rf)) 3 NC)]
def xT(rf:Qe):Array Value:=(Qg Q3 (List.map bL (KJ rf)))
def kJ  :Array Value:=#[.int .i64 0,.int .i64 0,.int .i64 0,.int .i64 0]
theorem xV(B:Lo)(rf:Qe)(Qb:List Int):let g:=xU rf;let f:=KJ rf;let e:=rf.Qa;let d:=xT rf;let a:=List.map (ZD rf.Qn) e;let c:=NG (List.map bL a);let b:=Array.map (ZX 5) (NW d 0 (OA c 4*TypeInfo.size Try.t3));Xe (Qv YP (QA YP) J0 B 10 1 (Qw YP 75 13 (([.agg (QV rf Qb).toArray,.func (.func 76) #[] #[]]).map (Q8 0 4))) Ze 1
 [(5,Qj.pure (QO f.length (Qg QW f)) []),(7,Qj.pure (QO (NG (List.map bL f)) d) []),(8,Qj.tcpy g)] 0 [] []) []=some (.agg g,
 [0<NG (List.map bL a)/\0+OA c 4*TypeInfo.size Try.t3<=Ox kJ/\OA c 4*TypeInfo.size Try.t3<=Ox d/\(Array.all d fun v=>simple v || WO v)=true/\ones b=true/\splice kJ 0 b=g,Q7 []/\Q4 YP J0 97 #[QO a.length (Qg QW a),Value.func (Fn.func 76) #[] #[]] (QO c d),Q7 []/\Q4 YP J0 82 #[.agg #[QO e.length (Qg Qk e),.int .i64 rf.Qn,.int .i64 rf.Qc,.int .i64 (Qb.getD 0 0),.int .i64 (Qb.getD 1 0),.int .i64 (Qb.getD 2 0),.int .i64 (Qb.getD 3 0)]] (QO a.length (Qg QW a))]):=by intro g f e d a c b;kernel_rfl
set_option maxHeartbeats 4000000 in
theorem Be(rf:Qe)(Qb:List Int)(hr:XG rf=true){B:Lo}(hJ:∀w,B.has w->J0 w):EndsT YP B (Qw YP 75 13 (([.agg (QV rf Qb).toArray,.func (.func 76) #[] #[]]).map (Q8 0 4))) (.agg #[.int .i64 ((VS rf).getD 0 NC),.int .i64 ((VS rf).getD 1 NC),.int .i64 ((VS rf).getD 2 NC),.int .i64 ((VS rf).getD 3 NC)]):=by
 have Z0:=Q5 (Qs hr).1;have hle1:((rf.Qa.map (ZD rf.Qn)).map bL).length=rf.Qa.length:=by simp
 have hle2:((rf.Qa.map (ZD rf.Qn)).map n4).length=rf.Qa.length:=by simp
 have hle3:(rf.Qa.map (ZD rf.Qn)).length=rf.Qa.length:=by simp
 have hcc:∀k:Int,0<=k->k<rf.Qa.length->0<=(rf.Qa.getD k.toNat NC).count/\(rf.Qa.getD k.toNat NC).count<=1000000:=fun k h0 h1=>(QU ((Qs hr).2 k h0 h1).1).1
 exact(GoE.endsT okF hJ Qf GoE.start (xV B rf Qb)
  ⟨(wv (fun _=>rfl) rfl (by omega) (by omega) rfl (YL rfl) rfl),⟨⟨trivial,EM (List.map (ZD rf.Qn) rf.Qa) (by omega)⟩,⟨⟨trivial,Hw (rf) (Qb) (by omega) (by omega) (by with_reducible assumption)⟩,trivial⟩⟩⟩).cast (by rfl)
theorem H6(rf:Qe)(Qb:List Int)(hr:XG rf=true):Q4 YP J0 75 #[.agg (QV rf Qb).toArray,.func (.func 76) #[] #[]] (.agg #[.int .i64 ((VS rf).getD 0 NC),.int .i64 ((VS rf).getD 1 NC),.int .i64 ((VS rf).getD 2 NC),.int .i64 ((VS rf).getD 3 NC)]):=
 Xr (ts:=[.agg (QV rf Qb).toArray,.func (.func 76) #[] #[]]) Zk (c0:=Qw YP 75 13 (([.agg (QV rf Qb).toArray,.func (.func 76) #[] #[]]).map (Q8 0 4))) (by kernel_rfl) (by kernel_rfl) fun B hJ=>Be rf Qb hr hJ
def JB(rf:Qe)(Qb:List Int)(fa fb fc fd k:Int):Qp:=[(3,Obj.cells #[.int .i64 0,.int .i64 0,.int .i64 0,.int .i64 0] 111),(2,Obj.cells #[.int .i64 fa,.int .i64 fb,.int .i64 fc,.int .i64 fd] 111),(1,Obj.cells #[Q6 0 (QO rf.Qa.length (Qg Qk rf.Qa)),.int .i64 rf.Qn,.int .i64 rf.Qc,.int .i64 (Qb.getD 0 0),.int .i64 (Qb.getD 1 0),.int .i64 (Qb.getD 2 0),.int .i64 (Qb.getD 3 0)] 84),(0,Obj.coro none)]
def Sk(rf:Qe)(Qb:List Int)(fa fb fc fd k:Int):CF:=⟨98,ofList 28 [.agg #[Q6 0 (QO rf.Qa.length (Qg Qk rf.Qa)),.int .i64 rf.Qn,.int .i64 rf.Qc,.int .i64 (Qb.getD 0 0),.int .i64 (Qb.getD 1 0),.int .i64 (Qb.getD 2 0),.int .i64 (Qb.getD 3 0)],.agg #[.int .i64 fa,.int .i64 fb,.int .i64 fc,.int .i64 fd],.int .i64 k,Value.func (Fn.func 76) #[] #[],Value.func (Fn.func 77) #[] #[]],[Item.code (QX YP 98)],[],.run,none⟩
def JA(rf:Qe)(Qb:List Int)(k:Int):=(List.map n4 (ZO rf.Qa (Qb.getD k.toNat 0)))
def J9(rf:Qe):=(List.map bL (List.map Wn rf.Qa))
def kN(rf:Qe)(Qb:List Int)(fa fb fc fd k:Int):Array Value:=#[.int .i64 (F4.a (X3 (J9 rf) (JA rf Qb k) rf.Qa {a:=fa,b:=fb,c:=fc,d:=fd})),.int .i64 (F4.b (X3 (J9 rf) (JA rf Qb k) rf.Qa {a:=fa,b:=fb,c:=fc,d:=fd})),.int .i64 (F4.c (X3 (J9 rf) (JA rf Qb k) rf.Qa {a:=fa,b:=fb,c:=fc,d:=fd})),.int .i64 (F4.d (X3 (J9 rf) (JA rf Qb k) rf.Qa {a:=fa,b:=fb,c:=fc,d:=fd}))]
def kM(rf:Qe)(Qb:List Int):Array Value:=#[QO rf.Qa.length (Qg Qk rf.Qa),.int .i64 rf.Qn,.int .i64 rf.Qc,.int .i64 (Qb.getD 0 0),.int .i64 (Qb.getD 1 0),.int .i64 (Qb.getD 2 0),.int .i64 (Qb.getD 3 0)]
def kL(rf:Qe)(Qb:List Int)(k:Int):Value:=(QO (NG (ZO rf.Qa (Qb.getD k.toNat 0))) (Qg QW (ZO rf.Qa (Qb.getD k.toNat 0))))
def kK(rf:Qe):Value:=(QO (NG (List.map Wn rf.Qa)) (Qg QW (List.map Wn rf.Qa)))
theorem xX(B:Lo)(rf:Qe)(Qb:List Int)(fa fb fc fd k:Int):let h:=rf.Qn;let g:=rf.Qc;let f:=J9 rf;let d:=JA rf Qb k;let c:=rf.Qa;let e:=List.map Wn c;let i:=List.map bL e;let b:=Value.slice none 0 0;let a:=ZO c (Qb.getD k.toNat 0);let j:=List.map n4 a;CE.finK 4 (Qv YP (QA YP) J0 B 10 4 (Sk rf Qb fa fb fc fd k) (JB rf Qb fa fb fc fd k) 4
 [(10,Qj.pure (kK rf) []),(12,Qj.pure (QO f.length (Qg Q3 f)) []),(15,Qj.pure (kL rf Qb k) []),(17,Qj.pure (QO d.length (Qg Q3 d)) []),(18,Qj.wri [7] [9,11,0] [false] [] (pS c h g fa fb fc fd b b f d 0 0 0 0 0) (pR c h g fa fb fc fd b b f d 0 0 0 0 0) (pT c h g fa fb fc fd b b f d 0 0 0 0 0))] 0 [] []) [] [] []=some (OO.ret (.agg (kN rf Qb fa fb fc fd k)),[],[],
 [Q7 []/\Hy c h g (fa) (fb) (fc) (fd) b b i j (0) (0) (0) (0) (0),Q7 []/\Q4 YP J0 97 #[QO a.length (Qg QW a),Value.func (Fn.func 77) #[] #[]] (QO j.length (Qg Q3 j)),Q7 []/\Q4 YP J0 84 #[.agg (kM rf Qb),.int .i64 k] (kL rf Qb k),Q7 []/\Q4 YP J0 97 #[QO e.length (Qg QW e),Value.func (Fn.func 76) #[] #[]] (QO i.length (Qg Q3 i)),Q7 []/\Q4 YP J0 83 #[.agg (kM rf Qb)] (kK rf)]):=by intro h g f d c e i b a j;kernel_rfl
theorem xW(B:Lo)(rf:Qe)(Qb:List Int)(fa fb fc fd k:Int):let a:=kN rf Qb fa fb fc fd k;Xe (Qv YP (QA YP) J0 B 6 1 (Qw YP 78 11 (([.agg (QV rf Qb).toArray,.agg #[.int .i64 fa,.int .i64 fb,.int .i64 fc,.int .i64 fd],.int .i64 k]).map (Q8 0 4))) Ze 1
 [(6,Qj.call (NI 4) (OO.ret (.agg a)) ([]++(4,Xp)::Xk 5 []) 5 [])] 0 [] []) []=some (.agg a,
 [FJ YP B (Sk rf Qb fa fb fc fd k) (JB rf Qb fa fb fc fd k) 4 (OO.ret (.agg a)) (([]++((4,Xp)::Xk (4+1) []))++JB rf Qb fa fb fc fd k) 5 (NI 4) []]):=by intro a;kernel_rfl
set_option maxHeartbeats 4000000 in
theorem Bf(rf:Qe)(Qb:List Int)(fa fb fc fd k:Int)(hr:XG rf=true)(hl:Qb.length<=4)(hp:∀j:Nat,0<=Qb.getD j 0/\Qb.getD j 0<=1000000)(k0:0<=k)(k1:k<4)(hf:Pa ⟨fa,fb,fc,fd⟩)(hs:F4.sum ⟨fa,fb,fc,fd⟩<=10000000000){B:Lo}(hJ:∀w,B.has w->J0 w):EndsT YP B (Qw YP 78 11 (([.agg (QV rf Qb).toArray,.agg #[.int .i64 fa,.int .i64 fb,.int .i64 fc,.int .i64 fd],.int .i64 k]).map (Q8 0 4))) (.agg #[.int .i64 (X3 (KA rf) (PC rf (Qb.getD k.toNat 0)) rf.Qa ⟨fa,fb,fc,fd⟩).a,.int .i64 (X3 (KA rf) (PC rf (Qb.getD k.toNat 0)) rf.Qa ⟨fa,fb,fc,fd⟩).b,.int .i64 (X3 (KA rf) (PC rf (Qb.getD k.toNat 0)) rf.Qa ⟨fa,fb,fc,fd⟩).c,.int .i64 (X3 (KA rf) (PC rf (Qb.getD k.toNat 0)) rf.Qa ⟨fa,fb,fc,fd⟩).d]):=by
 have Z0:=Q5 (Qs hr).1;have hpc:=E5 hr;have hg1:UP rf.Qa.length ((rf.Qa.map Wn).map bL) 2000:=(eY hr).1;have ht1:UP rf.Qa.length ((ZO rf.Qa (Qb.getD k.toNat 0)).map n4) 1000000:=(ei hr (Qb.getD k.toNat 0)).2;have hle1:(ZO rf.Qa (Qb.getD k.toNat 0)).length=rf.Qa.length:=VY;have hle2:(rf.Qa.map Wn).length=rf.Qa.length:=by simp
 have rj0:FJ YP B (Sk rf Qb fa fb fc fd k) (JB rf Qb fa fb fc fd k) 4 (OO.ret (.agg #[.int .i64 (F4.a (X3 (List.map bL (List.map Wn rf.Qa)) (List.map n4 (ZO rf.Qa (Qb.getD k.toNat 0))) rf.Qa {a:=fa,b:=fb,c:=fc,d:=fd})),.int .i64 (F4.b (X3 (List.map bL (List.map Wn rf.Qa)) (List.map n4 (ZO rf.Qa (Qb.getD k.toNat 0))) rf.Qa {a:=fa,b:=fb,c:=fc,d:=fd})),.int .i64 (F4.c (X3 (List.map bL (List.map Wn rf.Qa)) (List.map n4 (ZO rf.Qa (Qb.getD k.toNat 0))) rf.Qa {a:=fa,b:=fb,c:=fc,d:=fd})),.int .i64 (F4.d (X3 (List.map bL (List.map Wn rf.Qa)) (List.map n4 (ZO rf.Qa (Qb.getD k.toNat 0))) rf.Qa {a:=fa,b:=fb,c:=fc,d:=fd}))])) (([]++((4,Xp)::Xk (4+1) []))++JB rf Qb fa fb fc fd k) 5 (NI 4) []:=by
  exact FinK.fjB (GoE.finK okF hJ Qf (Q9 (by kernel_rfl)) (Q1 (by kernel_rfl)) ((GoE.refl (P:=YP) (B:=B) (c0:=Sk rf Qb fa fb fc fd k) (Q9 (by kernel_rfl))).widen (Wf:=((([]):List (Nat×KS)).map (·.1))) (by simp) (Q1 (by kernel_rfl))) (xX B rf Qb fa fb fc fd k)
   ⟨⟨trivial,MD rf.Qa rf.Qn rf.Qc (fa) (fb) (fc) (fd) (.slice none 0 0) (.slice none 0 0) (List.map bL (List.map Wn rf.Qa)) (List.map n4 (ZO rf.Qa (Qb.getD k.toNat 0))) (0) (0) (0) (0) (0) (by with_reducible assumption) (by with_reducible assumption) (by with_reducible assumption) (by with_reducible assumption) (by with_reducible assumption) (by omega) (by omega) (by omega)⟩,⟨⟨trivial,LJ (ZO rf.Qa (Qb.getD k.toNat 0)) (by omega)⟩,⟨⟨trivial,L8 (rf) (Qb) (k) (by omega) (by with_reducible assumption) (by with_reducible assumption) (by with_reducible assumption) (by with_reducible assumption)⟩,⟨⟨trivial,EM (List.map Wn rf.Qa) (by omega)⟩,⟨⟨trivial,LA (rf) (Qb) (by omega)⟩,trivial⟩⟩⟩⟩⟩) (ex:=[]) (by kernel_rfl) (Vo _)
 exact(GoE.endsT okF hJ Qf GoE.start (xW B rf Qb fa fb fc fd k)
  ⟨rj0,trivial⟩).cast (by rfl)
theorem iE(rf:Qe)(Qb:List Int)(fa fb fc fd k:Int)(hr:XG rf=true)(hl:Qb.length<=4)(hp:∀j:Nat,0<=Qb.getD j 0/\Qb.getD j 0<=1000000)(k0:0<=k)(k1:k<4)(hf:Pa ⟨fa,fb,fc,fd⟩)(hs:F4.sum ⟨fa,fb,fc,fd⟩<=10000000000):Q4 YP J0 78 #[.agg (QV rf Qb).toArray,.agg #[.int .i64 fa,.int .i64 fb,.int .i64 fc,.int .i64 fd],.int .i64 k] (.agg #[.int .i64 (X3 (KA rf) (PC rf (Qb.getD k.toNat 0)) rf.Qa ⟨fa,fb,fc,fd⟩).a,.int .i64 (X3 (KA rf) (PC rf (Qb.getD k.toNat 0)) rf.Qa ⟨fa,fb,fc,fd⟩).b,.int .i64 (X3 (KA rf) (PC rf (Qb.getD k.toNat 0)) rf.Qa ⟨fa,fb,fc,fd⟩).c,.int .i64 (X3 (KA rf) (PC rf (Qb.getD k.toNat 0)) rf.Qa ⟨fa,fb,fc,fd⟩).d]):=
 Xr (ts:=[.agg (QV rf Qb).toArray,.agg #[.int .i64 fa,.int .i64 fb,.int .i64 fc,.int .i64 fd],.int .i64 k]) Zk (c0:=Qw YP 78 11 (([.agg (QV rf Qb).toArray,.agg #[.int .i64 fa,.int .i64 fb,.int .i64 fc,.int .i64 fd],.int .i64 k]).map (Q8 0 4))) (by kernel_rfl) (by kernel_rfl) fun B hJ=>Bf rf Qb fa fb fc fd k hr hl hp k0 k1 hf hs hJ
end
end Go.Proofs.Ytncjjangllkokaa

namespace Go.Proofs.Ytncjjangllkokaa
open Go Go.CE Go.RowKit
set_option maxRecDepth 100000
abbrev nI(l:List Span):List Value:=[P0 l]
def Zu(rf:Qe):List (List Int):=Zt rf.Qc fun _=>KA rf
def Z3(rf:Qe):List (List Int):=Zt rf.Qc fun _=>BY rf
def ZC(rf:Qe)(Qb:List Int):List (List Int):=Zt rf.Qc fun s=>zZ rf (Qb.getD s.toNat 0)
def Z4(rf:Qe)(Qb:List Int):List (List Int):=Zt rf.Qc fun s=>PC rf (Qb.getD s.toNat 0)
def QG(rf:Qe)(Qb:List Int)(k:Nat):F4:=Zp rf.Qa (Zu rf) (Z4 rf Qb) (Qh (VS rf)) k
def MP(rf:Qe)(Qb:List Int)(k:Nat):F4:=Zp rf.Qa (Z3 rf) (ZC rf Qb) (Qh (Kl rf)) k
def gQ(rf:Qe)(Qb:List Int)(s k:Int):Span:=⟨(QG rf Qb (s.toNat+1)).at k,(MP rf Qb (s.toNat+1)).at k⟩
def jz(rf:Qe)(Qb:List Int)(s:Int):List Span:=Zt rf.Qa.length fun k=>gQ rf Qb s k
def Wv(rf:Qe)(Qb:List Int):List (List Span):=Zt rf.Qc fun k=>jz rf Qb k
theorem nH{l:List Int}(h:∀k:Int,0<=k->k<4->0<=nth l k/\nth l k<=4000000):Pa (Qh l)/\(Qh l).sum<=16000000:=by
 have a0:=h 0 (by omega) (by omega);have a1:=h 1 (by omega) (by omega);have a2:=h 2 (by omega) (by omega);have a3:=h 3 (by omega) (by omega);have es:(Qh l).sum=nth l 0+nth l 1+nth l 2+nth l 3:=rfl;exact⟨⟨⟨a0.1,a1.1,a2.1,a3.1⟩,by omega⟩,by omega⟩
theorem IE{rf:Qe}(hr:XG rf=true){g:Span->Int}(hg:∀s:Span,g s=s.lo\/g s=s.hi):∀k:Int,0<=k->k<4->0<=nth ((rf.Qa.map (ZD rf.Qn)).map g) k/\nth ((rf.Qa.map (ZD rf.Qn)).map g) k<=4000000:=fun k k0 k1=>by
 have hs:=Q5 (Qs hr).1;by_cases hk:k<rf.Qa.length
 ·have hp:=QU ((Qs hr).2 k k0 hk).1;have hm:=Ky (a:=(rf.Qa.getD k.toNat NC).count) (r:=rf.Qn) (by omega) (by omega);have hm2:(rf.Qa.getD k.toNat NC).count*rf.Qn<=1000000*2000:=Int.mul_le_mul hp.1.2 hs.2.1.2 hs.2.1.1 (by omega);have e2:((rf.Qa.getD k.toNat NC).count*rf.Qn).tdiv 1000=((rf.Qa.getD k.toNat NC).count*rf.Qn) / 1000:=Ov hm.1;rw[Kz k0 hk];rcases hg (ZD rf.Qn (rf.Qa.getD k.toNat NC))with e|e
  ·rw[e];simp only[ZD];omega
  ·rw[e];simp only[ZD,YF];omega
 ·unfold nth;rw[NJ,Oc (by simp;omega)];exact⟨Ol _,by decide⟩
theorem FO{rf:Qe}(hr:XG rf=true){gs ts:List (List Int)}{l:List Int}(hg:gs.length=rf.Qc)(ht:ts.length=rf.Qc)(rg:∀k:Nat,k<rf.Qc->UP rf.Qa.length (gs.getD k NC) 2000)(rt:∀k:Nat,k<rf.Qc->UP rf.Qa.length (ts.getD k NC) 1000000)(hl:Pa (Qh l)/\(Qh l).sum<=16000000):OkT rf.Qa rf.Qc gs ts (Qh l):=by
 have hs:=Q5 (Qs hr).1;exact⟨E5 hr,by omega,by omega,by omega,hg,ht,rg,rt,hl.1,by omega⟩
theorem BR{rf:Qe}(hr:XG rf=true):Pa (Qh (VS rf))/\(Qh (VS rf)).sum<=16000000:=nH (IE hr fun _=>.inl rfl)
theorem y9{rf:Qe}(hr:XG rf=true):Pa (Qh (Kl rf))/\(Qh (Kl rf)).sum<=16000000:=nH (IE hr fun _=>.inr rfl)
theorem bC{rf:Qe}(Qb:List Int)(hr:XG rf=true):OkT rf.Qa rf.Qc (Zu rf) (Z4 rf Qb) (Qh (VS rf)):=by
 have hs:=Q5 (Qs hr).1;refine FO hr (by rw[Zu,Xf];omega) (by rw[Z4,Xf];omega) (fun k hk=> ?_) (fun k hk=> ?_) (BR hr)
 ·have e:(Zu rf).getD k NC=KA rf:=Xh (k:=(k:Int)) (by omega) hk;rw[e];exact(eY hr).1
 ·have e:(Z4 rf Qb).getD k NC=PC rf (Qb.getD ((k:Int)).toNat 0):=Xh (k:=(k:Int)) (by omega) hk;rw[e];exact(ei hr _).2
theorem iJ{rf:Qe}(Qb:List Int)(hr:XG rf=true):OkT rf.Qa rf.Qc (Z3 rf) (ZC rf Qb) (Qh (Kl rf)):=by
 have hs:=Q5 (Qs hr).1;refine FO hr (by rw[Z3,Xf];omega) (by rw[ZC,Xf];omega) (fun k hk=> ?_) (fun k hk=> ?_) (y9 hr)
 ·have e:(Z3 rf).getD k NC=BY rf:=Xh (k:=(k:Int)) (by omega) hk;rw[e];exact(eY hr).2
 ·have e:(ZC rf Qb).getD k NC=zZ rf (Qb.getD ((k:Int)).toNat 0):=Xh (k:=(k:Int)) (by omega) hk;rw[e];exact(ei hr _).1
theorem Fh{rf:Qe}{Qb:List Int}{i:Int}(h0:0<=i)(h:i<rf.Qc):QG rf Qb (i+1).toNat=X3 (KA rf) (PC rf (Qb.getD i.toNat 0)) rf.Qa (QG rf Qb i.toNat):=by
 rw[show(i+1).toNat=i.toNat+1 by omega];show X3 _ _ _ _=_;have e1:(Zu rf).getD i.toNat NC=KA rf:=Xh h0 h;have e2:(Z4 rf Qb).getD i.toNat NC=PC rf (Qb.getD i.toNat 0):=Xh h0 h;rw[e1,e2];rfl
theorem s6{rf:Qe}{Qb:List Int}{s:Int}:(jz rf Qb s).length=rf.Qa.length:=by rw[jz,Xf];omega
end Go.Proofs.Ytncjjangllkokaa

namespace Go.Proofs.Ytncjjangllkokaa
open Go Go.CE Go.RowKit
abbrev Af(xs:List (List Span)):Value:=QO xs.length (Qg nI xs)
end Go.Proofs.Ytncjjangllkokaa

namespace Go.CE
open Go Go.RowKit
section
variable {α β:Type}
def Sp(ke:α->Value)(ve:β->Value):List (α×β)->Nat->List MapEntry
 |[],_=>[]
 |p::l,i=>{key:=ke p.1,val:=ve p.2,born:=i}::Sp ke ve l (i+1)
structure rF (α β:Type) where
 ke:α->Value
 ve:β->Value
 eq:α->α->Bool
def mapA(M:rF α β)(l:List (α×β)):Array MapEntry:=(Sp M.ke M.ve l 0).toArray
def YG(eq:α->α->Bool)(l:List (α×β))(k:α):Bool:=l.any fun p=>eq k p.1
def vI[Inhabited β](eq:α->α->Bool):List (α×β)->α->β
 |[],_=>NC
 |p::l,k=>bif eq k p.1 then p.2 else vI eq l k
def JJ(eq:α->α->Bool):List (α×β)->α->Nat->Option (Nat×β)
 |[],_,_=>none
 |p::l,k,i=>bif eq k p.1 then some (i,p.2)else JJ eq l k (i+1)
def xp(eq:α->α->Bool):List (α×β)->α->β->List (α×β)
 |[],k,x=>[(k,x)]
 |p::l,k,x=>bif eq k p.1 then(k,x)::l else p::xp eq l k x
def Sy(M:rF α β)(l:List (α×β))(k:α):Bool:=YG M.eq l k
def JN[Inhabited β](M:rF α β)(l:List (α×β))(k:α):β:=vI M.eq l k
def dP(M:rF α β)(l:List (α×β))(k:α)(x:β):List (α×β):=xp M.eq l k x
theorem mA[Inhabited β]{eq:α->α->Bool}:∀{l:List (α×β)} {k:α} {i:Nat},YG eq l k=true->∃j,JJ eq l k i=some (j,vI eq l k)
 |[],k,i,h=>by simp[YG]at h
 |p::l,k,i,h=>by
  unfold JJ vI;cases e:eq k p.1 with
  |true=>exact⟨i,rfl⟩
  |false=>
   have h':YG eq l k=true:=by
    unfold YG at h ⊢;rw[List.any_cons,e,Bool.false_or]at h;exact h
   exact mA h'
theorem g8{eq:α->α->Bool}:∀{l:List (α×β)} {k:α} {i:Nat},YG eq l k=false->JJ eq l k i=none
 |[],k,i,h=>rfl
 |p::l,k,i,h=>by
  unfold YG at h;rw[List.any_cons,Bool.or_eq_false_iff]at h;unfold JJ;rw[h.1];exact g8 (by unfold YG;exact h.2)
theorem vJ{eq:α->α->Bool}:∀{l:List (α×β)} {k:α} {i j:Nat} {x:β},JJ eq l k i=some (j,x)->i<=j/\∃p,l[j-i]? =some p/\eq k p.1=true/\∀y,xp eq l k y=l.set (j-i) (k,y)
 |[],k,i,j,x,h=>by cases h
 |p::l,k,i,j,x,h=>by
  unfold JJ at h;cases e:eq k p.1 with
  |true=>
   rw[e]at h;simp only[cond_true,YO,YR]at h;obtain⟨rfl,_⟩:=h;exact⟨NZ _,p,by simp,e,fun y=>by simp[xp,e]⟩
  |false=>
   rw[e]at h;simp only[cond_false]at h;obtain⟨h1,q,h2,h3,h4⟩:=vJ h;have e2:j-i=(j-(i+1))+1:=by omega
   exact⟨by omega,q,by rw[e2];simpa using h2,h3,fun y=>by rw[e2];simp[xp,e,h4 y]⟩
theorem tI{eq:α->α->Bool}:∀{l:List (α×β)} {k:α} {x:β},YG eq l k=false->xp eq l k x=l++[(k,x)]
 |[],k,x,_=>rfl
 |p::l,k,x,h=>by
  unfold YG at h;rw[List.any_cons,Bool.or_eq_false_iff]at h;unfold xp;rw[h.1];exact congrArg (p::·) (tI (by unfold YG;exact h.2))
structure KeyC (P:Program) (kt:TypeId) (ke:α->Value) (eq:α->α->Bool):Prop where
 af:∀k,af (ke k)=true
 ck:∀b k,Xq P (Instr.checkKey b 10000 kt (ke k))=some ()
 sb:∀k,Instr.sameBits 10000 (ke k) (ke k)=true
 same:∀k k',eq k k'=true->k=k'
 un:∃d,Xq P (underlying kt)=some d/\((∀k k',Instr.sameNow d (ke k) (ke k')=some (eq k k'))\/((∀k k',Instr.sameNow d (ke k) (ke k')=none)/\∀k k',Xq P (Op.equal kt (ke k) (ke k'))=some (eq k k')))
theorem JG{ke:α->Value}{ve:β->Value}:∀{l:List (α×β)} {i j:Nat},(Sp ke ve l i)[j]? =(l[j]?).map fun p=>{key:=ke p.1,val:=ve p.2,born:=i+j}
 |[],i,j=>by simp[Sp]
 |p::l,i,0=>by simp[Sp]
 |p::l,i,j+1=>by
  simp only[Sp,List.getElem?_cons_succ];rw[JG (l:=l),show i+1+j=i+(j+1)by omega]
theorem lj{ke:α->Value}{ve:β->Value}:∀{l:List (α×β)} {i:Nat},(Sp ke ve l i).length=l.length
 |[],i=>rfl
 |p::l,i=>by simp[Sp,lj (l:=l)]
variable {P:Program} {kt:TypeId} {ke:α->Value} {ve:β->Value} {eq:α->α->Bool}
theorem wi{d:TypeDesc}(h:∀k k',Instr.sameNow d (ke k) (ke k')=some (eq k k')){k:α}:∀{l:List (α×β)} {i n:Nat},Instr.findNow d (ke k) (Sp ke ve l n) i=some ((JJ eq l k i).map fun p=>(p.1,ve p.2))
 |[],i,n=>rfl
 |p::l,i,n=>by
  simp only[Sp,Instr.findNow,h,JJ];cases e:eq k p.1 with
  |true=>rfl
  |false=>exact wi h (l:=l)
theorem wj(h:∀k k',Xq P (Op.equal kt (ke k) (ke k'))=some (eq k k')){k:α}:∀{l:List (α×β)} {i n:Nat},Xq P (Instr.findAsking kt (ke k) (Sp ke ve l n) i)=some ((JJ eq l k i).map fun p=>(p.1,ve p.2))
 |[],i,n=>rfl
 |p::l,i,n=>by
  simp only[Sp,Instr.findAsking,Zl,h,JJ];cases e:eq k p.1 with
  |true=>rfl
  |false=>simpa using wj h (l:=l)
theorem KeyC.find(h:KeyC P kt ke eq){k:α}{l:List (α×β)}:Xq P (Instr.findKey kt (ke k) (Sp ke ve l 0))=some ((JJ eq l k 0).map fun p=>(p.1,ve p.2)):=by
 obtain⟨d,hd,h1|⟨h1,h2⟩⟩:=h.un
 ·simp only[Instr.findKey,Zl,hd,wi h1,W5]
 ·simp only[Instr.findKey,Zl,hd];cases l with
  |nil=>rfl
  |cons p l=>
   have e:Instr.findNow d (ke k) (Sp ke ve (p::l) 0) 0=none:=by simp[Sp,Instr.findNow,h1]
   rw[e];exact wj h2
theorem qm[Inhabited β]{M:rF α β}(hk:KeyC P kt M.ke M.eq){t e:TypeId}(hu:Jl P t=some (.map kt e)){l:List (α×β)}{k:α}{ok:Bool}(h:Sy M l k=true):JS P t (mapA M l) ok (M.ke k) (bif ok then .tuple #[M.ve (JN M l k),.bool true]else M.ve (JN M l k)):=by
 intro H r JX hg;obtain⟨j,hj⟩:=mA (eq:=M.eq) (i:=0) h;unfold S4;rw[hu];simp only[hg,hk.af,cond_true,hk.ck];have hf:Xq P (Instr.findKey kt (M.ke k) (mapA M l).toList)=some (some (j,M.ve (JN M l k))):=by
  show Xq P (Instr.findKey kt (M.ke k) (Sp M.ke M.ve l 0))=_;rw[hk.find,hj];rfl
 rw[hf]
theorem qo{M:rF α β}(hk:KeyC P kt M.ke M.eq){t e:TypeId}{z:Value}(hu:Jl P t=some (.map kt e))(hz:zeroOf P e=some z)(ha:Go.CE.af z=true){l:List (α×β)}{k:α}{ok:Bool}(h:Sy M l k=false):JS P t (mapA M l) ok (M.ke k) (bif ok then .tuple #[z,.bool false]else z):=by
 intro H r JX hg;unfold S4;rw[hu];simp only[hg,hk.af,cond_true,hk.ck];have hf:Xq P (Instr.findKey kt (M.ke k) (mapA M l).toList)=some none:=by
  show Xq P (Instr.findKey kt (M.ke k) (Sp M.ke M.ve l 0))=_;rw[hk.find,g8 h];rfl
 rw[hf,hz];simp only[ha,cond_true]
theorem HN{M:rF α β}(hk:KeyC P kt M.ke M.eq){t e:TypeId}(hu:Jl P t=some (.map kt e)){l:List (α×β)}{k:α}{x:β}:fx P t (mapA M l) l.length (M.ke k) (M.ve x) (mapA M (dP M l k x)) (dP M l k x).length:=by
 intro H r hg;unfold UT;rw[hu];simp only[hg,hk.af,cond_true,hk.ck];cases hb:JJ M.eq l k 0 with
 |some p=>
  obtain⟨j,y⟩:=p;have hf:Xq P (Instr.findKey kt (M.ke k) (mapA M l).toList)=some (some (j,M.ve y)):=by
   show Xq P (Instr.findKey kt (M.ke k) (Sp M.ke M.ve l 0))=_;rw[hk.find,hb];rfl
  rw[hf];obtain⟨_,q,h2,h3,h4⟩:=vJ hb;have eq1:=hk.same _ _ h3;have h4:∀y,dP M l k y=l.set (j-0) (k,y):=h4;have hj:j<l.length:=(List.getElem?_eq_some_iff.1 h2).1;have hg2:(mapA M l)[j]? =some {key:=M.ke q.1,val:=M.ve q.2,born:=j}:=by
   unfold mapA;rw[Oy,JG,show l[j]? =some q by simpa using h2];simp
  simp only[hg2];rw[<-eq1,hk.sb];simp only[cond_true];have es:(mapA M l).setIfInBounds j {key:=M.ke k,val:=M.ve x,born:=j}=mapA M (dP M l k x):=by
   rw[h4 x];apply Array.ext_getElem?;intro i;unfold mapA;rw[Array.getElem?_setIfInBounds,Oy,Oy,JG,JG,List.getElem?_set];simp only[Nat.sub_zero,Ob,List.size_toArray,lj];by_cases Pr:j=i
   ·subst Pr;simp[hj]
   ·simp[Pr]
  rw[es,h4 x,Ow]
 |none=>
  have hf:Xq P (Instr.findKey kt (M.ke k) (mapA M l).toList)=some none:=by
   show Xq P (Instr.findKey kt (M.ke k) (Sp M.ke M.ve l 0))=_;rw[hk.find,hb];rfl
  rw[hf];have hnb:Sy M l k=false:=by
   cases hq:YG M.eq l k with
   |false=>exact hq
   |true=>
    exfalso;have:∀(l:List (α×β)) (i:Nat),YG M.eq l k=true->JJ M.eq l k i≠none:=by
     intro l;induction l with
     |nil=>intro i h;simp[YG]at h
     |cons p l ih=>
      intro i h;unfold JJ;cases e:M.eq k p.1 with
      |true=>simp
      |false=>
       simp only[cond_false];refine ih _ ?_;unfold YG at h ⊢;rw[List.any_cons,e,Bool.false_or]at h;exact h
    exact this l 0 hq hb
  rw[show dP M l k x=l++[(k,x)]from tI hnb];have es:(mapA M l).push {key:=M.ke k,val:=M.ve x,born:=l.length}=mapA M (l++[(k,x)]):=by
   apply Array.ext_getElem?;intro i;unfold mapA;rw[Array.getElem?_push,Oy,Oy,JG,JG,List.getElem?_append];simp only[Ob,List.size_toArray,lj];by_cases h1:i=l.length
   ·subst h1;simp
   ·by_cases h2:i<l.length
    ·simp[h1,h2]
    ·have h3:i-l.length≠0:=by omega
     obtain⟨m,hm⟩:∃m,i-l.length=m+1:=⟨i-l.length-1,by omega⟩
     simp[h1,h2,hm]
  simp only[es,NV,NY,Oj,Ob]
theorem X6{M:rF α β}(h:∀x,af (M.ve x)=true){l:List (α×β)}:XH (mapA M l):=by
 intro i e he;unfold mapA at he;rw[Oy,JG]at he;obtain⟨p,_,rfl⟩:=Option.map_eq_some_iff.1 he;exact h _
end
end Go.CE
namespace Go.CE
open Go Go.RowKit
theorem nK{α:Type}[Inhabited α]{e:α->List Value}{z:Nat}{xs:List α}(h:∀x,(e x).length=z){k j z':Nat}(hk:k<xs.length)(hj:j+z'<=z){vs:Array Value}(hz:vs.size=z')(hv:((e (xs.getD k NC)).drop j).take z'=vs.toList):0+k*z+j+z'<=(Qg e xs).size/\(Qg e xs).extract (0+k*z+j) (0+k*z+j+z')=vs:=by
 have hle:=zt (e:=e) h hk;refine⟨by omega, ?_⟩;apply Array.ext_getElem?;intro i;rw[Oz];by_cases hi:i<z'
 ·rw[if_pos (by omega)];have hg:=SU (xs:=xs) h hk (show j+i<z by omega);rw[show 0+k*z+j+i=k*z+(j+i)by omega,hg];have h2:(((e (xs.getD k NC)).drop j).take z')[i]? =vs.toList[i]? :=by rw[hv]
  rw[OE hi,List.getElem?_drop]at h2;rw[h2];exact NM ..
 ·rw[if_neg (by omega),OG (by omega)]
end Go.CE

namespace Go.Proofs.Ytncjjangllkokaa
open Go Go.CE Go.RowKit
set_option maxRecDepth 100000
def TC(Qb:List Int)(s:Int):F4:=⟨if 0<s then Qb.getD 0 0 else -1,if 1<s then Qb.getD 1 0 else -1,if 2<s then Qb.getD 2 0 else -1,if 3<s then Qb.getD 3 0 else -1⟩
def Mf(x y:F4):Bool:=decide (x.a=y.a) && (decide (x.b=y.b) && (decide (x.c=y.c) && decide (x.d=y.d)))
theorem wo{x y:F4}:Mf x y=true<->x=y:=by
 cases x;cases y;simp[Mf]
abbrev v4(f:F4):Value:=.agg #[.int .i64 f.a,.int .i64 f.b,.int .i64 f.c,.int .i64 f.d]
def QC:rF F4 F4:=⟨v4,v4,Mf⟩
theorem pQ{P:Program}{t:TypeId}{a b:Int}{d:Nat}(hu:Xq P (underlying t)=some (.int .i64)):Xq P (Op.equalIn (d+1) t (.int .i64 a) (.int .i64 b))=some (decide (a=b)):=by
 rw[Op.equalIn,Zl,hu];simp only[if_true,W5];congr 1
theorem WQ:KeyC YP 82 QC.ke QC.eq:=⟨fun _=>by kernel_rfl,fun _ _=>by kernel_rfl,fun k=>by
 show((true && ((decide (IntKind.i64=.i64) && k.a==k.a) && _)):Bool)=true;simp[Instr.sameBits],fun k k' h=>wo.1 h,⟨.array 4 3,by kernel_rfl,.inr ⟨fun _ _=>by kernel_rfl,fun k k'=>by
  have hi:Xq YP (underlying 3)=some (.int .i64):=by kernel_rfl
  have hs:Xq YP (sizeOf 3)=some 1:=by kernel_rfl
  have hk:Xq YP (underlying 82)=some (.array 4 3):=by kernel_rfl
  have h0:∀(a b c d:Int),Xq YP (part 3 #[.int .i64 a,.int .i64 b,.int .i64 c,.int .i64 d] (0*1))=some (.int .i64 a):=fun a b c d=>by kernel_rfl
  have h1:∀(a b c d:Int),Xq YP (part 3 #[.int .i64 a,.int .i64 b,.int .i64 c,.int .i64 d] ((0+1)*1))=some (.int .i64 b):=fun a b c d=>by kernel_rfl
  have h2:∀(a b c d:Int),Xq YP (part 3 #[.int .i64 a,.int .i64 b,.int .i64 c,.int .i64 d] ((0+1+1)*1))=some (.int .i64 c):=fun a b c d=>by kernel_rfl
  have h3:∀(a b c d:Int),Xq YP (part 3 #[.int .i64 a,.int .i64 b,.int .i64 c,.int .i64 d] ((0+1+1+1)*1))=some (.int .i64 d):=fun a b c d=>by kernel_rfl
  show Xq YP (Op.equalIn (9998+1+1) 82 (.agg #[.int .i64 k.a,.int .i64 k.b,.int .i64 k.c,.int .i64 k.d]) (.agg #[.int .i64 k'.a,.int .i64 k'.b,.int .i64 k'.c,.int .i64 k'.d]))=_;rw[Op.equalIn,Zl,hk];simp only[Zl,hs];rw[Std.Legacy.Range.forIn_eq_forIn_range'];simp only[Std.Legacy.Range.size,Oa,List.forIn_cons,List.forIn_nil,Zl];show _=some (decide (k.a=k'.a) && (decide (k.b=k'.b) && (decide (k.c=k'.c) && decide (k.d=k'.d))));simp only[Zl,h0,pQ hi];cases decide (k.a=k'.a)with
  |false=>rfl
  |true=>
   simp only[Bool.not_true,Bool.false_eq_true,if_false,W5,Bool.true_and];simp only[Zl,h1,pQ hi];cases decide (k.b=k'.b)with
   |false=>rfl
   |true=>
    simp only[Bool.not_true,Bool.false_eq_true,if_false,W5,Bool.true_and];simp only[Zl,h2,pQ hi];cases decide (k.c=k'.c)with
    |false=>rfl
    |true=>
     simp only[Bool.not_true,Bool.false_eq_true,if_false,W5,Bool.true_and];simp only[Zl,h3,pQ hi];cases decide (k.d=k'.d)with
     |false=>rfl
     |true=>
      simp only[Bool.not_true,Bool.false_eq_true,if_false,W5,Bool.true_and]⟩⟩⟩
def JT(rf:Qe)(es:List (F4×F4)):Prop:=∀p∈es,∃(pl:List Int) (s:Nat),X2 rf pl=true/\1<=s/\(s:Int)<=rf.Qc/\p.1=TC pl s/\p.2=QG rf pl s
def XM(rf:Qe)(Qb:List Int):Nat->List (F4×F4)->List (F4×F4)
 |0,es=>es
 |s+1,es=>bif Sy QC es (TC Qb ((s+1:Nat):Int))then es else dP QC (XM rf Qb s es) (TC Qb ((s+1:Nat):Int)) (X3 (KA rf) (PC rf (Qb.getD s 0)) rf.Qa (QG rf Qb s))
theorem JM{rf:Qe}:JT rf []:=fun p h=>by cases h
theorem Ii{es:List (F4×F4)}{k:F4}(h:Sy QC es k=true):(k,JN QC es k)∈es:=by
 induction es with
 |nil=>cases h
 |cons p l ih=>
  unfold Sy YG at h;unfold JN vI;rw[List.any_cons]at h;cases e:QC.eq k p.1 with
  |true=>rw[wo.1 e];exact List.mem_cons_self ..
  |false=>
   rw[e,Bool.false_or]at h;exact NS _ (ih h)
theorem Gm{rf:Qe}(hr:XG rf=true){pl pl':List Int}{s s':Nat}(h:X2 rf pl=true)(h':X2 rf pl'=true)(hs:(s:Int)<=rf.Qc)(hs':(s':Int)<=rf.Qc)(e:TC pl s=TC pl' s'):s=s'/\∀k:Nat,k<s->pl.getD k 0=pl'.getD k 0:=by
 have Z0:=Q5 (Qs hr).1;have g:=fun j=>XK hr h j
 have g':=fun j=>XK hr h' j
 have e0:=congrArg F4.a e;have e1:=congrArg F4.b e;have e2:=congrArg F4.c e;have e3:=congrArg F4.d e;simp only[TC]at e0 e1 e2 e3;have g0:=g 0;have g1:=g 1;have g2:=g 2;have g3:=g 3;have g0':=g' 0;have g1':=g' 1;have g2':=g' 2;have g3':=g' 3;have es:s=s':=by
  repeat' split at e0
  all_goals (repeat' split at e1)
  all_goals (repeat' split at e2)
  all_goals (repeat' split at e3)
  all_goals omega
 subst es;refine⟨rfl,fun k hk=> ?_⟩;rcases(show k=0\/k=1\/k=2\/k=3 by omega)with rfl|rfl|rfl|rfl
 ·rw[if_pos (by omega),if_pos (by omega)]at e0;exact e0
 ·rw[if_pos (by omega),if_pos (by omega)]at e1;exact e1
 ·rw[if_pos (by omega),if_pos (by omega)]at e2;exact e2
 ·rw[if_pos (by omega),if_pos (by omega)]at e3;exact e3
theorem Ji{rf:Qe}{Qb:List Int}{s:Nat}(h:((s+1:Nat):Int)<=rf.Qc):QG rf Qb (s+1)=X3 (KA rf) (PC rf (Qb.getD s 0)) rf.Qa (QG rf Qb s):=Fh (i:=(s:Int)) (by omega) (by omega)
theorem vE{rf:Qe}{pl pl':List Int}:∀s:Nat,(s:Int)<=rf.Qc->(∀k:Nat,k<s->pl.getD k 0=pl'.getD k 0)->QG rf pl s=QG rf pl' s
 |0,_,_=>rfl
 |s+1,hs,h=>by
  rw[Ji hs,Ji hs,vE s (by omega) fun k hk=>h k (by omega),h s (by omega)]
theorem aF{rf:Qe}{Qb:List Int}{es:List (F4×F4)}{s:Nat}(hr:XG rf=true)(hp:X2 rf Qb=true)(he:JT rf es)(hs:(s:Int)<=rf.Qc)(h:Sy QC es (TC Qb s)=true):JN QC es (TC Qb s)=QG rf Qb s:=by
 obtain⟨pl,s',h1,_,h3,h4,h5⟩:=he _ (Ii h);obtain⟨rfl,hk⟩:=Gm hr hp h1 hs h3 h4;rw[show JN QC es (TC Qb s)=_ from h5];exact(vE s hs hk).symm
theorem Y5{rf:Qe}{Qb:List Int}(hr:XG rf=true){s:Nat}(hs:(s:Int)<=rf.Qc):Pa ⟨(QG rf Qb s).a,(QG rf Qb s).b,(QG rf Qb s).c,(QG rf Qb s).d⟩/\F4.sum ⟨(QG rf Qb s).a,(QG rf Qb s).b,(QG rf Qb s).c,(QG rf Qb s).d⟩<=10000000000:=by
 have Z0:=Q5 (Qs hr).1;have h:=(bC Qb hr).st s (by omega);have hh:=(bC Qb hr).hs;refine⟨h.1, ?_⟩;have:=h.2;show(QG rf Qb s).sum<=_;unfold QG;omega
def cX(a b c d k:Int)(w x y z i:Int):List Value:=[pA 2 0,pA 3 0,.int .i64 i]
def av(a b c d k:Int)(w x y z i:Int):List Obj:=[.cells #[.int .i64 w,.int .i64 x,.int .i64 y,.int .i64 z] 82 (0,0),Obj.cells #[.int .i64 0,.int .i64 0,.int .i64 0,.int .i64 0] 82]
noncomputable def cY:List Item:=([.code [1,0,1,0,0],.inLoop [1,0,1,0,0],.inBlock 0,.code [1,1]]).map (it (QX YP 111))
def HB(B:Lo)(c0:CF)(a b c d k:Int)(w x y z i:Int):Prop:=∃dJ:Nat->Value,(∀t,X4 (dJ t))/\GoE YP B c0 Ze 1 (QJ 111 14 (([2,4,5]:List Nat).zip (cX a b c d k w x y z i)) dJ cY) (QH (av a b c d k w x y z i)) (2+(av a b c d k w x y z i).length) []
theorem H9(B:Lo)(a b c d k:Int)(w x y z i:Int)(Qt:Nat->Value):let e:=av a b c d k w x y z i;landM (Qv YP (QA YP) J0 B 11 1 (QJ 111 14 (([2,4,5]:List Nat).zip (cX a b c d k w x y z i)) Qt cY) (QH e) (2+e.length)
 [(1,W9),(3,Qj.XV (Hint.idx i.toNat)),(4,Qj.XV (Hint.st #[.int .i64 (if ND i=0 then -1 else w),.int .i64 (if ND i=1 then -1 else x),.int .i64 (if ND i=2 then -1 else y),.int .i64 (if ND i=3 then -1 else z)])),(6,Wu (i+1))] 0 [] []) [2,4,5] [(2,KS.auto),(3,KS.auto)] []=some ⟨111,14,cY,[],.run,none,cX a b c d k (if ND i=0 then -1 else w) (if ND i=1 then -1 else x) (if ND i=2 then -1 else y) (if ND i=3 then -1 else z) (i+1),av a b c d k (if ND i=0 then -1 else w) (if ND i=1 then -1 else x) (if ND i=2 then -1 else y) (if ND i=3 then -1 else z) (i+1),
 [wq (i+1)=i+1,0+ND i*1+TypeInfo.size Try.t3<=Ox #[Value.int .i64 w,.int .i64 x,.int .i64 y,.int .i64 z]/\splice #[.int .i64 w,.int .i64 x,.int .i64 y,.int .i64 z] (0+ND i*1) (Value.cells (.int .i64 (-1)))=#[.int .i64 (if ND i=0 then -1 else w),.int .i64 (if ND i=1 then -1 else x),.int .i64 (if ND i=2 then -1 else y),.int .i64 (if ND i=3 then -1 else z)],i=(↑i.toNat:Int)/\ND i<4,XY i 4=true]⟩:=by intro e;kernel_rfl
theorem H8(B:Lo)(a b c d k:Int)(w x y z i:Int)(Qt:Nat->Value):let e:=av a b c d k w x y z i;Xe (Qv YP (QA YP) J0 B 9 1 (QJ 111 14 (([2,4,5]:List Nat).zip (cX a b c d k w x y z i)) Qt cY) (QH e) (2+e.length)
 [(1,Vd)] 0 [] []) []=some (.agg #[.int .i64 w,.int .i64 x,.int .i64 y,.int .i64 z],
 [XY i 4=false]):=by intro e;kernel_rfl
theorem H7(B:Lo)(a b c d k:Int):landM (Qv YP (QA YP) J0 B 7 1 (Qw YP 111 14 (([.agg #[.int .i64 a,.int .i64 b,.int .i64 c,.int .i64 d],.int .i64 k]).map (Q8 0 4))) Ze 1
 [] 0 [] []) [2,4,5] [(1,KS.auto),(2,KS.auto)] []=some ⟨111,14,cY,[],.run,none,cX a b c d k (a) (b) (c) (d) (k),av a b c d k (a) (b) (c) (d) (k),
 []⟩:=by kernel_rfl
set_option maxHeartbeats 4000000 in
theorem HA(a b c d k:Int)(k0:0<=k)(k4:k<=4){B:Lo}(hJ:∀w,B.has w->J0 w){c0:CF}:∀m:Nat,(∀(w x y z i:Int),(4-i).toNat=m->∀(h0:k<=i) (h4:i<=4) (hw:w=if k<=0/\0<i then -1 else a) (hx:x=if k<=1/\1<i then -1 else b) (hy:y=if k<=2/\2<i then -1 else c) (hz:z=if k<=3/\3<i then -1 else d),HB B c0 a b c d k w x y z i->EndsT YP B c0 (.agg #[.int .i64 (if 0<k then a else -1),.int .i64 (if 1<k then b else -1),.int .i64 (if 2<k then c else -1),.int .i64 (if 3<k then d else -1)])):=by
 intro m0;induction m0 using Oi with
 |_ m0 ih0=>
  intro w x y z i Ru h0 h4 hw hx hy hz ⟨Qt,Vs,XL⟩;by_cases q0:(i:Int)<(4)
  ·exact((ih0 _ (by omega)) (if ND i=0 then -1 else w) (if ND i=1 then -1 else x) (if ND i=2 then -1 else y) (if ND i=3 then -1 else z) (i+1) rfl (by omega) (by omega) (by omega) (by omega) (by omega) (by omega)
    (XL.landM okF hJ Qf (H9 B a b c d k w x y z i Qt)
    ⟨(Xb (by omega) (by omega)),⟨(np rfl (fs:=[w,x,y,z]) rfl (OB (m:=4) (by omega) rfl) rfl),⟨⟨by omega,by omega⟩,⟨(XD q0),trivial⟩⟩⟩⟩ (by kernel_rfl) (by kernel_rfl))).cast (by rfl)
  ·exact(GoE.endsT okF hJ Qf XL (H8 B a b c d k w x y z i Qt)
    ⟨(Zb (Int.not_lt.1 q0)),trivial⟩).cast (by(simp_all[];omega))
set_option maxHeartbeats 4000000 in
theorem LC(a b c d k:Int)(k0:0<=k)(k4:k<=4){B:Lo}(hJ:∀w,B.has w->J0 w):EndsT YP B (Qw YP 111 14 (([.agg #[.int .i64 a,.int .i64 b,.int .i64 c,.int .i64 d],.int .i64 k]).map (Q8 0 4))) (.agg #[.int .i64 (if 0<k then a else -1),.int .i64 (if 1<k then b else -1),.int .i64 (if 2<k then c else -1),.int .i64 (if 3<k then d else -1)]):=by
 exact((HA a b c d k k0 k4 hJ _) (a) (b) (c) (d) (k) rfl (by omega) (by with_reducible assumption) (by omega) (by omega) (by omega) (by omega)
  (GoE.start.landM okF hJ Qf (H7 B a b c d k)
  trivial (by kernel_rfl) (by kernel_rfl))).cast (by rfl)
theorem HC(a b c d k:Int)(k0:0<=k)(k4:k<=4):Q4 YP J0 111 #[.agg #[.int .i64 a,.int .i64 b,.int .i64 c,.int .i64 d],.int .i64 k] (.agg #[.int .i64 (if 0<k then a else -1),.int .i64 (if 1<k then b else -1),.int .i64 (if 2<k then c else -1),.int .i64 (if 3<k then d else -1)]):=
 Xr (ts:=[.agg #[.int .i64 a,.int .i64 b,.int .i64 c,.int .i64 d],.int .i64 k]) Zk (c0:=Qw YP 111 14 (([.agg #[.int .i64 a,.int .i64 b,.int .i64 c,.int .i64 d],.int .i64 k]).map (Q8 0 4))) (by kernel_rfl) (by kernel_rfl) fun B hJ=>LC a b c d k k0 k4 hJ
end Go.Proofs.Ytncjjangllkokaa

