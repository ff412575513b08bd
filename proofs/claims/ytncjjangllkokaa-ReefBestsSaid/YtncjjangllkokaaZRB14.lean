/- Reef: what becomes of it in truth, by the reference. -/
import Derived.Test.YtncjjangllkokaaZRB13
import Derived.Test.YtncjjangllkokaaZRB07
import Derived.Test.YtncjjangllkokaaZRB11
set_option linter.all false
open Int renaming toNat->Lb,tdiv->Lc,le_refl->LH
open List renaming length->Ld,set->LM,getD->Ln,length_set->LS,length_replicate->LN,length_nil->LD,length_append->Ls,length_cons->Lr,getD_eq_getElem?_getD->Li,getElem?_eq_none->LA,range->Le
open Array renaming size->LQ
open Nat renaming strongRecOn->LB,ble->LI,blt->Ll,beq->Lf
open List.Mem renaming head->LP
open Inhabited renaming default->La
namespace Go.Proofs.Ytncjjangllkokaa
open Go Go.CE Go.RowKit
noncomputable section
set_option maxRecDepth 100000
section
variable (x_:Qd)(B:Lo)(c0:CF)(rf:Qc)(t:XA)(s i l0 l1 l2 l3 l4:Int)(Qo grown:List Int)(rows:List RW)(Q6:Nat)(Ql:Nat->Value)
abbrev KP:Value:=.tuple #[Xo (XD rf.Qb rf.Qa t.Qp t.Qx (Qg t.Qi)).length (Qe XM (XD rf.Qb rf.Qa t.Qp t.Qx (Qg t.Qi))),.agg #[YI (Qg t.Qi).sum,YI (Xj 0 rf.Qb (Vd rf.Qa t.Qp t.Qx (Qg t.Qi))),YI (Xj 0 rf.Qb (ZI rf.Qa t.Qp t.Qx (Qg t.Qi))),YI (Xj 0 rf.Qb (Vc rf.Qa t.Qp t.Qx (Qg t.Qi))),YI (Z5 rf.Qa t.Qp t.Qx (Qg t.Qi) rf.Qb.toNat).sum]]
def Ud:Array Value:=#[YI x_.count,YI x_.room,YI x_.UR,YI x_.US,YI x_.QI,YI x_.Xw,YI x_.VB,YI x_.VC,YI x_.Vr,YI x_.Vs,YI x_.goal,YI x_.XF]
def Kn:Array Value:=#[Qk 1 (X7 t.Qi),Qk 1 (Xo t.Qp.length (Qe XM t.Qp)),Qk 1 (Xo t.Qx.length (Qe XM t.Qx))]
def Kl  :Array Value:=#[YI 0,YI 0,YI 0,YI 0,YI 0]
def jV:Array Value:=#[.slice (some {block:=8,off:=0}) t.Qi.length 1]
def jU:Value:=(.slice (some {block:=7,off:=0}) t.Qi.length 1)
def jT:Value:=(.slice (some {block:=5,off:=0}) t.Qi.length 1)
def jS:Value:=(.slice (some {block:=8,off:=0}) t.Qi.length 1)
def Tb:Array Value:=(Qe Qt rf.Qa)
def Km:Array Value:=#[Qk 1 (Xo rf.Qa.length (Tb rf)),YI rf.Qh,YI rf.Qb]
def dM(rf:Qc)(t:XA)(i l0:Int):List Value:=[pA 2 0,pA 3 0,pA 4 0,.slice (some {block:=5,off:=0}) t.Qi.length 1,pA 6 0,YI i]
def Re(i l0:Int):List Obj:=let a:=t.Qi;[Obj.cells #[Qk 1 (Xp rf.Qa),YI rf.Qh,YI rf.Qb] 24,Obj.cells #[Qk 1 (X7 a),Qk 1 (Xo t.Qp.length (Qe XM t.Qp)),Qk 1 (Xo t.Qx.length (Qe XM t.Qx))] 42,Obj.cells #[YI 0,YI 0,YI 0,YI 0,YI 0] 45,Obj.cells (Qe Qy a) 3,.cells #[YI l0,YI 0,YI 0,YI 0,YI 0] 45 (0,0)]
def dT:List Item:=([.code [1,1,1,0,1,0,0],.inLoop [1,1,1,0,1,0,0],.inBlock 0,.code [1,1,1,1]]).map (it (Q8 YP 28))
def MZ:Prop:=∃dJ:Nat->Value,(∀t,Xh (dJ t))/\GoE YP B c0 Zd 1 (QC 28 186 (([2,3,5,6,7,8]:List Nat).zip (dM rf t i l0)) dJ dT) (Q9 (Re rf t i l0)) (2+(Re rf t i l0).length) []
def jW(rf:Qc)(t:XA)(s l0 l1 l2 l3:Int)(Qo:List Int):List Value:=[pA 2 0,pA 3 0,pA 4 0,.slice (some {block:=5,off:=0}) t.Qi.length 1,pA 6 0,.slice none 0 0,YI s]
def dU(s l0 l1 l2 l3:Int)(Qo:List Int):List Obj:=[Obj.cells #[Qk 1 (Xp rf.Qa),YI rf.Qh,YI rf.Qb] 24,Obj.cells #[Qk 1 (X7 t.Qi),Qk 1 (Xo t.Qp.length (Qe XM t.Qp)),Qk 1 (Xo t.Qx.length (Qe XM t.Qx))] 42,Obj.cells #[YI 0,YI 0,YI 0,YI 0,YI 0] 45,.cells (Qe Qy Qo) 3 (0,0),.cells #[YI l0,YI l1,YI l2,YI l3,YI 0] 45 (0,0)]
def jX:List Item:=([.code [1,1,1,1,1,0,1,0,0],.inLoop [1,1,1,1,1,0,1,0,0],.inBlock 2,.code [1,1,1,1,1,1]]).map (it (Q8 YP 28))
def MY:Prop:=∃dJ:Nat->Value,(∀t,Xh (dJ t))/\GoE YP B c0 Zd 1 (QC 28 186 (([2,3,5,6,7,9,10]:List Nat).zip (jW rf t s l0 l1 l2 l3 Qo)) dJ jX) (Q9 (dU rf t s l0 l1 l2 l3 Qo)) (2+(dU rf t s l0 l1 l2 l3 Qo).length) []
def dL(rf:Qc)(t:XA)(s l0 l1 l2 l3:Int)(Qo:List Int)(rows:List RW)(Q6:Nat):List Value:=[pA 2 0,pA 3 0,pA 4 0,.slice (some {block:=5,off:=0}) t.Qi.length 1,pA 6 0,.slice (some ⟨7,0,none⟩) Q6 1,YI s]
def bw(s l0 l1 l2 l3:Int)(Qo:List Int)(rows:List RW)(Q6:Nat):List Obj:=[Obj.cells #[Qk 1 (Xp rf.Qa),YI rf.Qh,YI rf.Qb] 24,Obj.cells #[Qk 1 (X7 t.Qi),Qk 1 (Xo t.Qp.length (Qe XM t.Qp)),Qk 1 (Xo t.Qx.length (Qe XM t.Qx))] 42,Obj.cells #[YI 0,YI 0,YI 0,YI 0,YI 0] 45,.cells (Qe Qy Qo) 3 (0,0),.cells #[YI l0,YI l1,YI l2,YI l3,YI 0] 45 (0,0),Obj.cells (Qe (QY 1 QP) rows) 25 (0,0)]
def dS:List Item:=([.code [1,1,1,1,1,0,1,0,0],.inLoop [1,1,1,1,1,0,1,0,0],.inBlock 2,.code [1,1,1,1,1,1]]).map (it (Q8 YP 28))
def MX:Prop:=∃dJ:Nat->Value,(∀t,Xh (dJ t))/\GoE YP B c0 Zd 1 (QC 28 186 (([2,3,5,6,7,9,10]:List Nat).zip (dL rf t s l0 l1 l2 l3 Qo rows Q6)) dJ dS) (Q9 (bw rf t s l0 l1 l2 l3 Qo rows Q6)) (2+(bw rf t s l0 l1 l2 l3 Qo rows Q6).length) []
def dK(rf:Qc)(t:XA)(s i l0 l1 l2 l3:Int)(Qo:List Int):List Value:=[pA 2 0,pA 3 0,pA 4 0,.slice (some {block:=5,off:=0}) t.Qi.length 1,pA 6 0,.slice none 0 0,YI s,YI i]
def Rd(s i l0 l1 l2 l3:Int)(Qo:List Int):List Obj:=[Obj.cells #[Qk 1 (Xp rf.Qa),YI rf.Qh,YI rf.Qb] 24,Obj.cells #[Qk 1 (X7 t.Qi),Qk 1 (Xo t.Qp.length (Qe XM t.Qp)),Qk 1 (Xo t.Qx.length (Qe XM t.Qx))] 42,Obj.cells #[YI 0,YI 0,YI 0,YI 0,YI 0] 45,.cells (Qe Qy Qo) 3 (0,0),.cells #[YI l0,YI l1,YI l2,YI l3,YI 0] 45 (0,0)]
def dR:List Item:=([.code [1,1,1,1,1,0,1,0,0,1,0,0,0,1,0,0],.inLoop [1,1,1,1,1,0,1,0,0,1,0,0,0,1,0,0],.inBlock 4,.code [1,1,1,1,1,0,1,0,0,1,0,0,1],.inBlock 3,.code [1,1,1,1,1,0,1,0,0,1,1],.inLoop [1,1,1,1,1,0,1,0,0],.inBlock 2,.code [1,1,1,1,1,1]]).map (it (Q8 YP 28))
def MW:Prop:=∃dJ:Nat->Value,(∀t,Xh (dJ t))/\GoE YP B c0 Zd 1 (QC 28 186 (([2,3,5,6,7,9,10,11]:List Nat).zip (dK rf t s i l0 l1 l2 l3 Qo)) dJ dR) (Q9 (Rd rf t s i l0 l1 l2 l3 Qo)) (2+(Rd rf t s i l0 l1 l2 l3 Qo).length) []
def dI(rf:Qc)(t:XA)(s i l0 l1 l2 l3:Int)(Qo:List Int)(rows:List RW)(Q6:Nat):List Value:=[pA 2 0,pA 3 0,pA 4 0,.slice (some {block:=5,off:=0}) t.Qi.length 1,pA 6 0,.slice (some ⟨7,0,none⟩) Q6 1,YI s,YI i]
def Th(s i l0 l1 l2 l3:Int)(Qo:List Int)(rows:List RW)(Q6:Nat):List Obj:=[Obj.cells #[Qk 1 (Xp rf.Qa),YI rf.Qh,YI rf.Qb] 24,Obj.cells #[Qk 1 (X7 t.Qi),Qk 1 (Xo t.Qp.length (Qe XM t.Qp)),Qk 1 (Xo t.Qx.length (Qe XM t.Qx))] 42,Obj.cells #[YI 0,YI 0,YI 0,YI 0,YI 0] 45,.cells (Qe Qy Qo) 3 (0,0),.cells #[YI l0,YI l1,YI l2,YI l3,YI 0] 45 (0,0),Obj.cells (Qe (QY 1 QP) rows) 25 (0,0)]
def dQ:List Item:=([.code [1,1,1,1,1,0,1,0,0,1,0,0,0,1,0,0],.inLoop [1,1,1,1,1,0,1,0,0,1,0,0,0,1,0,0],.inBlock 4,.code [1,1,1,1,1,0,1,0,0,1,0,0,1],.inBlock 3,.code [1,1,1,1,1,0,1,0,0,1,1],.inLoop [1,1,1,1,1,0,1,0,0],.inBlock 2,.code [1,1,1,1,1,1]]).map (it (Q8 YP 28))
def MV:Prop:=∃dJ:Nat->Value,(∀t,Xh (dJ t))/\GoE YP B c0 Zd 1 (QC 28 186 (([2,3,5,6,7,9,10,11]:List Nat).zip (dI rf t s i l0 l1 l2 l3 Qo rows Q6)) dJ dQ) (Q9 (Th rf t s i l0 l1 l2 l3 Qo rows Q6)) (2+(Th rf t s i l0 l1 l2 l3 Qo rows Q6).length) []
def dH(rf:Qc)(t:XA)(i l0 l1 l2 l3 l4:Int)(Qo:List Int):List Value:=[pA 2 0,.slice (some {block:=3,off:=0}) t.Qi.length 1,pA 4 0,.slice none 0 0,YI i]
def bu(rf:Qc)(t:XA)(i l0 l1 l2 l3 l4:Int)(Qo:List Int):List Obj:=[Obj.cells #[YI 0,YI 0,YI 0,YI 0,YI 0] 45,.cells (Qe Qy Qo) 3 (0,0),.cells #[YI l0,YI l1,YI l2,YI l3,YI l4] 45 (0,0)]
def dP:List Item:=([.code [1,1,1,1,1,1,0,1,0,0],.inLoop [1,1,1,1,1,1,0,1,0,0],.inBlock 10,.code [1,1,1,1,1,1,1]]).map (it (Q8 YP 28))
def MU:Prop:=∃dJ:Nat->Value,(∀t,Xh (dJ t))/\GoE YP B c0 Zd 1 (QC 28 186 (([5,6,7,9,19]:List Nat).zip (dH rf t i l0 l1 l2 l3 l4 Qo)) dJ dP) (Q9 (bu rf t i l0 l1 l2 l3 l4 Qo)) (2+(bu rf t i l0 l1 l2 l3 l4 Qo).length) []
def dG(rf:Qc)(t:XA)(i l0 l1 l2 l3 l4:Int)(Qo:List Int)(rows:List RW)(Q6:Nat):List Value:=[pA 2 0,.slice (some {block:=3,off:=0}) t.Qi.length 1,pA 4 0,.slice (some ⟨5,0,none⟩) Q6 1,YI i]
def bt(rf:Qc)(t:XA)(i l0 l1 l2 l3 l4:Int)(Qo:List Int)(rows:List RW)(Q6:Nat):List Obj:=[Obj.cells #[YI 0,YI 0,YI 0,YI 0,YI 0] 45,.cells (Qe Qy Qo) 3 (0,0),.cells #[YI l0,YI l1,YI l2,YI l3,YI l4] 45 (0,0),Obj.cells (Qe (QY 1 QP) rows) 25 (0,0)]
def dO:List Item:=([.code [1,1,1,1,1,1,0,1,0,0],.inLoop [1,1,1,1,1,1,0,1,0,0],.inBlock 10,.code [1,1,1,1,1,1,1]]).map (it (Q8 YP 28))
def MT:Prop:=∃dJ:Nat->Value,(∀t,Xh (dJ t))/\GoE YP B c0 Zd 1 (QC 28 186 (([5,6,7,9,19]:List Nat).zip (dG rf t i l0 l1 l2 l3 l4 Qo rows Q6)) dJ dO) (Q9 (bt rf t i l0 l1 l2 l3 l4 Qo rows Q6)) (2+(bt rf t i l0 l1 l2 l3 l4 Qo rows Q6).length) []
def Td(rf:Qc)(t:XA)(s i l0 l1 l2 l3:Int)(Qo grown:List Int):List Value:=[pA 2 0,pA 3 0,pA 4 0,.slice (some {block:=5,off:=0}) t.Qi.length 1,pA 6 0,.slice none 0 0,YI s,.slice (some {block:=7,off:=0}) t.Qi.length 1,YI i]
def Rc(s i l0 l1 l2 l3:Int)(Qo grown:List Int):List Obj:=[Obj.cells #[Qk 1 (Xp rf.Qa),YI rf.Qh,YI rf.Qb] 24,Obj.cells #[Qk 1 (X7 t.Qi),Qk 1 (Xo t.Qp.length (Qe XM t.Qp)),Qk 1 (Xo t.Qx.length (Qe XM t.Qx))] 42,Obj.cells #[YI 0,YI 0,YI 0,YI 0,YI 0] 45,.cells (Qe Qy Qo) 3 (0,0),.cells #[YI l0,YI l1,YI l2,YI l3,YI 0] 45 (0,0),.cells (Qe Qy grown) 3 (0,0)]
def Tf:List Item:=([.code [1,1,1,1,1,0,1,0,0,1,0,0,1,1,0,1,0,0],.inLoop [1,1,1,1,1,0,1,0,0,1,0,0,1,1,0,1,0,0],.inBlock 6,.code [1,1,1,1,1,0,1,0,0,1,0,0,1,1,1],.inBlock 3,.code [1,1,1,1,1,0,1,0,0,1,1],.inLoop [1,1,1,1,1,0,1,0,0],.inBlock 2,.code [1,1,1,1,1,1]]).map (it (Q8 YP 28))
def MQ:Prop:=∃dJ:Nat->Value,(∀t,Xh (dJ t))/\GoE YP B c0 Zd 1 (QC 28 186 (([2,3,5,6,7,9,10,13,14]:List Nat).zip (Td rf t s i l0 l1 l2 l3 Qo grown)) dJ Tf) (Q9 (Rc rf t s i l0 l1 l2 l3 Qo grown)) (2+(Rc rf t s i l0 l1 l2 l3 Qo grown).length) []
def Tc(rf:Qc)(t:XA)(s i l0 l1 l2 l3:Int)(Qo grown:List Int)(rows:List RW)(Q6:Nat):List Value:=[pA 2 0,pA 3 0,pA 4 0,.slice (some {block:=5,off:=0}) t.Qi.length 1,pA 6 0,.slice (some ⟨8,0,none⟩) Q6 1,YI s,.slice (some {block:=7,off:=0}) t.Qi.length 1,YI i]
def Rb(s i l0 l1 l2 l3:Int)(Qo grown:List Int)(rows:List RW)(Q6:Nat):List Obj:=[Obj.cells #[Qk 1 (Xp rf.Qa),YI rf.Qh,YI rf.Qb] 24,Obj.cells #[Qk 1 (X7 t.Qi),Qk 1 (Xo t.Qp.length (Qe XM t.Qp)),Qk 1 (Xo t.Qx.length (Qe XM t.Qx))] 42,Obj.cells #[YI 0,YI 0,YI 0,YI 0,YI 0] 45,.cells (Qe Qy Qo) 3 (0,0),.cells #[YI l0,YI l1,YI l2,YI l3,YI 0] 45 (0,0),.cells (Qe Qy grown) 3 (0,0),Obj.cells (Qe (QY 1 QP) rows) 25 (0,0)]
def Te:List Item:=([.code [1,1,1,1,1,0,1,0,0,1,0,0,1,1,0,1,0,0],.inLoop [1,1,1,1,1,0,1,0,0,1,0,0,1,1,0,1,0,0],.inBlock 6,.code [1,1,1,1,1,0,1,0,0,1,0,0,1,1,1],.inBlock 3,.code [1,1,1,1,1,0,1,0,0,1,1],.inLoop [1,1,1,1,1,0,1,0,0],.inBlock 2,.code [1,1,1,1,1,1]]).map (it (Q8 YP 28))
def MP:Prop:=∃dJ:Nat->Value,(∀t,Xh (dJ t))/\GoE YP B c0 Zd 1 (QC 28 186 (([2,3,5,6,7,9,10,13,14]:List Nat).zip (Tc rf t s i l0 l1 l2 l3 Qo grown rows Q6)) dJ Te) (Q9 (Rb rf t s i l0 l1 l2 l3 Qo grown rows Q6)) (2+(Rb rf t s i l0 l1 l2 l3 Qo grown rows Q6).length) []
def dF(rf:Qc)(t:XA)(s i l0 l1 l2 l3:Int)(Qo:List Int):List Value:=[pA 2 0,pA 3 0,pA 4 0,.slice (some {block:=5,off:=0}) t.Qi.length 1,pA 6 0,.slice none 0 0,YI s,YI i]
def Tg(s i l0 l1 l2 l3:Int)(Qo:List Int):List Obj:=[Obj.cells #[Qk 1 (Xp rf.Qa),YI rf.Qh,YI rf.Qb] 24,Obj.cells #[Qk 1 (X7 t.Qi),Qk 1 (Xo t.Qp.length (Qe XM t.Qp)),Qk 1 (Xo t.Qx.length (Qe XM t.Qx))] 42,Obj.cells #[YI 0,YI 0,YI 0,YI 0,YI 0] 45,.cells (Qe Qy Qo) 3 (0,0),.cells #[YI l0,YI l1,YI l2,YI l3,YI 0] 45 (0,0)]
def dN:List Item:=([.code [1,1,1,1,1,0,1,0,0,1,0,0,1,1,1,0,1,0,0],.inLoop [1,1,1,1,1,0,1,0,0,1,0,0,1,1,1,0,1,0,0],.inBlock 8,.code [1,1,1,1,1,0,1,0,0,1,0,0,1,1,1,1],.inBlock 3,.code [1,1,1,1,1,0,1,0,0,1,1],.inLoop [1,1,1,1,1,0,1,0,0],.inBlock 2,.code [1,1,1,1,1,1]]).map (it (Q8 YP 28))
def MO:Prop:=∃dJ:Nat->Value,(∀t,Xh (dJ t))/\GoE YP B c0 Zd 1 (QC 28 186 (([2,3,5,6,7,9,10,17]:List Nat).zip (dF rf t s i l0 l1 l2 l3 Qo)) dJ dN) (Q9 (Tg rf t s i l0 l1 l2 l3 Qo)) (2+(Tg rf t s i l0 l1 l2 l3 Qo).length) []
def ah(rf:Qc)(t:XA)(s i l0 l1 l2 l3:Int)(Qo:List Int)(rows:List RW)(Q6:Nat):List Value:=[pA 2 0,pA 3 0,pA 4 0,.slice (some {block:=5,off:=0}) t.Qi.length 1,pA 6 0,.slice (some ⟨7,0,none⟩) Q6 1,YI s,YI i]
def Ps(s i l0 l1 l2 l3:Int)(Qo:List Int)(rows:List RW)(Q6:Nat):List Obj:=[Obj.cells #[Qk 1 (Xp rf.Qa),YI rf.Qh,YI rf.Qb] 24,Obj.cells #[Qk 1 (X7 t.Qi),Qk 1 (Xo t.Qp.length (Qe XM t.Qp)),Qk 1 (Xo t.Qx.length (Qe XM t.Qx))] 42,Obj.cells #[YI 0,YI 0,YI 0,YI 0,YI 0] 45,.cells (Qe Qy Qo) 3 (0,0),.cells #[YI l0,YI l1,YI l2,YI l3,YI 0] 45 (0,0),Obj.cells (Qe (QY 1 QP) rows) 25 (0,0)]
def ai:List Item:=([.code [1,1,1,1,1,0,1,0,0,1,0,0,1,1,1,0,1,0,0],.inLoop [1,1,1,1,1,0,1,0,0,1,0,0,1,1,1,0,1,0,0],.inBlock 8,.code [1,1,1,1,1,0,1,0,0,1,0,0,1,1,1,1],.inBlock 3,.code [1,1,1,1,1,0,1,0,0,1,1],.inLoop [1,1,1,1,1,0,1,0,0],.inBlock 2,.code [1,1,1,1,1,1]]).map (it (Q8 YP 28))
def Fy:Prop:=∃dJ:Nat->Value,(∀t,Xh (dJ t))/\GoE YP B c0 Zd 1 (QC 28 186 (([2,3,5,6,7,9,10,17]:List Nat).zip (ah rf t s i l0 l1 l2 l3 Qo rows Q6)) dJ ai) (Q9 (Ps rf t s i l0 l1 l2 l3 Qo rows Q6)) (2+(Ps rf t s i l0 l1 l2 l3 Qo rows Q6).length) []
theorem MM(B:Lo)(rf:Qc)(t:XA)(i l0:Int)(Ql:Nat->Value):let c:=Lb i;let a:=t.Qi;let e:=Qe Qy a;let d:=YI (a.getD c La);let b:=l0+a.getD c La;landM (Qn YP (Q0 YP) J0 B 11 1 (QC 28 186 (([2,3,5,6,7,8]:List Nat).zip (dM rf t i l0)) Ql dT) (Q9 (Re rf t i l0)) (2+(Re rf t i l0).length)
 [(3,Wj),(8,Qf.XO (Hint.idx c)),(9,Qf.XO (Hint.ld d)),(10,Zu b),(14,Zu (i+1))] 0 [] []) [2,3,5,6,7,8] [(2,KS.auto),(3,KS.auto),(4,KS.auto),(5,KS.cells [] e),(6,KS.auto)] []=some ⟨28,186,dT,[],.run,none,dM rf t (i+1) b,Re rf t (i+1) b,
 [QE 1 [] e e,wq (i+1)=i+1,wq b=l0+a.getD c La,e[0+Lb i*1]? =some d,i=(↑c:Int)/\Lb i<Ld a,XB i (↑a.length:Int)=true]⟩:=by intro c a e d b;kernel_rfl
theorem ML(B:Lo)(rf:Qc)(t:XA)(i l0:Int)(Ql:Nat->Value):let a:=t.Qi;let b:=Qe Qy a;landM (Qn YP (Q0 YP) J0 B 12 1 (QC 28 186 (([2,3,5,6,7,8]:List Nat).zip (dM rf t i l0)) Ql dT) (Q9 (Re rf t i l0)) (2+(Re rf t i l0).length)
 [(3,WC)] 0 [] []) [2,3,5,6,7,9,10] [(2,KS.auto),(3,KS.auto),(4,KS.auto),(5,KS.cells [] b),(6,KS.auto)] []=some ⟨28,186,jX,[],.run,none,jW rf t (0) (l0) (0) (0) (0) a,dU rf t (0) (l0) (0) (0) (0) a,
 [QE 1 [] b b,XB i (↑a.length:Int)=false]⟩:=by intro a b;kernel_rfl
theorem MK(B:Lo)(rf:Qc)(t:XA)(s l0 l1 l2 l3:Int)(Qo:List Int)(Ql:Nat->Value):let b:=Qe Qy Qo;let a:=dU rf t s l0 l1 l2 l3 Qo;landM (Qn YP (Q0 YP) J0 B 12 1 (QC 28 186 (([2,3,5,6,7,9,10]:List Nat).zip (jW rf t s l0 l1 l2 l3 Qo)) Ql jX) (Q9 a) (2+a.length)
 [(3,Wj)] 0 [] []) [2,3,5,6,7,9,10,11] [(2,KS.auto),(3,KS.auto),(4,KS.auto),(5,KS.cells [] b),(6,KS.auto)] []=some ⟨28,186,dR,[],.run,none,dK rf t (s) (0) (l0) (l1) (l2) (l3) (Qo),Rd rf t (s) (0) (l0) (l1) (l2) (l3) (Qo),
 [QE 1 [] b b,XB s rf.Qb=true]⟩:=by intro b a;kernel_rfl
theorem MJ(B:Lo)(rf:Qc)(t:XA)(s l0 l1 l2 l3:Int)(Qo:List Int)(Ql:Nat->Value):let b:=Qe Qy Qo;let a:=dU rf t s l0 l1 l2 l3 Qo;landM (Qn YP (Q0 YP) J0 B 10 1 (QC 28 186 (([2,3,5,6,7,9,10]:List Nat).zip (jW rf t s l0 l1 l2 l3 Qo)) Ql jX) (Q9 a) (2+a.length)
 [(3,WC)] 0 [] []) [5,6,7,9,19] [(4,KS.auto),(5,KS.cells [] b),(6,KS.auto)] []=some ⟨28,186,dP,[],.run,none,dH rf t (0) (l0) (l1) (l2) (l3) (0) (Qo),bu rf t (0) (l0) (l1) (l2) (l3) (0) (Qo),
 [QE 1 [] b b,XB s rf.Qb=false]⟩:=by intro b a;kernel_rfl
theorem MI(B:Lo)(rf:Qc)(t:XA)(s l0 l1 l2 l3:Int)(Qo:List Int)(rows:List RW)(Q6:Nat)(Ql:Nat->Value):let c:=Qe Qy Qo;let b:=bw rf t s l0 l1 l2 l3 Qo rows Q6;let a:=Qe (QY 1 QP) rows;landM (Qn YP (Q0 YP) J0 B 12 1 (QC 28 186 (([2,3,5,6,7,9,10]:List Nat).zip (dL rf t s l0 l1 l2 l3 Qo rows Q6)) Ql dS) (Q9 b) (2+b.length)
 [(3,Wj)] 0 [] []) [2,3,5,6,7,9,10,11] [(2,KS.auto),(3,KS.auto),(4,KS.auto),(5,KS.cells [] c),(6,KS.auto),(7,KS.rows [(1,1)] [] [] a)] []=some ⟨28,186,dQ,[],.run,none,dI rf t (s) (0) (l0) (l1) (l2) (l3) (Qo) (rows) (Q6),Th rf t (s) (0) (l0) (l1) (l2) (l3) (Qo) (rows) (Q6),
 [QE 1 [] c c,QX 1 [(1,1)] [] [] a a,XB s rf.Qb=true]⟩:=by intro c b a;kernel_rfl
theorem MH(B:Lo)(rf:Qc)(t:XA)(s l0 l1 l2 l3:Int)(Qo:List Int)(rows:List RW)(Q6:Nat)(Ql:Nat->Value):let c:=Qe Qy Qo;let b:=bw rf t s l0 l1 l2 l3 Qo rows Q6;let a:=Qe (QY 1 QP) rows;landM (Qn YP (Q0 YP) J0 B 10 1 (QC 28 186 (([2,3,5,6,7,9,10]:List Nat).zip (dL rf t s l0 l1 l2 l3 Qo rows Q6)) Ql dS) (Q9 b) (2+b.length)
 [(3,WC)] 0 [] []) [5,6,7,9,19] [(4,KS.auto),(5,KS.cells [] c),(6,KS.auto),(7,KS.rows [(1,1)] [] [] a)] []=some ⟨28,186,dO,[],.run,none,dG rf t (0) (l0) (l1) (l2) (l3) (0) (Qo) (rows) (Q6),bt rf t (0) (l0) (l1) (l2) (l3) (0) (Qo) (rows) (Q6),
 [QE 1 [] c c,QX 1 [(1,1)] [] [] a a,XB s rf.Qb=false]⟩:=by intro c b a;kernel_rfl
theorem MG(B:Lo)(rf:Qc)(t:XA)(s i l0 l1 l2 l3:Int)(Qo:List Int)(Ql:Nat->Value):let m:=Qe Qy Qo;let l:=t.Qi;let f:=Lb i;let e:=t.Qp.getD s.toNat La;let d:=Qo.getD f La;let j:=YI d;let c:=rf.Qa.getD f La;let g:=c.room;let b:=e.getD f La;let n:=YI (Wg g d b);let k:=l1+Wg g d b;let a:=Qo.getD f La+Wg g d b;let h:=LM Qo f a;let o:=Qe Qy h;landM (Qn YP (Q0 YP) J0 B 13 1 (QC 28 186 (([2,3,5,6,7,9,10,11]:List Nat).zip (dK rf t s i l0 l1 l2 l3 Qo)) Ql dR) (Q9 (Rd rf t s i l0 l1 l2 l3 Qo)) (2+(Rd rf t s i l0 l1 l2 l3 Qo).length)
 [(3,Wj),(7,Qf.tidx f (Ud c)),(11,Qf.XO (Hint.idx f)),(12,Qf.XO (Hint.ld j)),(16,Qf.tidx s.toNat #[X7 e]),(19,Qf.tidx f #[YI b]),(21,Qf.pure n []),(27,Qf.XO (Hint.idx f)),(28,Qf.XO (Hint.ld j)),(30,Zu a),(34,Zu k),(35,Qf.XO (Hint.idx f)),(36,Qf.XO (Hint.st o)),(40,Zu (i+1))] 0 [] []) [2,3,5,6,7,9,10,11] [(2,KS.auto),(3,KS.auto),(4,KS.auto),(5,KS.cells [] o),(6,KS.auto)] []=some ⟨28,186,dR,[],.run,none,dK rf t (s) (i+1) (l0) k (l2) (l3) h,Rd rf t (s) (i+1) (l0) k (l2) (l3) h,
 [QE 1 [] o o,wq (i+1)=i+1,0+Lb i*1+TypeInfo.size Try.t3<=LQ m/\splice m (0+Lb i*1) (Value.cells (Xx {len:=16000,tr:=Tri.set 14 (Tri.set 14 Tri.lf 74 (YI a)) 79 (.pointer (some {block:=5,off:=0+Lb i*1}))} 74))=Qe Qy h,i=(↑f:Int)/\Lb i<Ld l,wq k=l1+Wg g d b,wq a=Qo.getD f La+Wg g d b,m[0+Lb i*1]? =some j,i=(↑f:Int)/\Lb i<Ld l,Qz []/\Qv YP J0 62 #[.agg (Ud c),YI d,YI b] n,VN i e.length (Qe Qy e) Try.t3.size #[YI b],VN s t.Qp.length (Qe XM t.Qp) Try.t25.size #[X7 e],m[0+Lb i*1]? =some j,i=(↑f:Int)/\Lb i<Ld l,VN i rf.Qa.length (Tb rf) Try.t54.size (Ud c),XB i (↑l.length:Int)=true]⟩:=by intro m l f e d j c g b n k a h o;kernel_rfl
theorem MF:landM (Qn YP (Q0 YP) J0 B 12 1 (QC 28 186 (([2,3,5,6,7,9,10,11]:List Nat).zip (dK rf t s i l0 l1 l2 l3 Qo)) Ql dR) (Q9 (Rd rf t s i l0 l1 l2 l3 Qo)) (2+(Rd rf t s i l0 l1 l2 l3 Qo).length)
 [(3,WC),(5,Qf.eval {out:=OO.ret (jU t),H:=[(7,Obj.cells (Qe Qy Qo) 3),(0,Obj.coro none),(1,Obj.coro none),(2,Obj.cells (Km rf) 24),(3,Obj.cells (Kn t) 42),(4,Obj.cells Kl 45),(5,Obj.cells (Qe Qy Qo) 3),(6,Obj.cells #[YI l0,YI l1,YI l2,YI l3,YI 0] 45)],n:=8,R:=[5],W:=[]})] 0 [] []) [2,3,5,6,7,9,10,13,14] [(2,KS.auto),(3,KS.auto),(4,KS.auto),(5,KS.cells [] (Qe Qy Qo)),(6,KS.auto),(7,KS.cells [] (Qe Qy Qo))] []=some ⟨28,186,Tf,[],.run,none,Td rf t (s) (0) (l0) (l1) (l2) (l3) (Qo) (Qo),Rc rf t (s) (0) (l0) (l1) (l2) (l3) (Qo) (Qo),
 [QE 1 [] (Qe Qy Qo) (Qe Qy Qo),QE 1 [] (Qe Qy Qo) (Qe Qy Qo),aN YP (Q0 YP) Xn (fun x x_1 x_2=>none) {len:=16000,tr:=Tri.set 14 Tri.lf 81 (jT t)} {dst:=some 82,op:=Op.call {callee:=Callee.builtin Builtin.append,args:=#[Operand.const (.slice none 0 0),Operand.tmp 81],argTypes:=#[25,25]},type:=25,pos:= "ref.go:117",after:=#[{on:=0,ground:=Ground.data}],guard:=none} [(0,Obj.coro none),(1,Obj.coro none),(2,Obj.cells (Km rf) 24),(3,Obj.cells (Kn t) 42),(4,Obj.cells Kl 45),(5,Obj.cells (Qe Qy Qo) 3),(6,Obj.cells #[YI l0,YI l1,YI l2,YI l3,YI 0] 45)] 7=some {out:=OO.ret (jU t),H:=[(7,Obj.cells (Qe Qy Qo) 3),(0,Obj.coro none),(1,Obj.coro none),(2,Obj.cells (Km rf) 24),(3,Obj.cells (Kn t) 42),(4,Obj.cells Kl 45),(5,Obj.cells (Qe Qy Qo) 3),(6,Obj.cells #[YI l0,YI l1,YI l2,YI l3,YI 0] 45)],n:=8,R:=[5],W:=[]},XB i (↑t.Qi.length:Int)=false]⟩:=by kernel_rfl
theorem ME(B:Lo)(rf:Qc)(t:XA)(s i l0 l1 l2 l3:Int)(Qo:List Int)(rows:List RW)(Q6:Nat)(Ql:Nat->Value):let o:=Qe Qy Qo;let n:=Th rf t s i l0 l1 l2 l3 Qo rows Q6;let m:=t.Qi;let l:=Qe (QY 1 QP) rows;let f:=Lb i;let e:=t.Qp.getD s.toNat La;let d:=Qo.getD f La;let j:=YI d;let c:=rf.Qa.getD f La;let g:=c.room;let b:=e.getD f La;let k:=l1+Wg g d b;let a:=Qo.getD f La+Wg g d b;let h:=LM Qo f a;landM (Qn YP (Q0 YP) J0 B 13 1 (QC 28 186 (([2,3,5,6,7,9,10,11]:List Nat).zip (dI rf t s i l0 l1 l2 l3 Qo rows Q6)) Ql dQ) (Q9 n) (2+n.length)
 [(3,Wj),(7,Qf.tidx f (Ud c)),(11,Qf.XO (Hint.idx f)),(12,Qf.XO (Hint.ld j)),(16,Qf.tidx s.toNat #[X7 e]),(19,Qf.tidx f #[YI b]),(21,Qf.pure (YI (Wg g d b)) []),(27,Qf.XO (Hint.idx f)),(28,Qf.XO (Hint.ld j)),(30,Zu a),(34,Zu k),(35,Qf.XO (Hint.idx f)),(36,Qf.XO (Hint.st (Qe Qy h))),(40,Zu (i+1))] 0 [] []) [2,3,5,6,7,9,10,11] [(2,KS.auto),(3,KS.auto),(4,KS.auto),(5,KS.cells [] (Qe Qy h)),(6,KS.auto),(7,KS.rows [(1,1)] [] [] l)] []=some ⟨28,186,dQ,[],.run,none,dI rf t (s) (i+1) (l0) k (l2) (l3) h (rows) (Q6),Th rf t (s) (i+1) (l0) k (l2) (l3) h (rows) (Q6),
 [QE 1 [] (Qe Qy h) (Qe Qy h),QX 1 [(1,1)] [] [] l l,wq (i+1)=i+1,0+Lb i*1+TypeInfo.size Try.t3<=LQ o/\splice o (0+Lb i*1) (Value.cells (Xx {len:=16000,tr:=Tri.set 14 (Tri.set 14 Tri.lf 74 (YI a)) 79 (.pointer (some {block:=5,off:=0+Lb i*1}))} 74))=Qe Qy h,i=(↑f:Int)/\Lb i<Ld m,wq k=l1+Wg g d b,wq a=Qo.getD f La+Wg g d b,o[0+Lb i*1]? =some j,i=(↑f:Int)/\Lb i<Ld m,Qz []/\Qv YP J0 62 #[.agg (Ud c),YI d,YI b] (YI (Wg g d b)),VN i e.length (Qe Qy e) Try.t3.size #[YI b],VN s t.Qp.length (Qe XM t.Qp) Try.t25.size #[X7 e],o[0+Lb i*1]? =some j,i=(↑f:Int)/\Lb i<Ld m,VN i rf.Qa.length (Tb rf) Try.t54.size (Ud c),XB i (↑m.length:Int)=true]⟩:=by intro o n m l f e d j c g b k a h;kernel_rfl
theorem MD:landM (Qn YP (Q0 YP) J0 B 12 1 (QC 28 186 (([2,3,5,6,7,9,10,11]:List Nat).zip (dI rf t s i l0 l1 l2 l3 Qo rows Q6)) Ql dQ) (Q9 (Th rf t s i l0 l1 l2 l3 Qo rows Q6)) (2+(Th rf t s i l0 l1 l2 l3 Qo rows Q6).length)
 [(3,WC),(5,Qf.eval {out:=OO.ret (jS t),H:=[(8,Obj.cells (Qe Qy Qo) 3),(0,Obj.coro none),(1,Obj.coro none),(2,Obj.cells (Km rf) 24),(3,Obj.cells (Kn t) 42),(4,Obj.cells Kl 45),(5,Obj.cells (Qe Qy Qo) 3),(6,Obj.cells #[YI l0,YI l1,YI l2,YI l3,YI 0] 45),(7,Obj.cells (Qe (QY 1 QP) rows) 25)],n:=9,R:=[5],W:=[]})] 0 [] []) [2,3,5,6,7,9,10,13,14] [(2,KS.auto),(3,KS.auto),(4,KS.auto),(5,KS.cells [] (Qe Qy Qo)),(6,KS.auto),(8,KS.cells [] (Qe Qy Qo)),(7,KS.rows [(1,1)] [] [] (Qe (QY 1 QP) rows))] []=some ⟨28,186,Te,[],.run,none,Tc rf t (s) (0) (l0) (l1) (l2) (l3) (Qo) (Qo) (rows) (Q6),Rb rf t (s) (0) (l0) (l1) (l2) (l3) (Qo) (Qo) (rows) (Q6),
 [QE 1 [] (Qe Qy Qo) (Qe Qy Qo),QE 1 [] (Qe Qy Qo) (Qe Qy Qo),QX 1 [(1,1)] [] [] (Qe (QY 1 QP) rows) (Qe (QY 1 QP) rows),aN YP (Q0 YP) Xn (fun x x_1 x_2=>none) {len:=16000,tr:=Tri.set 14 Tri.lf 81 (jT t)} {dst:=some 82,op:=Op.call {callee:=Callee.builtin Builtin.append,args:=#[Operand.const (.slice none 0 0),Operand.tmp 81],argTypes:=#[25,25]},type:=25,pos:= "ref.go:117",after:=#[{on:=0,ground:=Ground.data}],guard:=none} [(0,Obj.coro none),(1,Obj.coro none),(2,Obj.cells (Km rf) 24),(3,Obj.cells (Kn t) 42),(4,Obj.cells Kl 45),(5,Obj.cells (Qe Qy Qo) 3),(6,Obj.cells #[YI l0,YI l1,YI l2,YI l3,YI 0] 45),(7,Obj.cells (Qe (QY 1 QP) rows) 25)] 8=some {out:=OO.ret (jS t),H:=[(8,Obj.cells (Qe Qy Qo) 3),(0,Obj.coro none),(1,Obj.coro none),(2,Obj.cells (Km rf) 24),(3,Obj.cells (Kn t) 42),(4,Obj.cells Kl 45),(5,Obj.cells (Qe Qy Qo) 3),(6,Obj.cells #[YI l0,YI l1,YI l2,YI l3,YI 0] 45),(7,Obj.cells (Qe (QY 1 QP) rows) 25)],n:=9,R:=[5],W:=[]},XB i (↑t.Qi.length:Int)=false]⟩:=by kernel_rfl
theorem Fx(B:Lo)(rf:Qc)(t:XA)(i l0 l1 l2 l3 l4:Int)(Qo:List Int)(Ql:Nat->Value):let e:=bu rf t i l0 l1 l2 l3 l4 Qo;let d:=Qe Qy Qo;let c:=Lb i;let b:=YI (Qo.getD c La);let a:=l4+Qo.getD c La;landM (Qn YP (Q0 YP) J0 B 11 1 (QC 28 186 (([5,6,7,9,19]:List Nat).zip (dH rf t i l0 l1 l2 l3 l4 Qo)) Ql dP) (Q9 e) (2+e.length)
 [(3,Wj),(8,Qf.XO (Hint.idx c)),(9,Qf.XO (Hint.ld b)),(10,Zu a),(14,Zu (i+1))] 0 [] []) [5,6,7,9,19] [(2,KS.auto),(3,KS.cells [] d),(4,KS.auto)] []=some ⟨28,186,dP,[],.run,none,dH rf t (i+1) (l0) (l1) (l2) (l3) a (Qo),bu rf t (i+1) (l0) (l1) (l2) (l3) a (Qo),
 [QE 1 [] d d,wq (i+1)=i+1,wq a=l4+Qo.getD c La,d[0+Lb i*1]? =some b,i=(↑c:Int)/\Lb i<Ld t.Qi,XB i (↑t.Qi.length:Int)=true]⟩:=by intro e d c b a;kernel_rfl
theorem Fw(B:Lo)(rf:Qc)(t:XA)(i l0 l1 l2 l3 l4:Int)(Qo:List Int)(Ql:Nat->Value):let a:=bu rf t i l0 l1 l2 l3 l4 Qo;Xv (Qn YP (Q0 YP) J0 B 9 1 (QC 28 186 (([5,6,7,9,19]:List Nat).zip (dH rf t i l0 l1 l2 l3 l4 Qo)) Ql dP) (Q9 a) (2+a.length)
 [(3,WC)] 0 [] []) []=some (.tuple #[Xo 0 #[],.agg #[YI l0,YI l1,YI l2,YI l3,YI l4]],
 [XB i (↑t.Qi.length:Int)=false]):=by intro a;kernel_rfl
theorem Fv(B:Lo)(rf:Qc)(t:XA)(i l0 l1 l2 l3 l4:Int)(Qo:List Int)(rows:List RW)(Q6:Nat)(Ql:Nat->Value):let f:=Qe Qy Qo;let e:=bt rf t i l0 l1 l2 l3 l4 Qo rows Q6;let d:=Lb i;let c:=Qe (QY 1 QP) rows;let b:=YI (Qo.getD d La);let a:=l4+Qo.getD d La;landM (Qn YP (Q0 YP) J0 B 11 1 (QC 28 186 (([5,6,7,9,19]:List Nat).zip (dG rf t i l0 l1 l2 l3 l4 Qo rows Q6)) Ql dO) (Q9 e) (2+e.length)
 [(3,Wj),(8,Qf.XO (Hint.idx d)),(9,Qf.XO (Hint.ld b)),(10,Zu a),(14,Zu (i+1))] 0 [] []) [5,6,7,9,19] [(2,KS.auto),(3,KS.cells [] f),(4,KS.auto),(5,KS.rows [(1,1)] [] [] c)] []=some ⟨28,186,dO,[],.run,none,dG rf t (i+1) (l0) (l1) (l2) (l3) a (Qo) (rows) (Q6),bt rf t (i+1) (l0) (l1) (l2) (l3) a (Qo) (rows) (Q6),
 [QE 1 [] f f,QX 1 [(1,1)] [] [] c c,wq (i+1)=i+1,wq a=l4+Qo.getD d La,f[0+Lb i*1]? =some b,i=(↑d:Int)/\Lb i<Ld t.Qi,XB i (↑t.Qi.length:Int)=true]⟩:=by intro f e d c b a;kernel_rfl
theorem Fu(B:Lo)(rf:Qc)(t:XA)(i l0 l1 l2 l3 l4:Int)(Qo:List Int)(rows:List RW)(Q6:Nat)(Ql:Nat->Value):let b:=bt rf t i l0 l1 l2 l3 l4 Qo rows Q6;let a:=Fz.cs {k:=5,rs:=[1],cs:=Qe QP rows};Xv (Qn YP (Q0 YP) J0 B 9 1 (QC 28 186 (([5,6,7,9,19]:List Nat).zip (dG rf t i l0 l1 l2 l3 l4 Qo rows Q6)) Ql dO) (Q9 b) (2+b.length)
 [(3,WC)] 0 [] []) [{k:=5,rs:=[1],cs:=Qe QP rows}]=some (.tuple #[Xo Q6 a,.agg #[YI l0,YI l1,YI l2,YI l3,YI l4]],
 [X1 (Fz.rs {k:=5,rs:=[1],cs:=Qe QP rows}) (Qe (QY 1 QP) rows) a,XB i (↑t.Qi.length:Int)=false]):=by intro b a;kernel_rfl
def rI(B:Lo)(rf:Qc)(t:XA)(s i l0 l1 l2 l3:Int)(Qo grown:List Int)(Ql:Nat->Value):List Prop:=let g:=Qe Qy Qo;let f:=rf.Qa;let e:=t.Qi;let b:=Lb i;let c:=f.getD b La;let a:=grown.getD b La*c.QI;let d:=Qo.getD b La-Lc a 1000;[VN i f.length (Tb rf) Try.t54.size (Ud c),0+Lb i*1+TypeInfo.size Try.t3<=LQ g/\splice g (0+Lb i*1) (Value.cells (Xx {len:=16000,tr:=Tri.set 14 (Tri.set 14 Tri.lf 108 (YI d)) 109 (.pointer (some {block:=5,off:=0+Lb i*1}))} 108))=Qe Qy (LM Qo b d),i=(↑b:Int)/\Lb i<Ld e,wq d=Qo.getD b La-Lc a 1000,g[0+Lb i*1]? =some (YI (Qo.getD b La)),i=(↑b:Int)/\Lb i<Ld e,IntKind.wrap .i64 (Lc a 1000)=Lc a 1000,wq a=grown.getD b La*c.QI,VN i f.length (Tb rf) Try.t54.size (Ud c),(Qe Qy grown)[0+Lb i*1]? =some (YI (grown.getD b La)),i=(↑b:Int)/\Lb i<Ld e,XB i (↑e.length:Int)=true]++([]:List Prop)
def Bd(t:XA)(s i l0 l1 l2 l3:Int)(Qo grown:List Int)(Ql:Nat->Value):QA:=let b:=Lb i;let c:=rf.Qa.getD b La;let a:=grown.getD b La*c.QI;let d:=Qo.getD b La-Lc a 1000;[(3,Wj),(6,Qf.XO (Hint.idx b)),(7,Qf.XO (Hint.ld (YI (grown.getD b La)))),(11,Qf.tidx b (Ud c)),(14,Zu a),(15,Zu (Lc a 1000)),(21,Qf.XO (Hint.idx b)),(22,Qf.XO (Hint.ld (YI (Qo.getD b La)))),(24,Zu d),(25,Qf.XO (Hint.idx b)),(26,Qf.XO (Hint.st (Qe Qy (LM Qo b d)))),(30,Qf.tidx b (Ud c))]
theorem Ft(B:Lo)(rf:Qc)(t:XA)(s i l0 l1 l2 l3:Int)(Qo grown:List Int)(Ql:Nat->Value):let m:=Qe Qy grown;let k:=Lb i;let j:=Rc rf t s i l0 l1 l2 l3 Qo grown;let b:=rf.Qa.getD k La;let f:=b.Xw;let e:=grown.getD k La*b.QI;let d:=Lb f;let a:=LM Qo k (Qo.getD k La-Lc e 1000);let n:=Qe Qy a;let h:=YI (a.getD d La);let c:=a.getD d La+Lc e 1000;let g:=LM a d c;let l:=Qe Qy g;landM (Qn YP (Q0 YP) J0 B 20 1 (QC 28 186 (([2,3,5,6,7,9,10,13,14]:List Nat).zip (Td rf t s i l0 l1 l2 l3 Qo grown)) Ql Tf) (Q9 j) (2+j.length)
 (Bd rf t s i l0 l1 l2 l3 Qo grown Ql++[(35,Wj),(40,Qf.XO (Hint.idx d)),(41,Qf.XO (Hint.ld h)),(43,Zu c),(44,Qf.XO (Hint.idx d)),(45,Qf.XO (Hint.st l)),(47,Zu (i+1))]) 0 [] []) [2,3,5,6,7,9,10,13,14] [(2,KS.auto),(3,KS.auto),(4,KS.auto),(5,KS.cells [] l),(6,KS.auto),(7,KS.cells [] m)] []=some ⟨28,186,Tf,[],.run,none,Td rf t (s) (i+1) (l0) (l1) (l2) (l3) g (grown),Rc rf t (s) (i+1) (l0) (l1) (l2) (l3) g (grown),
 [QE 1 [] l l,QE 1 [] m m,wq (i+1)=i+1,0+Lb f*1+TypeInfo.size Try.t3<=LQ n/\splice n (0+Lb f*1) (Value.cells (Xx {len:=16000,tr:=Tri.set 14 (Tri.set 14 Tri.lf 125 (YI c)) 126 (.pointer (some {block:=5,off:=0+Lb f*1}))} 125))=Qe Qy g,b.Xw=(↑d:Int)/\Lb f<Ld t.Qi,wq c=a.getD d La+Lc e 1000,n[0+Lb f*1]? =some h,b.Xw=(↑d:Int)/\Lb f<Ld t.Qi,(!XB f 0)=true]++rI B rf t s i l0 l1 l2 l3 Qo grown Ql⟩:=by intro m k j b f e d a n h c g l;kernel_rfl
theorem Fs(B:Lo)(rf:Qc)(t:XA)(s i l0 l1 l2 l3:Int)(Qo grown:List Int)(Ql:Nat->Value):let g:=Qe Qy grown;let f:=Lb i;let e:=Rc rf t s i l0 l1 l2 l3 Qo grown;let d:=rf.Qa.getD f La;let a:=grown.getD f La*d.QI;let c:=l3+Lc a 1000;let b:=LM Qo f (Qo.getD f La-Lc a 1000);let h:=Qe Qy b;landM (Qn YP (Q0 YP) J0 B 20 1 (QC 28 186 (([2,3,5,6,7,9,10,13,14]:List Nat).zip (Td rf t s i l0 l1 l2 l3 Qo grown)) Ql Tf) (Q9 e) (2+e.length)
 (Bd rf t s i l0 l1 l2 l3 Qo grown Ql++[(35,WC),(39,Zu c),(43,Zu (i+1))]) 0 [] []) [2,3,5,6,7,9,10,13,14] [(2,KS.auto),(3,KS.auto),(4,KS.auto),(5,KS.cells [] h),(6,KS.auto),(7,KS.cells [] g)] []=some ⟨28,186,Tf,[],.run,none,Td rf t (s) (i+1) (l0) (l1) (l2) c b (grown),Rc rf t (s) (i+1) (l0) (l1) (l2) c b (grown),
 [QE 1 [] h h,QE 1 [] g g,wq (i+1)=i+1,wq c=l3+Lc a 1000,(!XB d.Xw 0)=false]++rI B rf t s i l0 l1 l2 l3 Qo grown Ql⟩:=by intro g f e d a c b h;kernel_rfl
theorem Fq(B:Lo)(rf:Qc)(t:XA)(s i l0 l1 l2 l3:Int)(Qo grown:List Int)(Ql:Nat->Value):let b:=Qe Qy Qo;let a:=Rc rf t s i l0 l1 l2 l3 Qo grown;landM (Qn YP (Q0 YP) J0 B 10 1 (QC 28 186 (([2,3,5,6,7,9,10,13,14]:List Nat).zip (Td rf t s i l0 l1 l2 l3 Qo grown)) Ql Tf) (Q9 a) (2+a.length)
 [(3,WC)] 0 [] []) [2,3,5,6,7,9,10,17] [(2,KS.auto),(3,KS.auto),(4,KS.auto),(5,KS.cells [] b),(6,KS.auto)] []=some ⟨28,186,dN,[],.run,none,dF rf t (s) (0) (l0) (l1) (l2) (l3) (Qo),Tg rf t (s) (0) (l0) (l1) (l2) (l3) (Qo),
 [QE 1 [] b b,XB i (↑t.Qi.length:Int)=false]⟩:=by intro b a;kernel_rfl
def rH(B:Lo)(rf:Qc)(t:XA)(s i l0 l1 l2 l3:Int)(Qo grown:List Int)(rows:List RW)(Q6:Nat)(Ql:Nat->Value):List Prop:=let g:=Qe Qy Qo;let f:=rf.Qa;let e:=t.Qi;let b:=Lb i;let c:=f.getD b La;let a:=grown.getD b La*c.QI;let d:=Qo.getD b La-Lc a 1000;[VN i f.length (Tb rf) Try.t54.size (Ud c),0+Lb i*1+TypeInfo.size Try.t3<=LQ g/\splice g (0+Lb i*1) (Value.cells (Xx {len:=16000,tr:=Tri.set 14 (Tri.set 14 Tri.lf 108 (YI d)) 109 (.pointer (some {block:=5,off:=0+Lb i*1}))} 108))=Qe Qy (LM Qo b d),i=(↑b:Int)/\Lb i<Ld e,wq d=Qo.getD b La-Lc a 1000,g[0+Lb i*1]? =some (YI (Qo.getD b La)),i=(↑b:Int)/\Lb i<Ld e,IntKind.wrap .i64 (Lc a 1000)=Lc a 1000,wq a=grown.getD b La*c.QI,VN i f.length (Tb rf) Try.t54.size (Ud c),(Qe Qy grown)[0+Lb i*1]? =some (YI (grown.getD b La)),i=(↑b:Int)/\Lb i<Ld e,XB i (↑e.length:Int)=true]++([]:List Prop)
def Bc(t:XA)(s i l0 l1 l2 l3:Int)(Qo grown:List Int)(rows:List RW)(Q6:Nat)(Ql:Nat->Value):QA:=let b:=Lb i;let c:=rf.Qa.getD b La;let a:=grown.getD b La*c.QI;let d:=Qo.getD b La-Lc a 1000;[(3,Wj),(6,Qf.XO (Hint.idx b)),(7,Qf.XO (Hint.ld (YI (grown.getD b La)))),(11,Qf.tidx b (Ud c)),(14,Zu a),(15,Zu (Lc a 1000)),(21,Qf.XO (Hint.idx b)),(22,Qf.XO (Hint.ld (YI (Qo.getD b La)))),(24,Zu d),(25,Qf.XO (Hint.idx b)),(26,Qf.XO (Hint.st (Qe Qy (LM Qo b d)))),(30,Qf.tidx b (Ud c))]
theorem Fp(B:Lo)(rf:Qc)(t:XA)(s i l0 l1 l2 l3:Int)(Qo grown:List Int)(rows:List RW)(Q6:Nat)(Ql:Nat->Value):let n:=Qe Qy grown;let l:=Lb i;let j:=Qe (QY 1 QP) rows;let h:=Rb rf t s i l0 l1 l2 l3 Qo grown rows Q6;let b:=rf.Qa.getD l La;let f:=b.Xw;let e:=grown.getD l La*b.QI;let d:=Lb f;let a:=LM Qo l (Qo.getD l La-Lc e 1000);let o:=Qe Qy a;let k:=YI (a.getD d La);let c:=a.getD d La+Lc e 1000;let g:=LM a d c;let m:=Qe Qy g;landM (Qn YP (Q0 YP) J0 B 20 1 (QC 28 186 (([2,3,5,6,7,9,10,13,14]:List Nat).zip (Tc rf t s i l0 l1 l2 l3 Qo grown rows Q6)) Ql Te) (Q9 h) (2+h.length)
 (Bc rf t s i l0 l1 l2 l3 Qo grown rows Q6 Ql++[(35,Wj),(40,Qf.XO (Hint.idx d)),(41,Qf.XO (Hint.ld k)),(43,Zu c),(44,Qf.XO (Hint.idx d)),(45,Qf.XO (Hint.st m)),(47,Zu (i+1))]) 0 [] []) [2,3,5,6,7,9,10,13,14] [(2,KS.auto),(3,KS.auto),(4,KS.auto),(5,KS.cells [] m),(6,KS.auto),(7,KS.cells [] n),(8,KS.rows [(1,1)] [] [] j)] []=some ⟨28,186,Te,[],.run,none,Tc rf t (s) (i+1) (l0) (l1) (l2) (l3) g (grown) (rows) (Q6),Rb rf t (s) (i+1) (l0) (l1) (l2) (l3) g (grown) (rows) (Q6),
 [QE 1 [] m m,QE 1 [] n n,QX 1 [(1,1)] [] [] j j,wq (i+1)=i+1,0+Lb f*1+TypeInfo.size Try.t3<=LQ o/\splice o (0+Lb f*1) (Value.cells (Xx {len:=16000,tr:=Tri.set 14 (Tri.set 14 Tri.lf 125 (YI c)) 126 (.pointer (some {block:=5,off:=0+Lb f*1}))} 125))=Qe Qy g,b.Xw=(↑d:Int)/\Lb f<Ld t.Qi,wq c=a.getD d La+Lc e 1000,o[0+Lb f*1]? =some k,b.Xw=(↑d:Int)/\Lb f<Ld t.Qi,(!XB f 0)=true]++rH B rf t s i l0 l1 l2 l3 Qo grown rows Q6 Ql⟩:=by intro n l j h b f e d a o k c g m;kernel_rfl
theorem Fo(B:Lo)(rf:Qc)(t:XA)(s i l0 l1 l2 l3:Int)(Qo grown:List Int)(rows:List RW)(Q6:Nat)(Ql:Nat->Value):let h:=Qe Qy grown;let g:=Lb i;let f:=rf.Qa.getD g La;let e:=Qe (QY 1 QP) rows;let d:=Rb rf t s i l0 l1 l2 l3 Qo grown rows Q6;let a:=grown.getD g La*f.QI;let c:=l3+Lc a 1000;let b:=LM Qo g (Qo.getD g La-Lc a 1000);let j:=Qe Qy b;landM (Qn YP (Q0 YP) J0 B 20 1 (QC 28 186 (([2,3,5,6,7,9,10,13,14]:List Nat).zip (Tc rf t s i l0 l1 l2 l3 Qo grown rows Q6)) Ql Te) (Q9 d) (2+d.length)
 (Bc rf t s i l0 l1 l2 l3 Qo grown rows Q6 Ql++[(35,WC),(39,Zu c),(43,Zu (i+1))]) 0 [] []) [2,3,5,6,7,9,10,13,14] [(2,KS.auto),(3,KS.auto),(4,KS.auto),(5,KS.cells [] j),(6,KS.auto),(7,KS.cells [] h),(8,KS.rows [(1,1)] [] [] e)] []=some ⟨28,186,Te,[],.run,none,Tc rf t (s) (i+1) (l0) (l1) (l2) c b (grown) (rows) (Q6),Rb rf t (s) (i+1) (l0) (l1) (l2) c b (grown) (rows) (Q6),
 [QE 1 [] j j,QE 1 [] h h,QX 1 [(1,1)] [] [] e e,wq (i+1)=i+1,wq c=l3+Lc a 1000,(!XB f.Xw 0)=false]++rH B rf t s i l0 l1 l2 l3 Qo grown rows Q6 Ql⟩:=by intro h g f e d a c b j;kernel_rfl
theorem Fm(B:Lo)(rf:Qc)(t:XA)(s i l0 l1 l2 l3:Int)(Qo grown:List Int)(rows:List RW)(Q6:Nat)(Ql:Nat->Value):let c:=Qe Qy Qo;let b:=Qe (QY 1 QP) rows;let a:=Rb rf t s i l0 l1 l2 l3 Qo grown rows Q6;landM (Qn YP (Q0 YP) J0 B 10 1 (QC 28 186 (([2,3,5,6,7,9,10,13,14]:List Nat).zip (Tc rf t s i l0 l1 l2 l3 Qo grown rows Q6)) Ql Te) (Q9 a) (2+a.length)
 [(3,WC)] 0 [] []) [2,3,5,6,7,9,10,17] [(2,KS.auto),(3,KS.auto),(4,KS.auto),(5,KS.cells [] c),(6,KS.auto),(8,KS.rows [(1,1)] [] [] b)] []=some ⟨28,186,ai,[],.run,none,ah rf t (s) (0) (l0) (l1) (l2) (l3) (Qo) (rows) (Q6),Ps rf t (s) (0) (l0) (l1) (l2) (l3) (Qo) (rows) (Q6),
 [QE 1 [] c c,QX 1 [(1,1)] [] [] b b,XB i (↑t.Qi.length:Int)=false]⟩:=by intro c b a;kernel_rfl
theorem Fl(B:Lo)(rf:Qc)(t:XA)(s i l0 l1 l2 l3:Int)(Qo:List Int)(Ql:Nat->Value):let l:=t.Qx;let k:=Tg rf t s i l0 l1 l2 l3 Qo;let h:=Qe Qy Qo;let g:=t.Qi;let c:=Lb i;let e:=YI (Qo.getD c La);let b:=l.getD s.toNat La;let n:=Qe Qy b;let m:=Ld b;let d:=l2+if b.getD c La<Qo.getD c La then b.getD c La else Qo.getD c La;let a:=Qo.getD c La-if b.getD c La<Qo.getD c La then b.getD c La else Qo.getD c La;let f:=LM Qo c a;let j:=Qe Qy f;landM (Qn YP (Q0 YP) J0 B 13 1 (QC 28 186 (([2,3,5,6,7,9,10,17]:List Nat).zip (dF rf t s i l0 l1 l2 l3 Qo)) Ql dN) (Q9 k) (2+k.length)
 [(3,Wj),(6,Qf.XO (Hint.idx c)),(7,Qf.XO (Hint.ld e)),(11,Qf.tidx s.toNat #[Xo m n]),(14,Qf.tidx c #[YI (b.getD c La)]),(22,Qf.XO (Hint.idx c)),(23,Qf.XO (Hint.ld e)),(25,Zu a),(29,Zu d),(30,Qf.XO (Hint.idx c)),(31,Qf.XO (Hint.st j)),(35,Zu (i+1))] 0 [] []) [2,3,5,6,7,9,10,17] [(2,KS.auto),(3,KS.auto),(4,KS.auto),(5,KS.cells [] j),(6,KS.auto)] []=some ⟨28,186,dN,[],.run,none,dF rf t (s) (i+1) (l0) (l1) d (l3) f,Tg rf t (s) (i+1) (l0) (l1) d (l3) f,
 [QE 1 [] j j,wq (i+1)=i+1,0+Lb i*1+TypeInfo.size Try.t3<=LQ h/\splice h (0+Lb i*1) (Value.cells (Xx {len:=16000,tr:=Tri.set 14 (Tri.set 14 Tri.lf 158 (YI a)) 163 (.pointer (some {block:=5,off:=0+Lb i*1}))} 158))=Qe Qy f,i=(↑c:Int)/\Lb i<Ld g,wq d=l2+if b.getD c La<Qo.getD c La then b.getD c La else Qo.getD c La,wq a=Qo.getD c La-if b.getD c La<Qo.getD c La then b.getD c La else Qo.getD c La,h[0+Lb i*1]? =some e,i=(↑c:Int)/\Lb i<Ld g,VN i m n Try.t3.size #[YI (b.getD c La)],VN s l.length (Qe XM l) Try.t25.size #[Xo m n],h[0+Lb i*1]? =some e,i=(↑c:Int)/\Lb i<Ld g,XB i (↑g.length:Int)=true]⟩:=by intro l k h g c e b n m d a f j;kernel_rfl
theorem Fk:landM (Qn YP (Q0 YP) J0 B 9 1 (QC 28 186 (([2,3,5,6,7,9,10,17]:List Nat).zip (dF rf t s i l0 l1 l2 l3 Qo)) Ql dN) (Q9 (Tg rf t s i l0 l1 l2 l3 Qo)) (2+(Tg rf t s i l0 l1 l2 l3 Qo).length)
 [(3,WC),(6,Qf.eval {out:=OO.ret (jU t),H:=[(7,Obj.cells (Qe Qy Qo) 3),(0,Obj.coro none),(1,Obj.coro none),(2,Obj.cells (Km rf) 24),(3,Obj.cells (Kn t) 42),(4,Obj.cells Kl 45),(5,Obj.cells (Qe Qy Qo) 3),(6,Obj.cells #[YI l0,YI l1,YI l2,YI l3,YI 0] 45)],n:=8,R:=[5],W:=[]}),(11,Zu (s+1))] 0 [] []) [2,3,5,6,7,9,10] [(2,KS.auto),(3,KS.auto),(4,KS.auto),(5,KS.cells [] (Qe Qy Qo)),(6,KS.auto),(9,KS.rows [] [7] [] (Qe (QY 1 QP) [{n:=Ld t.Qi,l:=Qo}]))] [{k:=7,rs:=[],cs:=Qe Qy Qo}]=some ⟨28,186,dS,[],.run,none,dL rf t (s+1) (l0) (l1) (l2) (l3) (Qo) ([{n:=Ld t.Qi,l:=Qo}]) (1),bw rf t (s+1) (l0) (l1) (l2) (l3) (Qo) ([{n:=Ld t.Qi,l:=Qo}]) (1),
 [QE 1 [] (Qe Qy Qo) (Qe Qy Qo),QX 1 [] [(7,Fz.cs {k:=7,rs:=[],cs:=Qe Qy Qo})] [] #[.slice (some {block:=7,off:=0}) t.Qi.length 1] (Qe (QY 1 QP) [{n:=Ld t.Qi,l:=Qo}]),X1 (Fz.rs {k:=7,rs:=[],cs:=Qe Qy Qo}) (Qe Qy Qo) (Fz.cs {k:=7,rs:=[],cs:=Qe Qy Qo}),wq (s+1)=s+1,aN YP (Q0 YP) Xn (fun x x_1 x_2=>none) {len:=16000,tr:=Tri.set 14 Tri.lf 166 (jT t)} {dst:=some 167,op:=Op.call {callee:=Callee.builtin Builtin.append,args:=#[Operand.const (.slice none 0 0),Operand.tmp 166],argTypes:=#[25,25]},type:=25,pos:= "ref.go:131",after:=#[{on:=1,ground:=Ground.data}],guard:=none} [(0,Obj.coro none),(1,Obj.coro none),(2,Obj.cells (Km rf) 24),(3,Obj.cells (Kn t) 42),(4,Obj.cells Kl 45),(5,Obj.cells (Qe Qy Qo) 3),(6,Obj.cells #[YI l0,YI l1,YI l2,YI l3,YI 0] 45)] 7=some {out:=OO.ret (jU t),H:=[(7,Obj.cells (Qe Qy Qo) 3),(0,Obj.coro none),(1,Obj.coro none),(2,Obj.cells (Km rf) 24),(3,Obj.cells (Kn t) 42),(4,Obj.cells Kl 45),(5,Obj.cells (Qe Qy Qo) 3),(6,Obj.cells #[YI l0,YI l1,YI l2,YI l3,YI 0] 45)],n:=8,R:=[5],W:=[]},XB i (↑t.Qi.length:Int)=false]⟩:=by kernel_rfl
theorem Fj(B:Lo)(rf:Qc)(t:XA)(s i l0 l1 l2 l3:Int)(Qo:List Int)(rows:List RW)(Q6:Nat)(Ql:Nat->Value):let m:=t.Qx;let k:=Qe Qy Qo;let j:=Ps rf t s i l0 l1 l2 l3 Qo rows Q6;let h:=t.Qi;let g:=Qe (QY 1 QP) rows;let c:=Lb i;let e:=YI (Qo.getD c La);let b:=m.getD s.toNat La;let o:=Qe Qy b;let n:=Ld b;let d:=l2+if b.getD c La<Qo.getD c La then b.getD c La else Qo.getD c La;let a:=Qo.getD c La-if b.getD c La<Qo.getD c La then b.getD c La else Qo.getD c La;let f:=LM Qo c a;let l:=Qe Qy f;landM (Qn YP (Q0 YP) J0 B 13 1 (QC 28 186 (([2,3,5,6,7,9,10,17]:List Nat).zip (ah rf t s i l0 l1 l2 l3 Qo rows Q6)) Ql ai) (Q9 j) (2+j.length)
 [(3,Wj),(6,Qf.XO (Hint.idx c)),(7,Qf.XO (Hint.ld e)),(11,Qf.tidx s.toNat #[Xo n o]),(14,Qf.tidx c #[YI (b.getD c La)]),(22,Qf.XO (Hint.idx c)),(23,Qf.XO (Hint.ld e)),(25,Zu a),(29,Zu d),(30,Qf.XO (Hint.idx c)),(31,Qf.XO (Hint.st l)),(35,Zu (i+1))] 0 [] []) [2,3,5,6,7,9,10,17] [(2,KS.auto),(3,KS.auto),(4,KS.auto),(5,KS.cells [] l),(6,KS.auto),(7,KS.rows [(1,1)] [] [] g)] []=some ⟨28,186,ai,[],.run,none,ah rf t (s) (i+1) (l0) (l1) d (l3) f (rows) (Q6),Ps rf t (s) (i+1) (l0) (l1) d (l3) f (rows) (Q6),
 [QE 1 [] l l,QX 1 [(1,1)] [] [] g g,wq (i+1)=i+1,0+Lb i*1+TypeInfo.size Try.t3<=LQ k/\splice k (0+Lb i*1) (Value.cells (Xx {len:=16000,tr:=Tri.set 14 (Tri.set 14 Tri.lf 158 (YI a)) 163 (.pointer (some {block:=5,off:=0+Lb i*1}))} 158))=Qe Qy f,i=(↑c:Int)/\Lb i<Ld h,wq d=l2+if b.getD c La<Qo.getD c La then b.getD c La else Qo.getD c La,wq a=Qo.getD c La-if b.getD c La<Qo.getD c La then b.getD c La else Qo.getD c La,k[0+Lb i*1]? =some e,i=(↑c:Int)/\Lb i<Ld h,VN i n o Try.t3.size #[YI (b.getD c La)],VN s m.length (Qe XM m) Try.t25.size #[Xo n o],k[0+Lb i*1]? =some e,i=(↑c:Int)/\Lb i<Ld h,XB i (↑h.length:Int)=true]⟩:=by intro m k j h g c e b o n d a f l;kernel_rfl
theorem Fi:landM (Qn YP (Q0 YP) J0 B 9 1 (QC 28 186 (([2,3,5,6,7,9,10,17]:List Nat).zip (ah rf t s i l0 l1 l2 l3 Qo rows Q6)) Ql ai) (Q9 (Ps rf t s i l0 l1 l2 l3 Qo rows Q6)) (2+(Ps rf t s i l0 l1 l2 l3 Qo rows Q6).length)
 [(3,WC),(6,Qf.eval {out:=OO.ret (jS t),H:=[(8,Obj.cells (Qe Qy Qo) 3),(0,Obj.coro none),(1,Obj.coro none),(2,Obj.cells (Km rf) 24),(3,Obj.cells (Kn t) 42),(4,Obj.cells Kl 45),(5,Obj.cells (Qe Qy Qo) 3),(6,Obj.cells #[YI l0,YI l1,YI l2,YI l3,YI 0] 45),(7,Obj.cells (Qe (QY 1 QP) rows) 25)],n:=9,R:=[5],W:=[]}),(8,Qf.XO (Hint.app (Qe (QY 1 QP) rows++(jV t)))),(11,Zu (s+1))] 0 [] []) [2,3,5,6,7,9,10] [(2,KS.auto),(3,KS.auto),(4,KS.auto),(5,KS.cells [] (Qe Qy Qo)),(6,KS.auto),(10,KS.rows [(1,1)] [8] [] (Qe (QY 1 QP) (rows++[{n:=Ld t.Qi,l:=Qo}])))] [{k:=8,rs:=[],cs:=Qe Qy Qo}]=some ⟨28,186,dS,[],.run,none,dL rf t (s+1) (l0) (l1) (l2) (l3) (Qo) (rows++[{n:=Ld t.Qi,l:=Qo}]) (Q6+1),bw rf t (s+1) (l0) (l1) (l2) (l3) (Qo) (rows++[{n:=Ld t.Qi,l:=Qo}]) (Q6+1),
 [QE 1 [] (Qe Qy Qo) (Qe Qy Qo),QX 1 [(1,1)] [(8,Fz.cs {k:=8,rs:=[],cs:=Qe Qy Qo})] [] (Qe (QY 1 QP) rows++(jV t)) (Qe (QY 1 QP) (rows++[{n:=Ld t.Qi,l:=Qo}])),X1 (Fz.rs {k:=8,rs:=[],cs:=Qe Qy Qo}) (Qe Qy Qo) (Fz.cs {k:=8,rs:=[],cs:=Qe Qy Qo}),wq (s+1)=s+1,PM ((Qe (QY 1 QP) rows)) (jV t) (Qe (QY 1 QP) rows++(jV t)) Q6 (0+1) 24,aN YP (Q0 YP) Xn (fun x x_1 x_2=>none) {len:=16000,tr:=Tri.set 14 Tri.lf 166 (jT t)} {dst:=some 167,op:=Op.call {callee:=Callee.builtin Builtin.append,args:=#[Operand.const (.slice none 0 0),Operand.tmp 166],argTypes:=#[25,25]},type:=25,pos:= "ref.go:131",after:=#[{on:=1,ground:=Ground.data}],guard:=none} [(0,Obj.coro none),(1,Obj.coro none),(2,Obj.cells (Km rf) 24),(3,Obj.cells (Kn t) 42),(4,Obj.cells Kl 45),(5,Obj.cells (Qe Qy Qo) 3),(6,Obj.cells #[YI l0,YI l1,YI l2,YI l3,YI 0] 45),(7,Obj.cells (Qe (QY 1 QP) rows) 25)] 8=some {out:=OO.ret (jS t),H:=[(8,Obj.cells (Qe Qy Qo) 3),(0,Obj.coro none),(1,Obj.coro none),(2,Obj.cells (Km rf) 24),(3,Obj.cells (Kn t) 42),(4,Obj.cells Kl 45),(5,Obj.cells (Qe Qy Qo) 3),(6,Obj.cells #[YI l0,YI l1,YI l2,YI l3,YI 0] 45),(7,Obj.cells (Qe (QY 1 QP) rows) 25)],n:=9,R:=[5],W:=[]},XB i (↑t.Qi.length:Int)=false]⟩:=by kernel_rfl
theorem Fh(B:Lo)(rf:Qc)(t:XA):let b:=t.Qi;let a:=Qe Qy b;landM (Qn YP (Q0 YP) J0 B 11 1 (Qu YP 28 186 (([.agg (Q1 rf).toArray,.agg #[X7 t.Qi,Xo t.Qp.length (Qe XM t.Qp),Xo t.Qx.length (Qe XM t.Qx)]]).map (Q4 0 4))) Zd 1
 [(6,Qf.tapp a)] 0 [] []) [2,3,5,6,7,8] [(1,KS.auto),(2,KS.auto),(3,KS.auto),(4,KS.cells [] a),(5,KS.auto)] []=some ⟨28,186,dT,[],.run,none,dM rf t (0) (0),Re rf t (0) (0),
 [QE 1 [] a a,0<Ld b/\Ld b<=maxLen/\Ld b*8<=140737488355328/\LQ a=Ld b*(0+1)/\Array.map (Wb 0) a=Qe Qy b/\(Array.all a fun v=>simple v || WE v)=true/\ones a=true]⟩:=by intro b a;kernel_rfl
end
set_option maxHeartbeats 4000000 in
theorem MN(rf:Qc)(t:XA)(Q7:OkT rf.Qa rf.Qb t.Qp t.Qx (Qg t.Qi))(hl:t.Qi.length=rf.Qa.length)(hn:1<=rf.Qa.length/\rf.Qa.length<=4)(hs4:1<=rf.Qb/\rf.Qb<=4){B:Lo}(hJ:∀w,B.has w->J0 w){c0:CF}:∀m:Nat,(∀(i l0:Int),100000+(t.Qi.length-i.toNat)=m->∀(h0:0<=i) (h1:i<=t.Qi.length) (e0:l0=Xj 0 i (nth t.Qi)),MZ B c0 rf t i l0->EndsT YP B c0 (KP rf t))/\(∀(s l0 l1 l2 l3:Int) (Qo:List Int),(2*(rf.Qb-s)).toNat*1000+999=m->∀(s0:0<=s) (s1:s<=rf.Qb) (e0:l0=(Qg t.Qi).sum) (e1:l1=Xj 0 s (Vd rf.Qa t.Qp t.Qx (Qg t.Qi))) (e2:l2=Xj 0 s (ZI rf.Qa t.Qp t.Qx (Qg t.Qi))) (e3:l3=Xj 0 s (Vc rf.Qa t.Qp t.Qx (Qg t.Qi))) (ef:Qo=Ze rf.Qa.length (Z5 rf.Qa t.Qp t.Qx (Qg t.Qi) s.toNat).at) (er:([]:List RW)=TM rf.Qa.length rf.Qa t.Qp t.Qx (Qg t.Qi) s),MY B c0 rf t s l0 l1 l2 l3 Qo->EndsT YP B c0 (KP rf t))/\(∀(s l0 l1 l2 l3:Int) (Qo:List Int) (rows:List RW) (Q6:Nat),(2*(rf.Qb-s)).toNat*1000+999=m->∀(s0:0<=s) (s1:s<=rf.Qb) (e0:l0=(Qg t.Qi).sum) (e1:l1=Xj 0 s (Vd rf.Qa t.Qp t.Qx (Qg t.Qi))) (e2:l2=Xj 0 s (ZI rf.Qa t.Qp t.Qx (Qg t.Qi))) (e3:l3=Xj 0 s (Vc rf.Qa t.Qp t.Qx (Qg t.Qi))) (ef:Qo=Ze rf.Qa.length (Z5 rf.Qa t.Qp t.Qx (Qg t.Qi) s.toNat).at) (er:rows=TM rf.Qa.length rf.Qa t.Qp t.Qx (Qg t.Qi) s) (hrows:Q6=rows.length) (T3:rows.length<=4),MX B c0 rf t s l0 l1 l2 l3 Qo rows Q6->EndsT YP B c0 (KP rf t))/\(∀(s i l0 l1 l2 l3:Int) (Qo:List Int),(2*(rf.Qb-s)).toNat*1000+900-i.toNat=m->∀(s0:0<=s) (s1:s<rf.Qb) (i0:0<=i) (i1:i<=rf.Qa.length) (e0:l0=(Qg t.Qi).sum) (e1:l1=Xj 0 s (Vd rf.Qa t.Qp t.Qx (Qg t.Qi))+Xj 0 i (ZN (t.Qp.getD s.toNat La) rf.Qa (Z5 rf.Qa t.Qp t.Qx (Qg t.Qi) s.toNat))) (e2:l2=Xj 0 s (ZI rf.Qa t.Qp t.Qx (Qg t.Qi))) (e3:l3=Xj 0 s (Vc rf.Qa t.Qp t.Qx (Qg t.Qi))) (ef:Qo=Ze rf.Qa.length (X6 (t.Qp.getD s.toNat La) rf.Qa (Z5 rf.Qa t.Qp t.Qx (Qg t.Qi) s.toNat) i)) (er:([]:List RW)=TM rf.Qa.length rf.Qa t.Qp t.Qx (Qg t.Qi) s),MW B c0 rf t s i l0 l1 l2 l3 Qo->EndsT YP B c0 (KP rf t))/\(∀(s i l0 l1 l2 l3:Int) (Qo:List Int) (rows:List RW) (Q6:Nat),(2*(rf.Qb-s)).toNat*1000+900-i.toNat=m->∀(s0:0<=s) (s1:s<rf.Qb) (i0:0<=i) (i1:i<=rf.Qa.length) (e0:l0=(Qg t.Qi).sum) (e1:l1=Xj 0 s (Vd rf.Qa t.Qp t.Qx (Qg t.Qi))+Xj 0 i (ZN (t.Qp.getD s.toNat La) rf.Qa (Z5 rf.Qa t.Qp t.Qx (Qg t.Qi) s.toNat))) (e2:l2=Xj 0 s (ZI rf.Qa t.Qp t.Qx (Qg t.Qi))) (e3:l3=Xj 0 s (Vc rf.Qa t.Qp t.Qx (Qg t.Qi))) (ef:Qo=Ze rf.Qa.length (X6 (t.Qp.getD s.toNat La) rf.Qa (Z5 rf.Qa t.Qp t.Qx (Qg t.Qi) s.toNat) i)) (er:rows=TM rf.Qa.length rf.Qa t.Qp t.Qx (Qg t.Qi) s) (hrows:Q6=rows.length) (T3:rows.length<=4),MV B c0 rf t s i l0 l1 l2 l3 Qo rows Q6->EndsT YP B c0 (KP rf t))/\(∀(i l0 l1 l2 l3 l4:Int) (Qo:List Int),(rf.Qa.length-i.toNat)=m->∀(i0:0<=i) (i1:i<=rf.Qa.length) (e0:l0=(Qg t.Qi).sum) (e1:l1=Xj 0 rf.Qb (Vd rf.Qa t.Qp t.Qx (Qg t.Qi))) (e2:l2=Xj 0 rf.Qb (ZI rf.Qa t.Qp t.Qx (Qg t.Qi))) (e3:l3=Xj 0 rf.Qb (Vc rf.Qa t.Qp t.Qx (Qg t.Qi))) (ef:Qo=Ze rf.Qa.length (Z5 rf.Qa t.Qp t.Qx (Qg t.Qi) rf.Qb.toNat).at) (er:([]:List RW)=TM rf.Qa.length rf.Qa t.Qp t.Qx (Qg t.Qi) rf.Qb) (e4:l4=Xj 0 i (Z5 rf.Qa t.Qp t.Qx (Qg t.Qi) rf.Qb.toNat).at),MU B c0 rf t i l0 l1 l2 l3 l4 Qo->EndsT YP B c0 (KP rf t))/\(∀(i l0 l1 l2 l3 l4:Int) (Qo:List Int) (rows:List RW) (Q6:Nat),(rf.Qa.length-i.toNat)=m->∀(i0:0<=i) (i1:i<=rf.Qa.length) (e0:l0=(Qg t.Qi).sum) (e1:l1=Xj 0 rf.Qb (Vd rf.Qa t.Qp t.Qx (Qg t.Qi))) (e2:l2=Xj 0 rf.Qb (ZI rf.Qa t.Qp t.Qx (Qg t.Qi))) (e3:l3=Xj 0 rf.Qb (Vc rf.Qa t.Qp t.Qx (Qg t.Qi))) (ef:Qo=Ze rf.Qa.length (Z5 rf.Qa t.Qp t.Qx (Qg t.Qi) rf.Qb.toNat).at) (er:rows=TM rf.Qa.length rf.Qa t.Qp t.Qx (Qg t.Qi) rf.Qb) (e4:l4=Xj 0 i (Z5 rf.Qa t.Qp t.Qx (Qg t.Qi) rf.Qb.toNat).at) (hrows:Q6=rows.length) (T3:rows.length<=4),MT B c0 rf t i l0 l1 l2 l3 l4 Qo rows Q6->EndsT YP B c0 (KP rf t))/\(∀(s i l0 l1 l2 l3:Int) (Qo grown:List Int),(2*(rf.Qb-s)).toNat*1000+800-i.toNat=m->∀(s0:0<=s) (s1:s<rf.Qb) (i0:0<=i) (i1:i<=rf.Qa.length) (e0:l0=(Qg t.Qi).sum) (e1:l1=Xj 0 (s+1) (Vd rf.Qa t.Qp t.Qx (Qg t.Qi))) (e2:l2=Xj 0 s (ZI rf.Qa t.Qp t.Qx (Qg t.Qi))) (e3:l3=Xj 0 s (Vc rf.Qa t.Qp t.Qx (Qg t.Qi))+Xj 0 i (Zv rf.Qa (Vb (t.Qp.getD s.toNat La) rf.Qa (Z5 rf.Qa t.Qp t.Qx (Qg t.Qi) s.toNat)))) (ef:Qo=Ze rf.Qa.length (Wp rf.Qa (Vb (t.Qp.getD s.toNat La) rf.Qa (Z5 rf.Qa t.Qp t.Qx (Qg t.Qi) s.toNat)) i)) (eg:grown=Ze rf.Qa.length (Vb (t.Qp.getD s.toNat La) rf.Qa (Z5 rf.Qa t.Qp t.Qx (Qg t.Qi) s.toNat)).at) (er:([]:List RW)=TM rf.Qa.length rf.Qa t.Qp t.Qx (Qg t.Qi) s),MQ B c0 rf t s i l0 l1 l2 l3 Qo grown->EndsT YP B c0 (KP rf t))/\(∀(s i l0 l1 l2 l3:Int) (Qo grown:List Int) (rows:List RW) (Q6:Nat),(2*(rf.Qb-s)).toNat*1000+800-i.toNat=m->∀(s0:0<=s) (s1:s<rf.Qb) (i0:0<=i) (i1:i<=rf.Qa.length) (e0:l0=(Qg t.Qi).sum) (e1:l1=Xj 0 (s+1) (Vd rf.Qa t.Qp t.Qx (Qg t.Qi))) (e2:l2=Xj 0 s (ZI rf.Qa t.Qp t.Qx (Qg t.Qi))) (e3:l3=Xj 0 s (Vc rf.Qa t.Qp t.Qx (Qg t.Qi))+Xj 0 i (Zv rf.Qa (Vb (t.Qp.getD s.toNat La) rf.Qa (Z5 rf.Qa t.Qp t.Qx (Qg t.Qi) s.toNat)))) (ef:Qo=Ze rf.Qa.length (Wp rf.Qa (Vb (t.Qp.getD s.toNat La) rf.Qa (Z5 rf.Qa t.Qp t.Qx (Qg t.Qi) s.toNat)) i)) (eg:grown=Ze rf.Qa.length (Vb (t.Qp.getD s.toNat La) rf.Qa (Z5 rf.Qa t.Qp t.Qx (Qg t.Qi) s.toNat)).at) (er:rows=TM rf.Qa.length rf.Qa t.Qp t.Qx (Qg t.Qi) s) (hrows:Q6=rows.length) (T3:rows.length<=4),MP B c0 rf t s i l0 l1 l2 l3 Qo grown rows Q6->EndsT YP B c0 (KP rf t))/\(∀(s i l0 l1 l2 l3:Int) (Qo:List Int),(2*(rf.Qb-s)).toNat*1000+700-i.toNat=m->∀(s0:0<=s) (s1:s<rf.Qb) (i0:0<=i) (i1:i<=rf.Qa.length) (e0:l0=(Qg t.Qi).sum) (e1:l1=Xj 0 (s+1) (Vd rf.Qa t.Qp t.Qx (Qg t.Qi))) (e2:l2=Xj 0 s (ZI rf.Qa t.Qp t.Qx (Qg t.Qi))+Xj 0 i (Za (t.Qx.getD s.toNat La) (cl rf.Qa (Vb (t.Qp.getD s.toNat La) rf.Qa (Z5 rf.Qa t.Qp t.Qx (Qg t.Qi) s.toNat))))) (e3:l3=Xj 0 (s+1) (Vc rf.Qa t.Qp t.Qx (Qg t.Qi))) (ef:Qo=Ze rf.Qa.length (J6 (t.Qx.getD s.toNat La) (cl rf.Qa (Vb (t.Qp.getD s.toNat La) rf.Qa (Z5 rf.Qa t.Qp t.Qx (Qg t.Qi) s.toNat))) i)) (er:([]:List RW)=TM rf.Qa.length rf.Qa t.Qp t.Qx (Qg t.Qi) s),MO B c0 rf t s i l0 l1 l2 l3 Qo->EndsT YP B c0 (KP rf t))/\(∀(s i l0 l1 l2 l3:Int) (Qo:List Int) (rows:List RW) (Q6:Nat),(2*(rf.Qb-s)).toNat*1000+700-i.toNat=m->∀(s0:0<=s) (s1:s<rf.Qb) (i0:0<=i) (i1:i<=rf.Qa.length) (e0:l0=(Qg t.Qi).sum) (e1:l1=Xj 0 (s+1) (Vd rf.Qa t.Qp t.Qx (Qg t.Qi))) (e2:l2=Xj 0 s (ZI rf.Qa t.Qp t.Qx (Qg t.Qi))+Xj 0 i (Za (t.Qx.getD s.toNat La) (cl rf.Qa (Vb (t.Qp.getD s.toNat La) rf.Qa (Z5 rf.Qa t.Qp t.Qx (Qg t.Qi) s.toNat))))) (e3:l3=Xj 0 (s+1) (Vc rf.Qa t.Qp t.Qx (Qg t.Qi))) (ef:Qo=Ze rf.Qa.length (J6 (t.Qx.getD s.toNat La) (cl rf.Qa (Vb (t.Qp.getD s.toNat La) rf.Qa (Z5 rf.Qa t.Qp t.Qx (Qg t.Qi) s.toNat))) i)) (er:rows=TM rf.Qa.length rf.Qa t.Qp t.Qx (Qg t.Qi) s) (hrows:Q6=rows.length) (T3:rows.length<=4),Fy B c0 rf t s i l0 l1 l2 l3 Qo rows Q6->EndsT YP B c0 (KP rf t)):=by
 intro m0;induction m0 using LB with
 |_ m0 ih0=>
  refine⟨?_, ?_, ?_, ?_, ?_, ?_, ?_, ?_, ?_, ?_, ?_⟩
  ·intro i l0 Jw h0 h1 e0 ⟨Ql,Wl,X0⟩;have WX:=Q7.hp;have WX:=Q7.hp;have UQ:=Q7.hg;have htn:=Q7.ht;have T0:=BM Q7 (i:=i) h0 (by omega);have hse:=BN Q7 hl;by_cases q0:(i:Int)<((↑t.Qi.length:Int))
   ·have hsn:=QJ (i:=i) (g:=nth t.Qi) h0;have J4:=uv Q7 (i:=i) h0 (by omega);simp only[nth]at J4 hsn;exact((ih0 _ (by omega)).1 (i+1) (l0+t.Qi.getD i.toNat La) rfl (by omega) (by omega) (by omega)
     (X0.lM (MM B rf t i l0 Ql)
     ⟨cS,⟨wI,⟨wI,⟨(by exact ZK (z:=1) (j:=0) (k:=Lb i) (fun _=>rfl) (by omega) rfl),⟨⟨by omega,by omega⟩,⟨(Xs q0),trivial⟩⟩⟩⟩⟩⟩)).cR
   ·have hsn:=QJ (i:=i) (g:=nth t.Qi) h0;have en0:i=(t.Qi.length:Int):=(by omega)
    exact((ih0 _ (by omega)).2.1 (0) (l0) (0) (0) (0) t.Qi rfl (by omega) (by omega) (by(rw[e0,en0];exact hse)) (by rfl) (by rfl) (by rfl) (by(rw[<-hl];exact(yT (by omega)).symm)) (by rfl)
     (X0.lM (ML B rf t i l0 Ql)
     ⟨cS,⟨(nL q0),trivial⟩⟩)).cR
  ·intro s l0 l1 l2 l3 Qo Jw s0 s1 e0 e1 e2 e3 ef er ⟨Ql,Wl,X0⟩;have WX:=Q7.hp;have WX:=Q7.hp;have UQ:=Q7.hg;have htn:=Q7.ht;have hsu:=Q7.sums (i:=s) s0 (by omega);have hfl:Qo.length=rf.Qa.length:=(by rw[ef];exact(Xa).trans (by omega))
   have XZ:=Q7.st s.toNat (by omega);have h9:=Q7.hs;by_cases q0:(s:Int)<rf.Qb
   ·exact((ih0 _ (by omega)).2.2.2.1 (s) (0) (l0) (l1) (l2) (l3) (Qo) rfl ‹_› ‹_› (by omega) (by omega) ‹_› (by(rw[Wq (LH _)];omega)) ‹_› ‹_› (by(rw[ef];exact Zx fun k h0 _=>(OZ h0).symm)) ‹_›
     (X0.lM (MK B rf t s l0 l1 l2 l3 Qo Ql)
     ⟨cS,⟨(Xs q0),trivial⟩⟩)).cR
   ·exact((ih0 _ (by omega)).2.2.2.2.2.1 (0) (l0) (l1) (l2) (l3) (0) (Qo) rfl (by omega) (by omega) ‹_› (by(rw[show rf.Qb=s by omega];with_reducible assumption)) (by(rw[show rf.Qb=s by omega];with_reducible assumption)) (by(rw[show rf.Qb=s by omega];with_reducible assumption)) (by(rw[show rf.Qb=s by omega];with_reducible assumption)) (by(rw[show rf.Qb=s by omega];with_reducible assumption)) (by rfl)
     (X0.lM (MJ B rf t s l0 l1 l2 l3 Qo Ql)
     ⟨cS,⟨(nL q0),trivial⟩⟩)).cR
  ·intro s l0 l1 l2 l3 Qo rows Q6 Jw s0 s1 e0 e1 e2 e3 ef er hrows T3 ⟨Ql,Wl,X0⟩;have WX:=Q7.hp;have WX:=Q7.hp;have UQ:=Q7.hg;have htn:=Q7.ht;have hsu:=Q7.sums (i:=s) s0 (by omega);have hfl:Qo.length=rf.Qa.length:=(by rw[ef];exact(Xa).trans (by omega))
   have XZ:=Q7.st s.toNat (by omega);have h9:=Q7.hs;by_cases q0:(s:Int)<rf.Qb
   ·have Yp:rows.length=s.toNat:=(by rw[er];exact VM)
    exact((ih0 _ (by omega)).2.2.2.2.1 (s) (0) (l0) (l1) (l2) (l3) (Qo) (rows) (Q6) rfl ‹_› ‹_› (by omega) (by omega) ‹_› (by(rw[Wq (LH _)];omega)) ‹_› ‹_› (by(rw[ef];exact Zx fun k h0 _=>(OZ h0).symm)) ‹_› ‹_› ‹_›
     (X0.lM (MI B rf t s l0 l1 l2 l3 Qo rows Q6 Ql)
     ⟨cS,⟨cP,⟨(Xs q0),trivial⟩⟩⟩)).cR
   ·have Yp:rows.length=s.toNat:=(by rw[er];exact VM)
    exact((ih0 _ (by omega)).2.2.2.2.2.2.1 (0) (l0) (l1) (l2) (l3) (0) (Qo) (rows) (Q6) rfl (by omega) (by omega) ‹_› (by(rw[show rf.Qb=s by omega];with_reducible assumption)) (by(rw[show rf.Qb=s by omega];with_reducible assumption)) (by(rw[show rf.Qb=s by omega];with_reducible assumption)) (by(rw[show rf.Qb=s by omega];with_reducible assumption)) (by(rw[show rf.Qb=s by omega];with_reducible assumption)) (by rfl) ‹_› ‹_›
     (X0.lM (MH B rf t s l0 l1 l2 l3 Qo rows Q6 Ql)
     ⟨cS,⟨cP,⟨(nL q0),trivial⟩⟩⟩)).cR
  ·intro s i l0 l1 l2 l3 Qo Jw s0 s1 i0 i1 e0 e1 e2 e3 ef er ⟨Ql,Wl,X0⟩;have WX:=Q7.hp;have WX:=Q7.hp;have UQ:=Q7.hg;have htn:=Q7.ht;have XZ:=Q7.st s.toNat (by omega);have hsu:=Q7.sums (i:=s) s0 (by omega);have hs1:=Q7.sums (i:=s+1) (by omega) (by omega);have hfl:Qo.length=rf.Qa.length:=(by rw[ef];exact(Xa).trans (by omega))
   have h9:=Q7.hs;have hse:(Z5 rf.Qa t.Qp t.Qx (Qg t.Qi) s.toNat).sum<=2000000000:=(by omega)
   have hgi:=Q7.rg s.toNat (by omega);have hti:=Q7.rt s.toNat (by omega);have hbB:=oB WX hgi XZ.1 (by omega);have hdB:=(tA WX hbB).1;have hln:=hgi.1;have Xi:=hti.1;have sn1:=QJ (i:=s) (g:=Vd rf.Qa t.Qp t.Qx (Qg t.Qi)) s0;have sn2:=QJ (i:=s) (g:=ZI rf.Qa t.Qp t.Qx (Qg t.Qi)) s0;have sn3:=QJ (i:=s) (g:=Vc rf.Qa t.Qp t.Qx (Qg t.Qi)) s0;have T0:=ZX (g:=ZN (t.Qp.getD s.toNat La) rf.Qa (Z5 rf.Qa t.Qp t.Qx (Qg t.Qi) s.toNat)) (K:=1000000) i.toNat (fun m m0 m1=>Rt WX hgi XZ.1 m0 (by omega));have hbs:Vd rf.Qa t.Qp t.Qx (Qg t.Qi) s=Xj 0 rf.Qa.length (ZN (t.Qp.getD s.toNat La) rf.Qa (Z5 rf.Qa t.Qp t.Qx (Qg t.Qi) s.toNat)):=rfl;by_cases q0:(i:Int)<((↑t.Qi.length:Int))
   ·have qn:i<(rf.Qa.length:Int):=(by omega)
    have SP:=WX.2 i i0 qn;simp only[YD]at SP;rw[show((i.toNat:Nat):Int)=i by omega]at T0;have hgr:=hgi.2 i i0 qn;simp only[nth]at hgr;have hfi:(Qo.getD i.toNat La)=(Z5 rf.Qa t.Qp t.Qx (Qg t.Qi) s.toNat).at i:=(by rw[ef,Xc i0 qn];exact As)
    have hat:=ZC XZ.1 i0 (show i<4 by omega);have hbi:=Rt WX hgi XZ.1 i0 qn;have hbo:Wg (rf.Qa.getD i.toNat La).room (Qo.getD i.toNat La) ((t.Qp.getD s.toNat La).getD i.toNat La)=ZN (t.Qp.getD s.toNat La) rf.Qa (Z5 rf.Qa t.Qp t.Qx (Qg t.Qi) s.toNat) i:=(by rw[hfi];rfl)
    have hsu2:=QJ (g:=ZN (t.Qp.getD s.toNat La) rf.Qa (Z5 rf.Qa t.Qp t.Qx (Qg t.Qi) s.toNat)) i0;exact((ih0 _ (by omega)).2.2.2.1 (s) (i+1) (l0) (l1+Wg (Qd.room (rf.Qa.getD i.toNat La)) (Qo.getD i.toNat La) (Ln (t.Qp.getD s.toNat La) i.toNat La)) (l2) (l3) (LM Qo i.toNat (Qo.getD i.toNat La+Wg (Qd.room (rf.Qa.getD i.toNat La)) (Qo.getD i.toNat La) (Ln (t.Qp.getD s.toNat La) i.toNat La))) rfl ‹_› ‹_› (by omega) (by omega) ‹_› (by omega) ‹_› ‹_› (by(rw[hbo,hfi,ef];exact IF i0 qn rfl)) ‹_›
     (X0.lM (MG B rf t s i l0 l1 l2 l3 Qo Ql)
     ⟨cS,⟨wI,⟨(by exact WQ (z:=1) (k:=Lb i) (fun _=>rfl) (by first|omega|(rw[LS];omega)|(rw[LN];omega)) rfl rfl),⟨⟨by omega,by omega⟩,⟨wI,⟨wI,⟨(by exact ZK (z:=1) (j:=0) (k:=Lb i) (fun _=>rfl) (by omega) rfl),⟨⟨by omega,by omega⟩,⟨⟨trivial,FH (rf.Qa.getD i.toNat La) (Qo.getD i.toNat La) (Ln (t.Qp.getD s.toNat La) i.toNat La) (by omega) ‹_› (by omega)⟩,⟨(iX (lX 1)),⟨(iX (lX 1)),⟨(by exact ZK (z:=1) (j:=0) (k:=Lb i) (fun _=>rfl) (by omega) rfl),⟨⟨by omega,by omega⟩,⟨(iX (lX 12)),⟨(Xs q0),trivial⟩⟩⟩⟩⟩⟩⟩⟩⟩⟩⟩⟩⟩⟩⟩)).cR
   ·by_cases q1:(Ld t.Qi:Int)=(0)
    ·exfalso
     (omega)
    ·have en:i=(rf.Qa.length:Int):=(by omega)
     rw[show((i.toNat:Nat):Int)=i by omega]at T0;have hsu2:=QJ (g:=ZN (t.Qp.getD s.toNat La) rf.Qa (Z5 rf.Qa t.Qp t.Qx (Qg t.Qi) s.toNat)) i0;exact((ih0 _ (by omega)).2.2.2.2.2.2.2.1 (s) (0) (l0) (l1) (l2) (l3) (Qo) (Qo) rfl ‹_› ‹_› (by omega) (by omega) ‹_› (by(rw[e1,sn1,hbs,en];done)) ‹_› (by(rw[Wq (LH _)];omega)) (by(rw[ef,en];exact(tq (by omega)).trans (Zx fun k h0 _=>(c6 h0).symm))) (by(rw[ef,en];exact tq (by omega))) ‹_›
      (X0.lM (MF B rf t s i l0 l1 l2 l3 Qo Ql)
      ⟨cS,⟨cS,⟨(aM (z:=0) (by':=8) rfl rfl rfl rfl rfl rfl rfl rfl (by kernel_rfl) rfl (by decide) ⟨by omega,(by unfold maxLen;omega),by omega,dA (z:=1) (fun _=>rfl) (fun x=>by first|rfl|(cases x <;> rfl)) (by omega)⟩),⟨(nL q0),trivial⟩⟩⟩⟩)).cR
  ·intro s i l0 l1 l2 l3 Qo rows Q6 Jw s0 s1 i0 i1 e0 e1 e2 e3 ef er hrows T3 ⟨Ql,Wl,X0⟩;have WX:=Q7.hp;have WX:=Q7.hp;have UQ:=Q7.hg;have htn:=Q7.ht;have XZ:=Q7.st s.toNat (by omega);have hsu:=Q7.sums (i:=s) s0 (by omega);have hs1:=Q7.sums (i:=s+1) (by omega) (by omega);have hfl:Qo.length=rf.Qa.length:=(by rw[ef];exact(Xa).trans (by omega))
   have h9:=Q7.hs;have hse:(Z5 rf.Qa t.Qp t.Qx (Qg t.Qi) s.toNat).sum<=2000000000:=(by omega)
   have hgi:=Q7.rg s.toNat (by omega);have hti:=Q7.rt s.toNat (by omega);have hbB:=oB WX hgi XZ.1 (by omega);have hdB:=(tA WX hbB).1;have hln:=hgi.1;have Xi:=hti.1;have sn1:=QJ (i:=s) (g:=Vd rf.Qa t.Qp t.Qx (Qg t.Qi)) s0;have sn2:=QJ (i:=s) (g:=ZI rf.Qa t.Qp t.Qx (Qg t.Qi)) s0;have sn3:=QJ (i:=s) (g:=Vc rf.Qa t.Qp t.Qx (Qg t.Qi)) s0;have T0:=ZX (g:=ZN (t.Qp.getD s.toNat La) rf.Qa (Z5 rf.Qa t.Qp t.Qx (Qg t.Qi) s.toNat)) (K:=1000000) i.toNat (fun m m0 m1=>Rt WX hgi XZ.1 m0 (by omega));have hbs:Vd rf.Qa t.Qp t.Qx (Qg t.Qi) s=Xj 0 rf.Qa.length (ZN (t.Qp.getD s.toNat La) rf.Qa (Z5 rf.Qa t.Qp t.Qx (Qg t.Qi) s.toNat)):=rfl;by_cases q0:(i:Int)<((↑t.Qi.length:Int))
   ·have Yp:rows.length=s.toNat:=(by rw[er];exact VM)
    have qn:i<(rf.Qa.length:Int):=(by omega)
    have SP:=WX.2 i i0 qn;simp only[YD]at SP;rw[show((i.toNat:Nat):Int)=i by omega]at T0;have hgr:=hgi.2 i i0 qn;simp only[nth]at hgr;have hfi:(Qo.getD i.toNat La)=(Z5 rf.Qa t.Qp t.Qx (Qg t.Qi) s.toNat).at i:=(by rw[ef,Xc i0 qn];exact As)
    have hat:=ZC XZ.1 i0 (show i<4 by omega);have hbi:=Rt WX hgi XZ.1 i0 qn;have hbo:Wg (rf.Qa.getD i.toNat La).room (Qo.getD i.toNat La) ((t.Qp.getD s.toNat La).getD i.toNat La)=ZN (t.Qp.getD s.toNat La) rf.Qa (Z5 rf.Qa t.Qp t.Qx (Qg t.Qi) s.toNat) i:=(by rw[hfi];rfl)
    have hsu2:=QJ (g:=ZN (t.Qp.getD s.toNat La) rf.Qa (Z5 rf.Qa t.Qp t.Qx (Qg t.Qi) s.toNat)) i0;exact((ih0 _ (by omega)).2.2.2.2.1 (s) (i+1) (l0) (l1+Wg (Qd.room (rf.Qa.getD i.toNat La)) (Qo.getD i.toNat La) (Ln (t.Qp.getD s.toNat La) i.toNat La)) (l2) (l3) (LM Qo i.toNat (Qo.getD i.toNat La+Wg (Qd.room (rf.Qa.getD i.toNat La)) (Qo.getD i.toNat La) (Ln (t.Qp.getD s.toNat La) i.toNat La))) (rows) (Q6) rfl ‹_› ‹_› (by omega) (by omega) ‹_› (by omega) ‹_› ‹_› (by(rw[hbo,hfi,ef];exact IF i0 qn rfl)) ‹_› ‹_› ‹_›
     (X0.lM (ME B rf t s i l0 l1 l2 l3 Qo rows Q6 Ql)
     ⟨cS,⟨cP,⟨wI,⟨(by exact WQ (z:=1) (k:=Lb i) (fun _=>rfl) (by first|omega|(rw[LS];omega)|(rw[LN];omega)) rfl rfl),⟨⟨by omega,by omega⟩,⟨wI,⟨wI,⟨(by exact ZK (z:=1) (j:=0) (k:=Lb i) (fun _=>rfl) (by omega) rfl),⟨⟨by omega,by omega⟩,⟨⟨trivial,FH (rf.Qa.getD i.toNat La) (Qo.getD i.toNat La) (Ln (t.Qp.getD s.toNat La) i.toNat La) (by omega) ‹_› (by omega)⟩,⟨(iX (lX 1)),⟨(iX (lX 1)),⟨(by exact ZK (z:=1) (j:=0) (k:=Lb i) (fun _=>rfl) (by omega) rfl),⟨⟨by omega,by omega⟩,⟨(iX (lX 12)),⟨(Xs q0),trivial⟩⟩⟩⟩⟩⟩⟩⟩⟩⟩⟩⟩⟩⟩⟩⟩)).cR
   ·by_cases q1:(Ld t.Qi:Int)=(0)
    ·exfalso
     (omega)
    ·have Yp:rows.length=s.toNat:=(by rw[er];exact VM)
     have en:i=(rf.Qa.length:Int):=(by omega)
     rw[show((i.toNat:Nat):Int)=i by omega]at T0;have hsu2:=QJ (g:=ZN (t.Qp.getD s.toNat La) rf.Qa (Z5 rf.Qa t.Qp t.Qx (Qg t.Qi) s.toNat)) i0;exact((ih0 _ (by omega)).2.2.2.2.2.2.2.2.1 (s) (0) (l0) (l1) (l2) (l3) (Qo) (Qo) (rows) (Q6) rfl ‹_› ‹_› (by omega) (by omega) ‹_› (by(rw[e1,sn1,hbs,en];done)) ‹_› (by(rw[Wq (LH _)];omega)) (by(rw[ef,en];exact(tq (by omega)).trans (Zx fun k h0 _=>(c6 h0).symm))) (by(rw[ef,en];exact tq (by omega))) ‹_› ‹_› ‹_›
      (X0.lM (MD B rf t s i l0 l1 l2 l3 Qo rows Q6 Ql)
      ⟨cS,⟨cS,⟨cP,⟨(aM (z:=0) (by':=8) rfl rfl rfl rfl rfl rfl rfl rfl (by kernel_rfl) rfl (by decide) ⟨by omega,(by unfold maxLen;omega),by omega,dA (z:=1) (fun _=>rfl) (fun x=>by first|rfl|(cases x <;> rfl)) (by omega)⟩),⟨(nL q0),trivial⟩⟩⟩⟩⟩)).cR
  ·intro i l0 l1 l2 l3 l4 Qo Jw i0 i1 e0 e1 e2 e3 ef er e4 ⟨Ql,Wl,X0⟩;have WX:=Q7.hp;have WX:=Q7.hp;have UQ:=Q7.hg;have htn:=Q7.ht;have hfl:Qo.length=rf.Qa.length:=(by rw[ef];exact(Xa).trans (by omega))
   have XZ:=Q7.st rf.Qb.toNat (by omega);have h9:=Q7.hs;have T0:=ZX (g:=(Z5 rf.Qa t.Qp t.Qx (Qg t.Qi) rf.Qb.toNat).at) (K:=2000000000) i.toNat (fun m m0 m1=>(fun h=>⟨h.1,by omega⟩) (ZC XZ.1 m0 (show m<4 by omega)));have hsn:=QJ (g:=(Z5 rf.Qa t.Qp t.Qx (Qg t.Qi) rf.Qb.toNat).at) i0;by_cases q0:(i:Int)<((↑t.Qi.length:Int))
   ·rw[show((i.toNat:Nat):Int)=i by omega]at T0;have qn:i<(rf.Qa.length:Int):=(by omega)
    have hfi:(Qo.getD i.toNat La)=(Z5 rf.Qa t.Qp t.Qx (Qg t.Qi) rf.Qb.toNat).at i:=(by rw[ef,Xc i0 qn])
    have hat:=ZC XZ.1 i0 (show i<4 by omega);exact((ih0 _ (by omega)).2.2.2.2.2.1 (i+1) (l0) (l1) (l2) (l3) (l4+Qo.getD i.toNat La) (Qo) rfl (by omega) (by omega) ‹_› ‹_› ‹_› ‹_› ‹_› ‹_› (by omega)
     (X0.lM (Fx B rf t i l0 l1 l2 l3 l4 Qo Ql)
     ⟨cS,⟨wI,⟨wI,⟨(by exact ZK (z:=1) (j:=0) (k:=Lb i) (fun _=>rfl) (by omega) rfl),⟨⟨by omega,by omega⟩,⟨(Xs q0),trivial⟩⟩⟩⟩⟩⟩)).cR
   ·rw[show((i.toNat:Nat):Int)=i by omega]at T0;have en:i=(rf.Qa.length:Int):=(by omega)
    exact(GoE.eT X0 (Fw B rf t i l0 l1 l2 l3 l4 Qo Ql)
     ⟨(nL q0),trivial⟩).cast (by(exfalso;have e_:=congrArg Ld er;rw[VM]at e_;simp only[LD]at e_;omega))
  ·intro i l0 l1 l2 l3 l4 Qo rows Q6 Jw i0 i1 e0 e1 e2 e3 ef er e4 hrows T3 ⟨Ql,Wl,X0⟩;have WX:=Q7.hp;have WX:=Q7.hp;have UQ:=Q7.hg;have htn:=Q7.ht;have hfl:Qo.length=rf.Qa.length:=(by rw[ef];exact(Xa).trans (by omega))
   have XZ:=Q7.st rf.Qb.toNat (by omega);have h9:=Q7.hs;have T0:=ZX (g:=(Z5 rf.Qa t.Qp t.Qx (Qg t.Qi) rf.Qb.toNat).at) (K:=2000000000) i.toNat (fun m m0 m1=>(fun h=>⟨h.1,by omega⟩) (ZC XZ.1 m0 (show m<4 by omega)));have hsn:=QJ (g:=(Z5 rf.Qa t.Qp t.Qx (Qg t.Qi) rf.Qb.toNat).at) i0;by_cases q0:(i:Int)<((↑t.Qi.length:Int))
   ·rw[show((i.toNat:Nat):Int)=i by omega]at T0;have qn:i<(rf.Qa.length:Int):=(by omega)
    have hfi:(Qo.getD i.toNat La)=(Z5 rf.Qa t.Qp t.Qx (Qg t.Qi) rf.Qb.toNat).at i:=(by rw[ef,Xc i0 qn])
    have hat:=ZC XZ.1 i0 (show i<4 by omega);exact((ih0 _ (by omega)).2.2.2.2.2.2.1 (i+1) (l0) (l1) (l2) (l3) (l4+Qo.getD i.toNat La) (Qo) (rows) (Q6) rfl (by omega) (by omega) ‹_› ‹_› ‹_› ‹_› ‹_› ‹_› (by omega) ‹_› ‹_›
     (X0.lM (Fv B rf t i l0 l1 l2 l3 l4 Qo rows Q6 Ql)
     ⟨cS,⟨cP,⟨wI,⟨wI,⟨(by exact ZK (z:=1) (j:=0) (k:=Lb i) (fun _=>rfl) (by omega) rfl),⟨⟨by omega,by omega⟩,⟨(Xs q0),trivial⟩⟩⟩⟩⟩⟩⟩)).cR
   ·rw[show((i.toNat:Nat):Int)=i by omega]at T0;have en:i=(rf.Qa.length:Int):=(by omega)
    exact(GoE.eT X0 (Fu B rf t i l0 l1 l2 l3 l4 Qo rows Q6 Ql)
     ⟨(VG (YH (by exact fun _=>rfl)) (LP _)),⟨(nL q0),trivial⟩⟩).cast (by((have e9:=NH (n:=rf.Qb) (s:=rf.Qb) (ps:=rf.Qa) (gs:=t.Qp) (ts:=t.Qx) (f:=(Qg t.Qi)) (by omega) (by omega) (by omega));unfold KP;rw[hrows,er,e9,VM,e0,e1,e2,e3,e4,en,show(XD rf.Qb rf.Qa t.Qp t.Qx (Qg t.Qi)).length=rf.Qb.toNat from Xa,EB (Qb0 WX (by rw[<-hl];exact uu) _) (by omega) (by omega)]))
  ·intro s i l0 l1 l2 l3 Qo grown Jw s0 s1 i0 i1 e0 e1 e2 e3 ef eg er ⟨Ql,Wl,X0⟩;have WX:=Q7.hp;have WX:=Q7.hp;have UQ:=Q7.hg;have htn:=Q7.ht;have XZ:=Q7.st s.toNat (by omega);have hsu:=Q7.sums (i:=s) s0 (by omega);have hs1:=Q7.sums (i:=s+1) (by omega) (by omega);have hfl:Qo.length=rf.Qa.length:=(by rw[ef];exact(Xa).trans (by omega))
   have h9:=Q7.hs;have hse:(Z5 rf.Qa t.Qp t.Qx (Qg t.Qi) s.toNat).sum<=2000000000:=(by omega)
   have hgi:=Q7.rg s.toNat (by omega);have hti:=Q7.rt s.toNat (by omega);have hbB:=oB WX hgi XZ.1 (by omega);have hdB:=(tA WX hbB).1;have hln:=hgi.1;have Xi:=hti.1;have sn1:=QJ (i:=s) (g:=Vd rf.Qa t.Qp t.Qx (Qg t.Qi)) s0;have sn2:=QJ (i:=s) (g:=ZI rf.Qa t.Qp t.Qx (Qg t.Qi)) s0;have sn3:=QJ (i:=s) (g:=Vc rf.Qa t.Qp t.Qx (Qg t.Qi)) s0;have hgl:grown.length=rf.Qa.length:=(by rw[eg];exact(Xa).trans (by omega))
   have T0:=ZX (g:=Zv rf.Qa (Vb (t.Qp.getD s.toNat La) rf.Qa (Z5 rf.Qa t.Qp t.Qx (Qg t.Qi) s.toNat))) (K:=100000000000) i.toNat (fun m m0 m1=>fY WX hbB m0 (by omega));have hbs:Vc rf.Qa t.Qp t.Qx (Qg t.Qi) s=Xj 0 rf.Qa.length (Zv rf.Qa (Vb (t.Qp.getD s.toNat La) rf.Qa (Z5 rf.Qa t.Qp t.Qx (Qg t.Qi) s.toNat))):=rfl;by_cases q0:(i:Int)<((↑t.Qi.length:Int))
   ·have VO:Qz (rI B rf t s i l0 l1 l2 l3 Qo grown Ql):=by
     have qn:i<(rf.Qa.length:Int):=(by omega)
     have SP:=WX.2 i i0 qn;simp only[YD]at SP;rw[show((i.toNat:Nat):Int)=i by omega]at T0;have J4:=VD SP.2.2.1;have hat:=ZC hbB i0 (show i<4 by omega);have hgi2:(grown.getD i.toNat La)=(Vb (t.Qp.getD s.toNat La) rf.Qa (Z5 rf.Qa t.Qp t.Qx (Qg t.Qi) s.toNat)).at i:=(by rw[eg,Xc i0 qn])
     have hA:((grown.getD i.toNat La)*(rf.Qa.getD i.toNat La).QI).tdiv 1000=Wn rf.Qa (Vb (t.Qp.getD s.toNat La) rf.Qa (Z5 rf.Qa t.Qp t.Qx (Qg t.Qi) s.toNat)) i:=(by rw[hgi2];rfl)
     have haw:=Kq WX hbB i0 qn;have hfi:(Qo.getD i.toNat La)=Wp rf.Qa (Vb (t.Qp.getD s.toNat La) rf.Qa (Z5 rf.Qa t.Qp t.Qx (Qg t.Qi) s.toNat)) i i:=(by rw[ef,Xc i0 qn])
     have hdi:=Yk WX hbB i0 i1 i0 (show i<4 by omega);have PR:=Yh (a:=(grown.getD i.toNat La)) (r:=(rf.Qa.getD i.toNat La).QI) (by omega) (by omega);have hsu2:=QJ (g:=Zv rf.Qa (Vb (t.Qp.getD s.toNat La) rf.Qa (Z5 rf.Qa t.Qp t.Qx (Qg t.Qi) s.toNat))) i0;exact⟨(iX (lX 12)),⟨(by exact WQ (z:=1) (k:=Lb i) (fun _=>rfl) (by first|omega|(rw[LS];omega)|(rw[LN];omega)) rfl rfl),⟨⟨by omega,by omega⟩,⟨wI,⟨(by exact ZK (z:=1) (j:=0) (k:=Lb i) (fun _=>rfl) (by omega) rfl),⟨⟨by omega,by omega⟩,⟨(PX (by omega) (by omega)),⟨wI,⟨(iX (lX 12)),⟨(by exact ZK (z:=1) (j:=0) (k:=Lb i) (fun _=>rfl) (by omega) rfl),⟨⟨by omega,by omega⟩,⟨(Xs q0),trivial⟩⟩⟩⟩⟩⟩⟩⟩⟩⟩⟩⟩
    by_cases q1:(0:Int)<=(Qd.Xw (rf.Qa.getD i.toNat La))
    ·have qn:i<(rf.Qa.length:Int):=(by omega)
     have SP:=WX.2 i i0 qn;simp only[YD]at SP;rw[show((i.toNat:Nat):Int)=i by omega]at T0;have J4:=VD SP.2.2.1;have hat:=ZC hbB i0 (show i<4 by omega);have hgi2:(grown.getD i.toNat La)=(Vb (t.Qp.getD s.toNat La) rf.Qa (Z5 rf.Qa t.Qp t.Qx (Qg t.Qi) s.toNat)).at i:=(by rw[eg,Xc i0 qn])
     have hA:((grown.getD i.toNat La)*(rf.Qa.getD i.toNat La).QI).tdiv 1000=Wn rf.Qa (Vb (t.Qp.getD s.toNat La) rf.Qa (Z5 rf.Qa t.Qp t.Qx (Qg t.Qi) s.toNat)) i:=(by rw[hgi2];rfl)
     have haw:=Kq WX hbB i0 qn;have hfi:(Qo.getD i.toNat La)=Wp rf.Qa (Vb (t.Qp.getD s.toNat La) rf.Qa (Z5 rf.Qa t.Qp t.Qx (Qg t.Qi) s.toNat)) i i:=(by rw[ef,Xc i0 qn])
     have hdi:=Yk WX hbB i0 i1 i0 (show i<4 by omega);have PR:=Yh (a:=(grown.getD i.toNat La)) (r:=(rf.Qa.getD i.toNat La).QI) (by omega) (by omega);have hsu2:=QJ (g:=Zv rf.Qa (Vb (t.Qp.getD s.toNat La) rf.Qa (Z5 rf.Qa t.Qp t.Qx (Qg t.Qi) s.toNat))) i0;have hgz:Zv rf.Qa (Vb (t.Qp.getD s.toNat La) rf.Qa (Z5 rf.Qa t.Qp t.Qx (Qg t.Qi) s.toNat)) i=0:=if_neg (show ¬(rf.Qa.getD i.toNat La).Xw= -1 by omega);have hvn:0<=(rf.Qa.getD i.toNat La).Xw/\(rf.Qa.getD i.toNat La).Xw<rf.Qa.length:=(by omega)
     have hdv:=Yk WX hbB i0 i1 hvn.1 (show(rf.Qa.getD i.toNat La).Xw<4 by omega);have hmd:(LM Qo i.toNat ((Qo.getD i.toNat La)-((grown.getD i.toNat La)*(rf.Qa.getD i.toNat La).QI).tdiv 1000)).getD (rf.Qa.getD i.toNat La).Xw.toNat La=Wp rf.Qa (Vb (t.Qp.getD s.toNat La) rf.Qa (Z5 rf.Qa t.Qp t.Qx (Qg t.Qi) s.toNat)) i (rf.Qa.getD i.toNat La).Xw:=(by rw[ef];exact IU i0 qn hvn.1 hvn.2 SP.2.2.2)
     exact((ih0 _ (by omega)).2.2.2.2.2.2.2.1 (s) (i+1) (l0) (l1) (l2) (l3) (LM (LM Qo i.toNat (Qo.getD i.toNat La-Lc (grown.getD i.toNat La*Qd.QI (rf.Qa.getD i.toNat La)) 1000)) (Lb (Qd.Xw (rf.Qa.getD i.toNat La))) (Ln (LM Qo i.toNat (Qo.getD i.toNat La-Lc (grown.getD i.toNat La*Qd.QI (rf.Qa.getD i.toNat La)) 1000)) (Lb (Qd.Xw (rf.Qa.getD i.toNat La))) La+Lc (grown.getD i.toNat La*Qd.QI (rf.Qa.getD i.toNat La)) 1000)) (grown) rfl ‹_› ‹_› (by omega) (by omega) ‹_› ‹_› ‹_› (by omega) (by(rw[hmd,hA,hfi,ef];exact By i0 qn hvn.1 hvn.2 SP.2.2.2 rfl rfl rfl)) ‹_› ‹_›
      (X0.lM (Ft B rf t s i l0 l1 l2 l3 Qo grown Ql)
      ⟨cS,⟨cS,⟨wI,⟨(by exact WQ (z:=1) (k:=Lb (Qd.Xw (rf.Qa.getD i.toNat La))) (fun _=>rfl) (by first|omega|(rw[LS];omega)|(rw[LN];omega)) rfl rfl),⟨⟨by omega,by omega⟩,⟨wI,⟨(by exact ZK (z:=1) (j:=0) (k:=Lb (Qd.Xw (rf.Qa.getD i.toNat La))) (fun _=>rfl) (by(rw[LS];omega)) rfl),⟨⟨by omega,by omega⟩,⟨(VZ q1),VO⟩⟩⟩⟩⟩⟩⟩⟩⟩)).cR
    ·have qn:i<(rf.Qa.length:Int):=(by omega)
     have SP:=WX.2 i i0 qn;simp only[YD]at SP;rw[show((i.toNat:Nat):Int)=i by omega]at T0;have J4:=VD SP.2.2.1;have hat:=ZC hbB i0 (show i<4 by omega);have hgi2:(grown.getD i.toNat La)=(Vb (t.Qp.getD s.toNat La) rf.Qa (Z5 rf.Qa t.Qp t.Qx (Qg t.Qi) s.toNat)).at i:=(by rw[eg,Xc i0 qn])
     have hA:((grown.getD i.toNat La)*(rf.Qa.getD i.toNat La).QI).tdiv 1000=Wn rf.Qa (Vb (t.Qp.getD s.toNat La) rf.Qa (Z5 rf.Qa t.Qp t.Qx (Qg t.Qi) s.toNat)) i:=(by rw[hgi2];rfl)
     have haw:=Kq WX hbB i0 qn;have hfi:(Qo.getD i.toNat La)=Wp rf.Qa (Vb (t.Qp.getD s.toNat La) rf.Qa (Z5 rf.Qa t.Qp t.Qx (Qg t.Qi) s.toNat)) i i:=(by rw[ef,Xc i0 qn])
     have hdi:=Yk WX hbB i0 i1 i0 (show i<4 by omega);have PR:=Yh (a:=(grown.getD i.toNat La)) (r:=(rf.Qa.getD i.toNat La).QI) (by omega) (by omega);have hsu2:=QJ (g:=Zv rf.Qa (Vb (t.Qp.getD s.toNat La) rf.Qa (Z5 rf.Qa t.Qp t.Qx (Qg t.Qi) s.toNat))) i0;have hv1:(rf.Qa.getD i.toNat La).Xw= -1:=(by omega)
     have PH:Zv rf.Qa (Vb (t.Qp.getD s.toNat La) rf.Qa (Z5 rf.Qa t.Qp t.Qx (Qg t.Qi) s.toNat)) i=Wn rf.Qa (Vb (t.Qp.getD s.toNat La) rf.Qa (Z5 rf.Qa t.Qp t.Qx (Qg t.Qi) s.toNat)) i:=if_pos hv1;exact((ih0 _ (by omega)).2.2.2.2.2.2.2.1 (s) (i+1) (l0) (l1) (l2) (l3+Lc (grown.getD i.toNat La*Qd.QI (rf.Qa.getD i.toNat La)) 1000) (LM Qo i.toNat (Qo.getD i.toNat La-Lc (grown.getD i.toNat La*Qd.QI (rf.Qa.getD i.toNat La)) 1000)) (grown) rfl ‹_› ‹_› (by omega) (by omega) ‹_› ‹_› ‹_› (by omega) (by(rw[hA,hfi,ef];exact Bz i0 qn hv1 rfl)) ‹_› ‹_›
      (X0.lM (Fs B rf t s i l0 l1 l2 l3 Qo grown Ql)
      ⟨cS,⟨cS,⟨wI,⟨wI,⟨(Ua (Int.not_le.1 q1)),VO⟩⟩⟩⟩⟩)).cR
   ·have en:i=(rf.Qa.length:Int):=(by omega)
    rw[show((i.toNat:Nat):Int)=i by omega]at T0;have hsu2:=QJ (g:=Zv rf.Qa (Vb (t.Qp.getD s.toNat La) rf.Qa (Z5 rf.Qa t.Qp t.Qx (Qg t.Qi) s.toNat))) i0;exact((ih0 _ (by omega)).2.2.2.2.2.2.2.2.2.1 (s) (0) (l0) (l1) (l2) (l3) (Qo) rfl ‹_› ‹_› (by omega) (by omega) ‹_› ‹_› (by(rw[Wq (LH _)];omega)) (by(rw[e3,sn3,hbs,en];done)) (by(rw[ef,en];exact(IV (by omega)).trans (Zx fun k h0 _=>(OF h0).symm))) ‹_›
     (X0.lM (Fq B rf t s i l0 l1 l2 l3 Qo grown Ql)
     ⟨cS,⟨(nL q0),trivial⟩⟩)).cR
  ·intro s i l0 l1 l2 l3 Qo grown rows Q6 Jw s0 s1 i0 i1 e0 e1 e2 e3 ef eg er hrows T3 ⟨Ql,Wl,X0⟩;have WX:=Q7.hp;have WX:=Q7.hp;have UQ:=Q7.hg;have htn:=Q7.ht;have XZ:=Q7.st s.toNat (by omega);have hsu:=Q7.sums (i:=s) s0 (by omega);have hs1:=Q7.sums (i:=s+1) (by omega) (by omega);have hfl:Qo.length=rf.Qa.length:=(by rw[ef];exact(Xa).trans (by omega))
   have h9:=Q7.hs;have hse:(Z5 rf.Qa t.Qp t.Qx (Qg t.Qi) s.toNat).sum<=2000000000:=(by omega)
   have hgi:=Q7.rg s.toNat (by omega);have hti:=Q7.rt s.toNat (by omega);have hbB:=oB WX hgi XZ.1 (by omega);have hdB:=(tA WX hbB).1;have hln:=hgi.1;have Xi:=hti.1;have sn1:=QJ (i:=s) (g:=Vd rf.Qa t.Qp t.Qx (Qg t.Qi)) s0;have sn2:=QJ (i:=s) (g:=ZI rf.Qa t.Qp t.Qx (Qg t.Qi)) s0;have sn3:=QJ (i:=s) (g:=Vc rf.Qa t.Qp t.Qx (Qg t.Qi)) s0;have hgl:grown.length=rf.Qa.length:=(by rw[eg];exact(Xa).trans (by omega))
   have T0:=ZX (g:=Zv rf.Qa (Vb (t.Qp.getD s.toNat La) rf.Qa (Z5 rf.Qa t.Qp t.Qx (Qg t.Qi) s.toNat))) (K:=100000000000) i.toNat (fun m m0 m1=>fY WX hbB m0 (by omega));have hbs:Vc rf.Qa t.Qp t.Qx (Qg t.Qi) s=Xj 0 rf.Qa.length (Zv rf.Qa (Vb (t.Qp.getD s.toNat La) rf.Qa (Z5 rf.Qa t.Qp t.Qx (Qg t.Qi) s.toNat))):=rfl;by_cases q0:(i:Int)<((↑t.Qi.length:Int))
   ·have hp1:Qz (rH B rf t s i l0 l1 l2 l3 Qo grown rows Q6 Ql):=by
     have Yp:rows.length=s.toNat:=(by rw[er];exact VM)
     have qn:i<(rf.Qa.length:Int):=(by omega)
     have SP:=WX.2 i i0 qn;simp only[YD]at SP;rw[show((i.toNat:Nat):Int)=i by omega]at T0;have J4:=VD SP.2.2.1;have hat:=ZC hbB i0 (show i<4 by omega);have hgi2:(grown.getD i.toNat La)=(Vb (t.Qp.getD s.toNat La) rf.Qa (Z5 rf.Qa t.Qp t.Qx (Qg t.Qi) s.toNat)).at i:=(by rw[eg,Xc i0 qn])
     have hA:((grown.getD i.toNat La)*(rf.Qa.getD i.toNat La).QI).tdiv 1000=Wn rf.Qa (Vb (t.Qp.getD s.toNat La) rf.Qa (Z5 rf.Qa t.Qp t.Qx (Qg t.Qi) s.toNat)) i:=(by rw[hgi2];rfl)
     have haw:=Kq WX hbB i0 qn;have hfi:(Qo.getD i.toNat La)=Wp rf.Qa (Vb (t.Qp.getD s.toNat La) rf.Qa (Z5 rf.Qa t.Qp t.Qx (Qg t.Qi) s.toNat)) i i:=(by rw[ef,Xc i0 qn])
     have hdi:=Yk WX hbB i0 i1 i0 (show i<4 by omega);have PR:=Yh (a:=(grown.getD i.toNat La)) (r:=(rf.Qa.getD i.toNat La).QI) (by omega) (by omega);have hsu2:=QJ (g:=Zv rf.Qa (Vb (t.Qp.getD s.toNat La) rf.Qa (Z5 rf.Qa t.Qp t.Qx (Qg t.Qi) s.toNat))) i0;exact⟨(iX (lX 12)),⟨(by exact WQ (z:=1) (k:=Lb i) (fun _=>rfl) (by first|omega|(rw[LS];omega)|(rw[LN];omega)) rfl rfl),⟨⟨by omega,by omega⟩,⟨wI,⟨(by exact ZK (z:=1) (j:=0) (k:=Lb i) (fun _=>rfl) (by omega) rfl),⟨⟨by omega,by omega⟩,⟨(PX (by omega) (by omega)),⟨wI,⟨(iX (lX 12)),⟨(by exact ZK (z:=1) (j:=0) (k:=Lb i) (fun _=>rfl) (by omega) rfl),⟨⟨by omega,by omega⟩,⟨(Xs q0),trivial⟩⟩⟩⟩⟩⟩⟩⟩⟩⟩⟩⟩
    by_cases q1:(0:Int)<=(Qd.Xw (rf.Qa.getD i.toNat La))
    ·have Yp:rows.length=s.toNat:=(by rw[er];exact VM)
     have qn:i<(rf.Qa.length:Int):=(by omega)
     have SP:=WX.2 i i0 qn;simp only[YD]at SP;rw[show((i.toNat:Nat):Int)=i by omega]at T0;have J4:=VD SP.2.2.1;have hat:=ZC hbB i0 (show i<4 by omega);have hgi2:(grown.getD i.toNat La)=(Vb (t.Qp.getD s.toNat La) rf.Qa (Z5 rf.Qa t.Qp t.Qx (Qg t.Qi) s.toNat)).at i:=(by rw[eg,Xc i0 qn])
     have hA:((grown.getD i.toNat La)*(rf.Qa.getD i.toNat La).QI).tdiv 1000=Wn rf.Qa (Vb (t.Qp.getD s.toNat La) rf.Qa (Z5 rf.Qa t.Qp t.Qx (Qg t.Qi) s.toNat)) i:=(by rw[hgi2];rfl)
     have haw:=Kq WX hbB i0 qn;have hfi:(Qo.getD i.toNat La)=Wp rf.Qa (Vb (t.Qp.getD s.toNat La) rf.Qa (Z5 rf.Qa t.Qp t.Qx (Qg t.Qi) s.toNat)) i i:=(by rw[ef,Xc i0 qn])
     have hdi:=Yk WX hbB i0 i1 i0 (show i<4 by omega);have PR:=Yh (a:=(grown.getD i.toNat La)) (r:=(rf.Qa.getD i.toNat La).QI) (by omega) (by omega);have hsu2:=QJ (g:=Zv rf.Qa (Vb (t.Qp.getD s.toNat La) rf.Qa (Z5 rf.Qa t.Qp t.Qx (Qg t.Qi) s.toNat))) i0;have hgz:Zv rf.Qa (Vb (t.Qp.getD s.toNat La) rf.Qa (Z5 rf.Qa t.Qp t.Qx (Qg t.Qi) s.toNat)) i=0:=if_neg (show ¬(rf.Qa.getD i.toNat La).Xw= -1 by omega);have hvn:0<=(rf.Qa.getD i.toNat La).Xw/\(rf.Qa.getD i.toNat La).Xw<rf.Qa.length:=(by omega)
     have hdv:=Yk WX hbB i0 i1 hvn.1 (show(rf.Qa.getD i.toNat La).Xw<4 by omega);have hmd:(LM Qo i.toNat ((Qo.getD i.toNat La)-((grown.getD i.toNat La)*(rf.Qa.getD i.toNat La).QI).tdiv 1000)).getD (rf.Qa.getD i.toNat La).Xw.toNat La=Wp rf.Qa (Vb (t.Qp.getD s.toNat La) rf.Qa (Z5 rf.Qa t.Qp t.Qx (Qg t.Qi) s.toNat)) i (rf.Qa.getD i.toNat La).Xw:=(by rw[ef];exact IU i0 qn hvn.1 hvn.2 SP.2.2.2)
     exact((ih0 _ (by omega)).2.2.2.2.2.2.2.2.1 (s) (i+1) (l0) (l1) (l2) (l3) (LM (LM Qo i.toNat (Qo.getD i.toNat La-Lc (grown.getD i.toNat La*Qd.QI (rf.Qa.getD i.toNat La)) 1000)) (Lb (Qd.Xw (rf.Qa.getD i.toNat La))) (Ln (LM Qo i.toNat (Qo.getD i.toNat La-Lc (grown.getD i.toNat La*Qd.QI (rf.Qa.getD i.toNat La)) 1000)) (Lb (Qd.Xw (rf.Qa.getD i.toNat La))) La+Lc (grown.getD i.toNat La*Qd.QI (rf.Qa.getD i.toNat La)) 1000)) (grown) (rows) (Q6) rfl ‹_› ‹_› (by omega) (by omega) ‹_› ‹_› ‹_› (by omega) (by(rw[hmd,hA,hfi,ef];exact By i0 qn hvn.1 hvn.2 SP.2.2.2 rfl rfl rfl)) ‹_› ‹_› ‹_› ‹_›
      (X0.lM (Fp B rf t s i l0 l1 l2 l3 Qo grown rows Q6 Ql)
      ⟨cS,⟨cS,⟨cP,⟨wI,⟨(by exact WQ (z:=1) (k:=Lb (Qd.Xw (rf.Qa.getD i.toNat La))) (fun _=>rfl) (by first|omega|(rw[LS];omega)|(rw[LN];omega)) rfl rfl),⟨⟨by omega,by omega⟩,⟨wI,⟨(by exact ZK (z:=1) (j:=0) (k:=Lb (Qd.Xw (rf.Qa.getD i.toNat La))) (fun _=>rfl) (by(rw[LS];omega)) rfl),⟨⟨by omega,by omega⟩,⟨(VZ q1),hp1⟩⟩⟩⟩⟩⟩⟩⟩⟩⟩)).cR
    ·have Yp:rows.length=s.toNat:=(by rw[er];exact VM)
     have qn:i<(rf.Qa.length:Int):=(by omega)
     have SP:=WX.2 i i0 qn;simp only[YD]at SP;rw[show((i.toNat:Nat):Int)=i by omega]at T0;have J4:=VD SP.2.2.1;have hat:=ZC hbB i0 (show i<4 by omega);have hgi2:(grown.getD i.toNat La)=(Vb (t.Qp.getD s.toNat La) rf.Qa (Z5 rf.Qa t.Qp t.Qx (Qg t.Qi) s.toNat)).at i:=(by rw[eg,Xc i0 qn])
     have hA:((grown.getD i.toNat La)*(rf.Qa.getD i.toNat La).QI).tdiv 1000=Wn rf.Qa (Vb (t.Qp.getD s.toNat La) rf.Qa (Z5 rf.Qa t.Qp t.Qx (Qg t.Qi) s.toNat)) i:=(by rw[hgi2];rfl)
     have haw:=Kq WX hbB i0 qn;have hfi:(Qo.getD i.toNat La)=Wp rf.Qa (Vb (t.Qp.getD s.toNat La) rf.Qa (Z5 rf.Qa t.Qp t.Qx (Qg t.Qi) s.toNat)) i i:=(by rw[ef,Xc i0 qn])
     have hdi:=Yk WX hbB i0 i1 i0 (show i<4 by omega);have PR:=Yh (a:=(grown.getD i.toNat La)) (r:=(rf.Qa.getD i.toNat La).QI) (by omega) (by omega);have hsu2:=QJ (g:=Zv rf.Qa (Vb (t.Qp.getD s.toNat La) rf.Qa (Z5 rf.Qa t.Qp t.Qx (Qg t.Qi) s.toNat))) i0;have hv1:(rf.Qa.getD i.toNat La).Xw= -1:=(by omega)
     have PH:Zv rf.Qa (Vb (t.Qp.getD s.toNat La) rf.Qa (Z5 rf.Qa t.Qp t.Qx (Qg t.Qi) s.toNat)) i=Wn rf.Qa (Vb (t.Qp.getD s.toNat La) rf.Qa (Z5 rf.Qa t.Qp t.Qx (Qg t.Qi) s.toNat)) i:=if_pos hv1;exact((ih0 _ (by omega)).2.2.2.2.2.2.2.2.1 (s) (i+1) (l0) (l1) (l2) (l3+Lc (grown.getD i.toNat La*Qd.QI (rf.Qa.getD i.toNat La)) 1000) (LM Qo i.toNat (Qo.getD i.toNat La-Lc (grown.getD i.toNat La*Qd.QI (rf.Qa.getD i.toNat La)) 1000)) (grown) (rows) (Q6) rfl ‹_› ‹_› (by omega) (by omega) ‹_› ‹_› ‹_› (by omega) (by(rw[hA,hfi,ef];exact Bz i0 qn hv1 rfl)) ‹_› ‹_› ‹_› ‹_›
      (X0.lM (Fo B rf t s i l0 l1 l2 l3 Qo grown rows Q6 Ql)
      ⟨cS,⟨cS,⟨cP,⟨wI,⟨wI,⟨(Ua (Int.not_le.1 q1)),hp1⟩⟩⟩⟩⟩⟩)).cR
   ·have Yp:rows.length=s.toNat:=(by rw[er];exact VM)
    have en:i=(rf.Qa.length:Int):=(by omega)
    rw[show((i.toNat:Nat):Int)=i by omega]at T0;have hsu2:=QJ (g:=Zv rf.Qa (Vb (t.Qp.getD s.toNat La) rf.Qa (Z5 rf.Qa t.Qp t.Qx (Qg t.Qi) s.toNat))) i0;exact((ih0 _ (by omega)).2.2.2.2.2.2.2.2.2.2 (s) (0) (l0) (l1) (l2) (l3) (Qo) (rows) (Q6) rfl ‹_› ‹_› (by omega) (by omega) ‹_› ‹_› (by(rw[Wq (LH _)];omega)) (by(rw[e3,sn3,hbs,en];done)) (by(rw[ef,en];exact(IV (by omega)).trans (Zx fun k h0 _=>(OF h0).symm))) ‹_› ‹_› ‹_›
     (X0.lM (Fm B rf t s i l0 l1 l2 l3 Qo grown rows Q6 Ql)
     ⟨cS,⟨cP,⟨(nL q0),trivial⟩⟩⟩)).cR
  ·intro s i l0 l1 l2 l3 Qo Jw s0 s1 i0 i1 e0 e1 e2 e3 ef er ⟨Ql,Wl,X0⟩;have WX:=Q7.hp;have WX:=Q7.hp;have UQ:=Q7.hg;have htn:=Q7.ht;have XZ:=Q7.st s.toNat (by omega);have hsu:=Q7.sums (i:=s) s0 (by omega);have hs1:=Q7.sums (i:=s+1) (by omega) (by omega);have hfl:Qo.length=rf.Qa.length:=(by rw[ef];exact(Xa).trans (by omega))
   have h9:=Q7.hs;have hse:(Z5 rf.Qa t.Qp t.Qx (Qg t.Qi) s.toNat).sum<=2000000000:=(by omega)
   have hgi:=Q7.rg s.toNat (by omega);have hti:=Q7.rt s.toNat (by omega);have hbB:=oB WX hgi XZ.1 (by omega);have hdB:=(tA WX hbB).1;have hln:=hgi.1;have Xi:=hti.1;have sn1:=QJ (i:=s) (g:=Vd rf.Qa t.Qp t.Qx (Qg t.Qi)) s0;have sn2:=QJ (i:=s) (g:=ZI rf.Qa t.Qp t.Qx (Qg t.Qi)) s0;have sn3:=QJ (i:=s) (g:=Vc rf.Qa t.Qp t.Qx (Qg t.Qi)) s0;have T0:=ZX (g:=Za (t.Qx.getD s.toNat La) (cl rf.Qa (Vb (t.Qp.getD s.toNat La) rf.Qa (Z5 rf.Qa t.Qp t.Qx (Qg t.Qi) s.toNat)))) (K:=1000000) i.toNat (fun m m0 m1=>(fun h=>⟨h.1,h.2.2⟩) (YJ hti hdB m0 (by omega) WX.1));have hbs:ZI rf.Qa t.Qp t.Qx (Qg t.Qi) s=Xj 0 rf.Qa.length (Za (t.Qx.getD s.toNat La) (cl rf.Qa (Vb (t.Qp.getD s.toNat La) rf.Qa (Z5 rf.Qa t.Qp t.Qx (Qg t.Qi) s.toNat)))):=rfl;have hs9:=qO (n:=rf.Qa.length) (ps:=rf.Qa) (gs:=t.Qp) (ts:=t.Qx) (f:=(Qg t.Qi)) s0;have hnx:Ze rf.Qa.length (Z5 rf.Qa t.Qp t.Qx (Qg t.Qi) (s+1).toNat).at=Ze rf.Qa.length (Ez (t.Qx.getD s.toNat La) rf.Qa (cl rf.Qa (Vb (t.Qp.getD s.toNat La) rf.Qa (Z5 rf.Qa t.Qp t.Qx (Qg t.Qi) s.toNat)))).at:=(by rw[show(s+1).toNat=s.toNat+1 by omega];rfl)
   by_cases q0:(i:Int)<((↑t.Qi.length:Int))
   ·rw[show((i.toNat:Nat):Int)=i by omega]at T0;have qn:i<(rf.Qa.length:Int):=(by omega)
    have htr:=hti.2 i i0 qn;simp only[nth]at htr;have hfi:(Qo.getD i.toNat La)=(cl rf.Qa (Vb (t.Qp.getD s.toNat La) rf.Qa (Z5 rf.Qa t.Qp t.Qx (Qg t.Qi) s.toNat))).at i:=(by rw[ef,Xc i0 qn];exact yR)
    have hat:=ZC hdB i0 (show i<4 by omega);have hta:=YJ hti hdB i0 qn WX.1;have hX:(if(t.Qx.getD s.toNat La).getD i.toNat La<(Qo.getD i.toNat La)then(t.Qx.getD s.toNat La).getD i.toNat La else(Qo.getD i.toNat La))=Za (t.Qx.getD s.toNat La) (cl rf.Qa (Vb (t.Qp.getD s.toNat La) rf.Qa (Z5 rf.Qa t.Qp t.Qx (Qg t.Qi) s.toNat))) i:=(by rw[hfi];rfl)
    have hsu2:=QJ (g:=Za (t.Qx.getD s.toNat La) (cl rf.Qa (Vb (t.Qp.getD s.toNat La) rf.Qa (Z5 rf.Qa t.Qp t.Qx (Qg t.Qi) s.toNat)))) i0;exact((ih0 _ (by omega)).2.2.2.2.2.2.2.2.2.1 (s) (i+1) (l0) (l1) (l2+if Ln (t.Qx.getD s.toNat La) i.toNat La<Qo.getD i.toNat La then Ln (t.Qx.getD s.toNat La) i.toNat La else Qo.getD i.toNat La) (l3) (LM Qo i.toNat (Qo.getD i.toNat La-if Ln (t.Qx.getD s.toNat La) i.toNat La<Qo.getD i.toNat La then Ln (t.Qx.getD s.toNat La) i.toNat La else Qo.getD i.toNat La)) rfl ‹_› ‹_› (by omega) (by omega) ‹_› ‹_› (by omega) ‹_› (by(rw[hX,hfi,ef];exact E9 i0 qn rfl)) ‹_›
     (X0.lM (Fl B rf t s i l0 l1 l2 l3 Qo Ql)
     ⟨cS,⟨wI,⟨(by exact WQ (z:=1) (k:=Lb i) (fun _=>rfl) (by first|omega|(rw[LS];omega)|(rw[LN];omega)) rfl rfl),⟨⟨by omega,by omega⟩,⟨wI,⟨wI,⟨(by exact ZK (z:=1) (j:=0) (k:=Lb i) (fun _=>rfl) (by omega) rfl),⟨⟨by omega,by omega⟩,⟨(iX (lX 1)),⟨(iX (lX 1)),⟨(by exact ZK (z:=1) (j:=0) (k:=Lb i) (fun _=>rfl) (by omega) rfl),⟨⟨by omega,by omega⟩,⟨(Xs q0),trivial⟩⟩⟩⟩⟩⟩⟩⟩⟩⟩⟩⟩⟩)).cR
   ·by_cases q1:(Ld t.Qi:Int)=(0)
    ·exfalso
     (omega)
    ·rw[show((i.toNat:Nat):Int)=i by omega]at T0;have en:i=(rf.Qa.length:Int):=(by omega)
     have hsu2:=QJ (g:=Za (t.Qx.getD s.toNat La) (cl rf.Qa (Vb (t.Qp.getD s.toNat La) rf.Qa (Z5 rf.Qa t.Qp t.Qx (Qg t.Qi) s.toNat)))) i0;exact((ih0 _ (by omega)).2.2.1 (s+1) (l0) (l1) (l2) (l3) (Qo) ([{n:=Ld t.Qi,l:=Qo}]) (1) rfl (by omega) (by omega) ‹_› ‹_› (by(rw[e2,sn2,hbs,en];done)) ‹_› (by(rw[ef,en,hnx];exact r8 (by omega))) (by(rw[hs9,<-er,hl,List.nil_append,ef,en];exact congrArg (fun z=>[RW.mk _ z]) (r8 (by omega)))) (by rfl) (by(simp only[Ls,Lr,LD];omega))
      (X0.lM (Fk B rf t s i l0 l1 l2 l3 Qo Ql)
      (by exact⟨cS,⟨(by exact(VF (by exact⟨(.own (LP _)),trivial⟩))),⟨(X2 (fun x=>List.all_eq_true.1 (by rfl))),⟨wI,⟨(aM (z:=0) (by':=8) rfl rfl rfl rfl rfl rfl rfl rfl (by kernel_rfl) rfl (by decide) ⟨by omega,(by unfold maxLen;omega),by omega,dA (z:=1) (fun _=>rfl) (fun x=>by first|rfl|(cases x <;> rfl)) (by omega)⟩),⟨(nL q0),trivial⟩⟩⟩⟩⟩⟩))).cR
  ·intro s i l0 l1 l2 l3 Qo rows Q6 Jw s0 s1 i0 i1 e0 e1 e2 e3 ef er hrows T3 ⟨Ql,Wl,X0⟩;have WX:=Q7.hp;have WX:=Q7.hp;have UQ:=Q7.hg;have htn:=Q7.ht;have XZ:=Q7.st s.toNat (by omega);have hsu:=Q7.sums (i:=s) s0 (by omega);have hs1:=Q7.sums (i:=s+1) (by omega) (by omega);have hfl:Qo.length=rf.Qa.length:=(by rw[ef];exact(Xa).trans (by omega))
   have h9:=Q7.hs;have hse:(Z5 rf.Qa t.Qp t.Qx (Qg t.Qi) s.toNat).sum<=2000000000:=(by omega)
   have hgi:=Q7.rg s.toNat (by omega);have hti:=Q7.rt s.toNat (by omega);have hbB:=oB WX hgi XZ.1 (by omega);have hdB:=(tA WX hbB).1;have hln:=hgi.1;have Xi:=hti.1;have sn1:=QJ (i:=s) (g:=Vd rf.Qa t.Qp t.Qx (Qg t.Qi)) s0;have sn2:=QJ (i:=s) (g:=ZI rf.Qa t.Qp t.Qx (Qg t.Qi)) s0;have sn3:=QJ (i:=s) (g:=Vc rf.Qa t.Qp t.Qx (Qg t.Qi)) s0;have T0:=ZX (g:=Za (t.Qx.getD s.toNat La) (cl rf.Qa (Vb (t.Qp.getD s.toNat La) rf.Qa (Z5 rf.Qa t.Qp t.Qx (Qg t.Qi) s.toNat)))) (K:=1000000) i.toNat (fun m m0 m1=>(fun h=>⟨h.1,h.2.2⟩) (YJ hti hdB m0 (by omega) WX.1));have hbs:ZI rf.Qa t.Qp t.Qx (Qg t.Qi) s=Xj 0 rf.Qa.length (Za (t.Qx.getD s.toNat La) (cl rf.Qa (Vb (t.Qp.getD s.toNat La) rf.Qa (Z5 rf.Qa t.Qp t.Qx (Qg t.Qi) s.toNat)))):=rfl;have hs9:=qO (n:=rf.Qa.length) (ps:=rf.Qa) (gs:=t.Qp) (ts:=t.Qx) (f:=(Qg t.Qi)) s0;have hnx:Ze rf.Qa.length (Z5 rf.Qa t.Qp t.Qx (Qg t.Qi) (s+1).toNat).at=Ze rf.Qa.length (Ez (t.Qx.getD s.toNat La) rf.Qa (cl rf.Qa (Vb (t.Qp.getD s.toNat La) rf.Qa (Z5 rf.Qa t.Qp t.Qx (Qg t.Qi) s.toNat)))).at:=(by rw[show(s+1).toNat=s.toNat+1 by omega];rfl)
   by_cases q0:(i:Int)<((↑t.Qi.length:Int))
   ·have Yp:rows.length=s.toNat:=(by rw[er];exact VM)
    rw[show((i.toNat:Nat):Int)=i by omega]at T0;have qn:i<(rf.Qa.length:Int):=(by omega)
    have htr:=hti.2 i i0 qn;simp only[nth]at htr;have hfi:(Qo.getD i.toNat La)=(cl rf.Qa (Vb (t.Qp.getD s.toNat La) rf.Qa (Z5 rf.Qa t.Qp t.Qx (Qg t.Qi) s.toNat))).at i:=(by rw[ef,Xc i0 qn];exact yR)
    have hat:=ZC hdB i0 (show i<4 by omega);have hta:=YJ hti hdB i0 qn WX.1;have hX:(if(t.Qx.getD s.toNat La).getD i.toNat La<(Qo.getD i.toNat La)then(t.Qx.getD s.toNat La).getD i.toNat La else(Qo.getD i.toNat La))=Za (t.Qx.getD s.toNat La) (cl rf.Qa (Vb (t.Qp.getD s.toNat La) rf.Qa (Z5 rf.Qa t.Qp t.Qx (Qg t.Qi) s.toNat))) i:=(by rw[hfi];rfl)
    have hsu2:=QJ (g:=Za (t.Qx.getD s.toNat La) (cl rf.Qa (Vb (t.Qp.getD s.toNat La) rf.Qa (Z5 rf.Qa t.Qp t.Qx (Qg t.Qi) s.toNat)))) i0;exact((ih0 _ (by omega)).2.2.2.2.2.2.2.2.2.2 (s) (i+1) (l0) (l1) (l2+if Ln (t.Qx.getD s.toNat La) i.toNat La<Qo.getD i.toNat La then Ln (t.Qx.getD s.toNat La) i.toNat La else Qo.getD i.toNat La) (l3) (LM Qo i.toNat (Qo.getD i.toNat La-if Ln (t.Qx.getD s.toNat La) i.toNat La<Qo.getD i.toNat La then Ln (t.Qx.getD s.toNat La) i.toNat La else Qo.getD i.toNat La)) (rows) (Q6) rfl ‹_› ‹_› (by omega) (by omega) ‹_› ‹_› (by omega) ‹_› (by(rw[hX,hfi,ef];exact E9 i0 qn rfl)) ‹_› ‹_› ‹_›
     (X0.lM (Fj B rf t s i l0 l1 l2 l3 Qo rows Q6 Ql)
     ⟨cS,⟨cP,⟨wI,⟨(by exact WQ (z:=1) (k:=Lb i) (fun _=>rfl) (by first|omega|(rw[LS];omega)|(rw[LN];omega)) rfl rfl),⟨⟨by omega,by omega⟩,⟨wI,⟨wI,⟨(by exact ZK (z:=1) (j:=0) (k:=Lb i) (fun _=>rfl) (by omega) rfl),⟨⟨by omega,by omega⟩,⟨(iX (lX 1)),⟨(iX (lX 1)),⟨(by exact ZK (z:=1) (j:=0) (k:=Lb i) (fun _=>rfl) (by omega) rfl),⟨⟨by omega,by omega⟩,⟨(Xs q0),trivial⟩⟩⟩⟩⟩⟩⟩⟩⟩⟩⟩⟩⟩⟩)).cR
   ·by_cases q1:(Ld t.Qi:Int)=(0)
    ·exfalso
     (omega)
    ·have Yp:rows.length=s.toNat:=(by rw[er];exact VM)
     rw[show((i.toNat:Nat):Int)=i by omega]at T0;have en:i=(rf.Qa.length:Int):=(by omega)
     have hsu2:=QJ (g:=Za (t.Qx.getD s.toNat La) (cl rf.Qa (Vb (t.Qp.getD s.toNat La) rf.Qa (Z5 rf.Qa t.Qp t.Qx (Qg t.Qi) s.toNat)))) i0;exact((ih0 _ (by omega)).2.2.1 (s+1) (l0) (l1) (l2) (l3) (Qo) (rows++[{n:=Ld t.Qi,l:=Qo}]) (Q6+1) rfl (by omega) (by omega) ‹_› ‹_› (by(rw[e2,sn2,hbs,en];done)) ‹_› (by(rw[ef,en,hnx];exact r8 (by omega))) (by(rw[hs9,er,hl,ef,en];exact congrArg (fun z=>_++[RW.mk _ z]) (r8 (by omega)))) (by(simp only[Ls,Lr,LD];omega)) (by(simp only[Ls,Lr,LD];omega))
      (X0.lM (Fi B rf t s i l0 l1 l2 l3 Qo rows Q6 Ql)
      (by exact⟨cS,⟨(by exact(Vz cP (by exact⟨(.own (LP _)),trivial⟩))),⟨(X2 (fun x=>List.all_eq_true.1 (by rfl))),⟨wI,⟨⟨(by(rw[QZ (z:=1) (fun _=>rfl)];first|omega|(simp;omega)|(simp_all;done))),(by unfold maxLen;omega),by omega,rfl⟩,⟨(aM (z:=0) (by':=8) rfl rfl rfl rfl rfl rfl rfl rfl (by kernel_rfl) rfl (by decide) ⟨by omega,(by unfold maxLen;omega),by omega,dA (z:=1) (fun _=>rfl) (fun x=>by first|rfl|(cases x <;> rfl)) (by omega)⟩),⟨(nL q0),trivial⟩⟩⟩⟩⟩⟩⟩))).cR
set_option maxHeartbeats 4000000 in
theorem Qaw(rf:Qc)(t:XA)(Q7:OkT rf.Qa rf.Qb t.Qp t.Qx (Qg t.Qi))(hl:t.Qi.length=rf.Qa.length)(hn:1<=rf.Qa.length/\rf.Qa.length<=4)(hs4:1<=rf.Qb/\rf.Qb<=4){B:Lo}(hJ:∀w,B.has w->J0 w):EndsT YP B (Qu YP 28 186 (([.agg (Q1 rf).toArray,.agg #[X7 t.Qi,Xo t.Qp.length (Qe XM t.Qp),Xo t.Qx.length (Qe XM t.Qx)]]).map (Q4 0 4))) (KP rf t):=by
 have WX:=Q7.hp;by_cases q0:(Ld t.Qi:Int)=(0)
 ·exfalso
  (omega)
 ·exact((MN rf t Q7 hl hn hs4 hJ _).1 (0) (0) rfl (by omega) (by omega) (by rfl)
   (GoE.start.lM (Fh B rf t)
   ⟨cS,⟨⟨by omega,(by unfold maxLen;omega),by omega,(by exact QZ (z:=1) (fun _=>rfl)),TU (fun _=>rfl) _⟩,trivial⟩⟩)).cR
theorem Qcp(rf:Qc)(t:XA)(Q7:OkT rf.Qa rf.Qb t.Qp t.Qx (Qg t.Qi))(hl:t.Qi.length=rf.Qa.length)(hn:1<=rf.Qa.length/\rf.Qa.length<=4)(hs4:1<=rf.Qb/\rf.Qb<=4):Qv YP J0 28 #[.agg (Q1 rf).toArray,.agg #[X7 t.Qi,Xo t.Qp.length (Qe XM t.Qp),Xo t.Qx.length (Qe XM t.Qx)]] (KP rf t):=
 Xd (ts:=[.agg (Q1 rf).toArray,.agg #[X7 t.Qi,Xo t.Qp.length (Qe XM t.Qp),Xo t.Qx.length (Qe XM t.Qx)]]) Zc (c0:=Qu YP 28 186 (([.agg (Q1 rf).toArray,.agg #[X7 t.Qi,Xo t.Qp.length (Qe XM t.Qp),Xo t.Qx.length (Qe XM t.Qx)]]).map (Q4 0 4))) (by kernel_rfl) (by kernel_rfl) fun B hJ=>Qaw rf t Q7 hl hn hs4 hJ
end
end Go.Proofs.Ytncjjangllkokaa

namespace Go.Proofs.Ytncjjangllkokaa
open Go Go.CE Go.RowKit
set_option maxRecDepth 100000
section
variable (B:Lo)(c0:CF)(xs:List Int)(ss:List Span)(i:Int)(Ql:Nat->Value)
end
section
variable (B:Lo)(c0:CF)(rf:Qc)(plan:List Int)(t:XA)(i:Int)(Ql:Nat->Value)
end
section
variable (x_:Qd)(B:Lo)(c0:CF)(rf:Qc)(plan:List Int)(t:XA)(s i:Int)(Ql:Nat->Value)
end
end Go.Proofs.Ytncjjangllkokaa

namespace Go.Proofs.Ytncjjangllkokaa
open Go Go.CE Go.RowKit
set_option maxRecDepth 100000
theorem Qa8{n:Nat}(h:n<=4):((XR n:Nat):Int)<=16:=by
 unfold XR;have:n=0\/n=1\/n=2\/n=3\/n=4:=by omega
 rcases this with rfl|rfl|rfl|rfl|rfl <;> decide
theorem Z1{rf:Qc}{plan:List Int}(hr:X4 rf=true)(hp:XJ rf plan=true)(j:Nat):0<=plan.getD j 0/\plan.getD j 0<=15:=by
 have h:=(Xz hp).2;have h4:=Qa8 (n:=rf.Qa.length) (by have:=Q2 (Qw hr).1;omega);by_cases hj:j<plan.length
 ·have e:plan.getD j 0=plan[j]:=by simp[Li,hj]
  have:=h plan[j] (List.getElem_mem hj);rw[e];omega
 ·rw[Li,LA (by omega)];exact⟨LH _,by decide⟩
theorem Hc{rf:Qc}(hr:X4 rf=true):Jy rf.Qa:=by
 have hs:=Q2 (Qw hr).1;refine⟨by omega,fun k h0 h1=> ?_⟩;have h:=(Qw hr).2 k h0 h1;have hp:=Zg h.1;exact⟨hp.2.1,hp.2.2.2.2.2.1,h.2.1,h.2.2⟩
theorem PY{ps:List Qd}{p k:Int}(h0:0<=k)(h:k<ps.length):(ZH ps p).getD k.toNat La=Ul p k (ps.getD k.toNat La):=Xc h0 h
theorem V1{ps:List Qd}{p:Int}:(ZH ps p).length=ps.length:=by rw[ZH,Xa];omega
theorem pH{rf:Qc}(hr:X4 rf=true){p k:Int}(h0:0<=k)(h:k<rf.Qa.length):0<=(Ul p k (rf.Qa.getD k.toNat La)).lo/\(Ul p k (rf.Qa.getD k.toNat La)).lo<=(Ul p k (rf.Qa.getD k.toNat La)).hi/\(Ul p k (rf.Qa.getD k.toNat La)).hi<=1000000:=by
 have hp:=Zg ((Qw hr).2 k h0 h).1;unfold Ul;split
 ·exact hp.2.2.2.2.2.2.2.1
 ·exact hp.2.2.2.2.2.2.1
abbrev Qb1(xs:List (List Int)):Value:=Xo xs.length (Qe XM xs)
section
variable (B:Lo)(rf:Qc)(plan:List Int)(t:XA)
end
end Go.Proofs.Ytncjjangllkokaa

namespace Go.Proofs.Ytncjjangllkokaa
open Go Go.CE Go.RowKit
def Qr(n:Int):Value:=.int .i64 n
def Xf(g:FuncId):Bool:=LI 3 g && (Ll g 116 && !([]:List Nat).any (Lf g))
theorem QB:∀g,Xf g=true->Q0 YP g=true:=by
 have h:(Le 116).all (fun g=> !(Xf g) || Q0 YP g)=true:=by decide+kernel
 intro g hg;have hg':=hg;simp only[Xf,YB]at hg;have h1:g<116:=YL hg.2.1;have:=List.all_eq_true.1 h g (List.mem_range.2 h1);rw[hg']at this;simpa using this
def Ug:Obj:=.cells #[Qr 1000,Qr 2000,Qr 200,Qr 300,Qr 100,Qr 1,Qr 200,Qr 300,Qr 0,Qr 50,Qr 900,Qr 10,Qr 500,Qr 800,Qr 100,Qr 200,Qr 0,Qr (-1),Qr 100,Qr 200,Qr 0,Qr 20,Qr 450,Qr 6] 54 (0,0)
def rq:Obj:=.cells #[.slice (some ⟨2104,0,none⟩) 2 12,Qr 200,Qr 2,Qr 1,Qr 1,Qr 0,Qr 0] 84 (0,0)
def cB2:Obj:=.cells #[Qr 1000,Qr 2000,Qr 200,Qr 300,Qr 100,Qr 1,Qr 200,Qr 300,Qr 0,Qr 50,Qr 900,Qr 10,Qr 500,Qr 800,Qr 100,Qr 200,Qr 0,Qr (-1),Qr 100,Qr 122,Qr 0,Qr 20,Qr 450,Qr 6] 54 (0,0)
def cB3:Obj:=.cells #[Qr 1000,Qr 2000,Qr 200,Qr 300,Qr 100,Qr 1,Qr 200,Qr 300,Qr 0,Qr 50,Qr 900,Qr 10,Qr 500,Qr 800,Qr 100,Qr 200,Qr 0,Qr (-1),Qr 100,Qr 183,Qr 0,Qr 20,Qr 450,Qr 6] 54 (0,0)
def cB4:Obj:=.cells #[Qr 1000,Qr 2000,Qr 200,Qr 300,Qr 100,Qr 1,Qr 200,Qr 300,Qr 0,Qr 50,Qr 900,Qr 10,Qr 500,Qr 800,Qr 100,Qr 200,Qr 0,Qr (-1),Qr 100,Qr 199,Qr 0,Qr 20,Qr 450,Qr 6] 54 (0,0)
def cB5:Obj:=.cells #[Qr 1000,Qr 2000,Qr 200,Qr 300,Qr 100,Qr 1,Qr 200,Qr 300,Qr 0,Qr 50,Qr 900,Qr 10,Qr 500,Qr 800,Qr 100,Qr 200,Qr 0,Qr (-1),Qr 100,Qr 191,Qr 0,Qr 20,Qr 450,Qr 6] 54 (0,0)
def cB6:Obj:=.cells #[Qr 1000,Qr 2000,Qr 200,Qr 300,Qr 100,Qr 1,Qr 200,Qr 300,Qr 0,Qr 50,Qr 900,Qr 10,Qr 500,Qr 800,Qr 100,Qr 200,Qr 0,Qr (-1),Qr 100,Qr 195,Qr 0,Qr 20,Qr 450,Qr 6] 54 (0,0)
def cB7:Obj:=.cells #[Qr 1000,Qr 2000,Qr 200,Qr 300,Qr 100,Qr 1,Qr 200,Qr 300,Qr 0,Qr 50,Qr 900,Qr 10,Qr 500,Qr 800,Qr 100,Qr 200,Qr 0,Qr (-1),Qr 100,Qr 197,Qr 0,Qr 20,Qr 450,Qr 6] 54 (0,0)
def cB8:Obj:=.cells #[Qr 1000,Qr 2000,Qr 200,Qr 300,Qr 100,Qr 1,Qr 200,Qr 300,Qr 0,Qr 50,Qr 900,Qr 10,Qr 500,Qr 800,Qr 100,Qr 200,Qr 0,Qr (-1),Qr 100,Qr 196,Qr 0,Qr 20,Qr 450,Qr 6] 54 (0,0)
end Go.Proofs.Ytncjjangllkokaa

namespace Go.Proofs.Ytncjjangllkokaa
open Go Go.CE Go.RowKit
def Af:Memo:=
 ⟨26,#[.agg #[.slice (some ⟨7,0,none⟩) 2 12,Qr 200,Qr 2],.slice (some ⟨8,0,none⟩) 2 1,.agg #[.slice (some ⟨9,0,none⟩) 2 1,.slice (some ⟨12,0,none⟩) 2 1,.slice (some ⟨15,0,none⟩) 2 1]],[(9,.cells #[Qr 1100,Qr 550] 3 (0,0)),(12,.cells #[.slice (some ⟨10,0,none⟩) 2 1,.slice (some ⟨11,0,none⟩) 2 1] 25 (0,0)),(10,.cells #[Qr 250,Qr 150] 3 (0,0)),(15,.cells #[.slice (some ⟨13,0,none⟩) 2 1,.slice (some ⟨14,0,none⟩) 2 1] 25 (0,0)),(13,.cells #[Qr 250,Qr 150] 3 (0,0)),(11,.cells #[Qr 200,Qr 100] 3 (0,0)),(14,.cells #[Qr 200,Qr 100] 3 (0,0)),(8,.cells #[Qr 0,Qr 0] 3 (0,0)),(7,Ug)],16,.tuple #[.slice (some ⟨107,0,none⟩) 2 1,.agg #[Qr 1650,Qr 615,Qr 700,Qr 0,Qr 1565],Qr 0],[(121,.cells #[Qr 867,Qr 698] 3 (0,0)),(114,.cells #[Qr 988,Qr 619] 3 (0,0)),(107,.cells #[.slice (some ⟨114,0,none⟩) 2 1,.slice (some ⟨121,0,none⟩) 2 1] 25 (0,0))],123⟩
theorem DU:QK Af (Af.run YP Xf Xn 100000)=true:=by decide+kernel
def sR:Memo:=
 ⟨18,#[.agg #[.slice (some ⟨131,0,none⟩) 2 12,Qr 200,Qr 2],.slice (some ⟨132,0,none⟩) 2 1],[(132,.cells #[Qr 0,Qr 0] 3 (0,0)),(131,Ug)],133,.tuple #[.slice (some ⟨191,0,none⟩) 2 1,Qr 0],[(375,.cells #[Qr 543,Qr 1209,Qr 410,Qr 856] 38 (0,0)),(283,.cells #[Qr 780,Qr 1204,Qr 470,Qr 776] 38 (0,0)),(191,.cells #[.slice (some ⟨283,0,none⟩) 2 2,.slice (some ⟨375,0,none⟩) 2 2] 36 (0,0))],376⟩
theorem Ag:QK sR (sR.run YP Xf Xn 100000)=true:=by decide+kernel
def sO:Memo:=
 ⟨88,#[.slice (some ⟨383,0,none⟩) 2 12,.agg #[Qr 1063,Qr 440,Qr 0,Qr 0]],[(383,Ug)],539,.tuple #[.agg #[Qr 1,Qr 10],.bool true],[],544⟩
theorem Ac:QK sO (sO.drun YP Xf Xn 100000)=true:=by decide+kernel
def sJ:Memo:=
 ⟨98,#[.agg #[.slice (some ⟨552,0,none⟩) 2 12,Qr 200,Qr 2,Qr 3,Qr 3,Qr 0,Qr 0],.agg #[Qr 1000,Qr 500,Qr 0,Qr 0],Qr 0,.func (.func 76) #[] #[],.func (.func 77) #[] #[]],[(552,Ug)],622,.agg #[Qr 1030,Qr 650,Qr 0,Qr 0],[],663⟩
theorem zX:QK sJ (sJ.run YP Xf Xn 100000)=true:=by decide+kernel
def sI:Memo:=
 ⟨98,#[.agg #[.slice (some ⟨552,0,none⟩) 2 12,Qr 200,Qr 2,Qr 3,Qr 3,Qr 0,Qr 0],.agg #[Qr 1030,Qr 650,Qr 0,Qr 0],Qr 1,.func (.func 76) #[] #[],.func (.func 77) #[] #[]],[(552,Ug)],666,.agg #[Qr 1063,Qr 818,Qr 0,Qr 0],[],707⟩
theorem zW:QK sI (sI.run YP Xf Xn 100000)=true:=by decide+kernel
def sN:Memo:=
 ⟨88,#[.slice (some ⟨552,0,none⟩) 2 12,.agg #[Qr 1063,Qr 818,Qr 0,Qr 0]],[(552,Ug)],707,.tuple #[.agg #[Qr 0,Qr 0],.bool false],[],712⟩
theorem Ab:QK sN (sN.drun YP Xf Xn 100000)=true:=by decide+kernel
def sH:Memo:=
 ⟨98,#[.agg #[.slice (some ⟨552,0,none⟩) 2 12,Qr 200,Qr 2,Qr 0,Qr 0,Qr 0,Qr 0],.agg #[Qr 1000,Qr 500,Qr 0,Qr 0],Qr 0,.func (.func 76) #[] #[],.func (.func 77) #[] #[]],[(552,Ug)],760,.agg #[Qr 780,Qr 470,Qr 0,Qr 0],[],801⟩
theorem zV:QK sH (sH.run YP Xf Xn 100000)=true:=by decide+kernel
def sG:Memo:=
 ⟨98,#[.agg #[.slice (some ⟨552,0,none⟩) 2 12,Qr 200,Qr 2,Qr 0,Qr 0,Qr 0,Qr 0],.agg #[Qr 780,Qr 470,Qr 0,Qr 0],Qr 1,.func (.func 76) #[] #[],.func (.func 77) #[] #[]],[(552,Ug)],804,.agg #[Qr 543,Qr 410,Qr 0,Qr 0],[],845⟩
theorem zU:QK sG (sG.run YP Xf Xn 100000)=true:=by decide+kernel
def sM:Memo:=
 ⟨88,#[.slice (some ⟨552,0,none⟩) 2 12,.agg #[Qr 543,Qr 410,Qr 0,Qr 0]],[(552,Ug)],845,.tuple #[.agg #[Qr 0,Qr 357],.bool true],[],849⟩
theorem Aa:QK sM (sM.drun YP Xf Xn 100000)=true:=by decide+kernel
def sF:Memo:=
 ⟨98,#[.agg #[.slice (some ⟨552,0,none⟩) 2 12,Qr 200,Qr 2,Qr 0,Qr 1,Qr 0,Qr 0],.agg #[Qr 780,Qr 470,Qr 0,Qr 0],Qr 1,.func (.func 76) #[] #[],.func (.func 77) #[] #[]],[(552,Ug)],876,.agg #[Qr 793,Qr 410,Qr 0,Qr 0],[],917⟩
theorem zT:QK sF (sF.run YP Xf Xn 100000)=true:=by decide+kernel
def sL:Memo:=
 ⟨88,#[.slice (some ⟨552,0,none⟩) 2 12,.agg #[Qr 793,Qr 410,Qr 0,Qr 0]],[(552,Ug)],917,.tuple #[.agg #[Qr 0,Qr 107],.bool true],[],921⟩
theorem zZ:QK sL (sL.drun YP Xf Xn 100000)=true:=by decide+kernel
def sE:Memo:=
 ⟨98,#[.agg #[.slice (some ⟨552,0,none⟩) 2 12,Qr 200,Qr 2,Qr 0,Qr 2,Qr 0,Qr 0],.agg #[Qr 780,Qr 470,Qr 0,Qr 0],Qr 1,.func (.func 76) #[] #[],.func (.func 77) #[] #[]],[(552,Ug)],948,.agg #[Qr 543,Qr 590,Qr 0,Qr 0],[],989⟩
theorem zS:QK sE (sE.run YP Xf Xn 100000)=true:=by decide+kernel
def sK:Memo:=
 ⟨88,#[.slice (some ⟨552,0,none⟩) 2 12,.agg #[Qr 543,Qr 590,Qr 0,Qr 0]],[(552,Ug)],989,.tuple #[.agg #[Qr 0,Qr 357],.bool true],[],993⟩
theorem zY:QK sK (sK.drun YP Xf Xn 100000)=true:=by decide+kernel
def nj:Memo:=
 ⟨98,#[.agg #[.slice (some ⟨552,0,none⟩) 2 12,Qr 200,Qr 2,Qr 0,Qr 3,Qr 0,Qr 0],.agg #[Qr 780,Qr 470,Qr 0,Qr 0],Qr 1,.func (.func 76) #[] #[],.func (.func 77) #[] #[]],[(552,Ug)],1020,.agg #[Qr 793,Qr 590,Qr 0,Qr 0],[],1061⟩
theorem wJ:QK nj (nj.run YP Xf Xn 100000)=true:=by decide+kernel
end Go.Proofs.Ytncjjangllkokaa

namespace Go.Proofs.Ytncjjangllkokaa
open Go Go.CE Go.RowKit
noncomputable def jb:Vh:=XN [sO]
theorem mO(B:Lo):W4 YP B jb:=QW QB Q5 (QF _ _) Ac (XX _ _)
def sQ:Memo:=
 ⟨35,#[.agg #[.slice (some ⟨383,0,none⟩) 2 12,Qr 200,Qr 2],.slice (some ⟨384,0,none⟩) 2 1],[(384,.cells #[Qr 1,Qr 1] 3 (0,0)),(383,Ug)],385,.tuple #[Qr 1,Qr 10,Qr 0],[],545⟩
theorem Ae:QK sQ (sQ.run YP Xf jb 100000)=true:=by decide+kernel
end Go.Proofs.Ytncjjangllkokaa

namespace Go.Proofs.Ytncjjangllkokaa
open Go Go.CE Go.RowKit
def ou:Memo:=
 ⟨88,#[.slice (some ⟨552,0,none⟩) 2 12,.agg #[Qr 793,Qr 590,Qr 0,Qr 0]],[(552,Ug)],1061,.tuple #[.agg #[Qr 0,Qr 107],.bool true],[],1065⟩
theorem xM:QK ou (ou.drun YP Xf Xn 100000)=true:=by decide+kernel
def ni:Memo:=
 ⟨98,#[.agg #[.slice (some ⟨552,0,none⟩) 2 12,Qr 200,Qr 2,Qr 1,Qr 0,Qr 0,Qr 0],.agg #[Qr 1000,Qr 500,Qr 0,Qr 0],Qr 0,.func (.func 76) #[] #[],.func (.func 77) #[] #[]],[(552,Ug)],1112,.agg #[Qr 1030,Qr 470,Qr 0,Qr 0],[],1153⟩
theorem wH:QK ni (ni.run YP Xf Xn 100000)=true:=by decide+kernel
def nh:Memo:=
 ⟨98,#[.agg #[.slice (some ⟨552,0,none⟩) 2 12,Qr 200,Qr 2,Qr 1,Qr 0,Qr 0,Qr 0],.agg #[Qr 1030,Qr 470,Qr 0,Qr 0],Qr 1,.func (.func 76) #[] #[],.func (.func 77) #[] #[]],[(552,Ug)],1156,.agg #[Qr 813,Qr 440,Qr 0,Qr 0],[],1197⟩
theorem wG:QK nh (nh.run YP Xf Xn 100000)=true:=by decide+kernel
def ot:Memo:=
 ⟨88,#[.slice (some ⟨552,0,none⟩) 2 12,.agg #[Qr 813,Qr 440,Qr 0,Qr 0]],[(552,Ug)],1197,.tuple #[.agg #[Qr 0,Qr 87],.bool true],[],1201⟩
theorem xL:QK ot (ot.drun YP Xf Xn 100000)=true:=by decide+kernel
def ng:Memo:=
 ⟨98,#[.agg #[.slice (some ⟨552,0,none⟩) 2 12,Qr 200,Qr 2,Qr 1,Qr 1,Qr 0,Qr 0],.agg #[Qr 1030,Qr 470,Qr 0,Qr 0],Qr 1,.func (.func 76) #[] #[],.func (.func 77) #[] #[]],[(552,Ug)],1228,.agg #[Qr 1063,Qr 440,Qr 0,Qr 0],[],1269⟩
theorem wF:QK ng (ng.run YP Xf Xn 100000)=true:=by decide+kernel
def oo:Memo:=
 ⟨88,#[.slice (some ⟨552,0,none⟩) 2 12,.agg #[Qr 1063,Qr 440,Qr 0,Qr 0]],[(552,Ug)],1269,.tuple #[.agg #[Qr 1,Qr 10],.bool true],[],1274⟩
theorem xK:QK oo (oo.drun YP Xf Xn 100000)=true:=by decide+kernel
def nf:Memo:=
 ⟨98,#[.agg #[.slice (some ⟨552,0,none⟩) 2 12,Qr 200,Qr 2,Qr 1,Qr 2,Qr 0,Qr 0],.agg #[Qr 1030,Qr 470,Qr 0,Qr 0],Qr 1,.func (.func 76) #[] #[],.func (.func 77) #[] #[]],[(552,Ug)],1301,.agg #[Qr 813,Qr 620,Qr 0,Qr 0],[],1342⟩
theorem wE:QK nf (nf.run YP Xf Xn 100000)=true:=by decide+kernel
def om:Memo:=
 ⟨88,#[.slice (some ⟨552,0,none⟩) 2 12,.agg #[Qr 813,Qr 620,Qr 0,Qr 0]],[(552,Ug)],1342,.tuple #[.agg #[Qr 0,Qr 87],.bool true],[],1346⟩
theorem xJ:QK om (om.drun YP Xf Xn 100000)=true:=by decide+kernel
def nc:Memo:=
 ⟨98,#[.agg #[.slice (some ⟨552,0,none⟩) 2 12,Qr 200,Qr 2,Qr 1,Qr 3,Qr 0,Qr 0],.agg #[Qr 1030,Qr 470,Qr 0,Qr 0],Qr 1,.func (.func 76) #[] #[],.func (.func 77) #[] #[]],[(552,Ug)],1373,.agg #[Qr 1063,Qr 620,Qr 0,Qr 0],[],1414⟩
theorem wD:QK nc (nc.run YP Xf Xn 100000)=true:=by decide+kernel
def oh:Memo:=
 ⟨88,#[.slice (some ⟨552,0,none⟩) 2 12,.agg #[Qr 1063,Qr 620,Qr 0,Qr 0]],[(552,Ug)],1414,.tuple #[.agg #[Qr 0,Qr 0],.bool false],[],1419⟩
theorem xI:QK oh (oh.drun YP Xf Xn 100000)=true:=by decide+kernel
def nb:Memo:=
 ⟨98,#[.agg #[.slice (some ⟨552,0,none⟩) 2 12,Qr 200,Qr 2,Qr 2,Qr 0,Qr 0,Qr 0],.agg #[Qr 1000,Qr 500,Qr 0,Qr 0],Qr 0,.func (.func 76) #[] #[],.func (.func 77) #[] #[]],[(552,Ug)],1486,.agg #[Qr 780,Qr 650,Qr 0,Qr 0],[],1527⟩
theorem wC:QK nb (nb.run YP Xf Xn 100000)=true:=by decide+kernel
def na:Memo:=
 ⟨98,#[.agg #[.slice (some ⟨552,0,none⟩) 2 12,Qr 200,Qr 2,Qr 2,Qr 0,Qr 0,Qr 0],.agg #[Qr 780,Qr 650,Qr 0,Qr 0],Qr 1,.func (.func 76) #[] #[],.func (.func 77) #[] #[]],[(552,Ug)],1530,.agg #[Qr 543,Qr 608,Qr 0,Qr 0],[],1571⟩
theorem wB:QK na (na.run YP Xf Xn 100000)=true:=by decide+kernel
def og:Memo:=
 ⟨88,#[.slice (some ⟨552,0,none⟩) 2 12,.agg #[Qr 543,Qr 608,Qr 0,Qr 0]],[(552,Ug)],1571,.tuple #[.agg #[Qr 0,Qr 357],.bool true],[],1575⟩
theorem xH:QK og (og.drun YP Xf Xn 100000)=true:=by decide+kernel
def mZ:Memo:=
 ⟨98,#[.agg #[.slice (some ⟨552,0,none⟩) 2 12,Qr 200,Qr 2,Qr 2,Qr 1,Qr 0,Qr 0],.agg #[Qr 780,Qr 650,Qr 0,Qr 0],Qr 1,.func (.func 76) #[] #[],.func (.func 77) #[] #[]],[(552,Ug)],1622,.agg #[Qr 793,Qr 608,Qr 0,Qr 0],[],1663⟩
theorem wA:QK mZ (mZ.run YP Xf Xn 100000)=true:=by decide+kernel
end Go.Proofs.Ytncjjangllkokaa
