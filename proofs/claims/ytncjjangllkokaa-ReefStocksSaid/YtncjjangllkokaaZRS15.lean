/- layer 03: calls within known() -/
import Derived.Test.YtncjjangllkokaaZRS14
import Derived.Test.YtncjjangllkokaaZRS10
set_option linter.all false
open Array renaming eq_empty_of_size_eq_zero->LO,size->LA,extract->Lj
open List renaming getD_eq_getElem?_getD->Ly,set->LC,replicate->Lz,length->Ld,length_set->LJ,length_replicate->Lv,getD->Le,range->Ll,getElem?_eq_none->LG,mem_cons_of_mem->Lt,flatMap_cons->LU,length_append->Lh,map_append->LZ
open Int renaming toNat->Lb,tdiv_eq_ediv_of_nonneg->LP,le_refl->LS,tdiv->Lc
open Nat renaming strongRecOn->LB,min->LW,lt_of_lt_of_eq->Ls
open List.Mem renaming head->Lg
open Inhabited renaming default->La
namespace Go.Proofs.Ytncjjangllkokaa
open Go Go.CE Go.RowKit
def An:Memo:=
 ⟨26,#[.agg #[.slice (some ⟨7,0,none⟩) 2 12,Qy 200,Qy 2],.slice (some ⟨8,0,none⟩) 2 1,.agg #[.slice (some ⟨9,0,none⟩) 2 1,.slice (some ⟨12,0,none⟩) 2 1,.slice (some ⟨15,0,none⟩) 2 1]],[(9,.cells #[Qy 1100,Qy 550] 3 (0,0)),(12,.cells #[.slice (some ⟨10,0,none⟩) 2 1,.slice (some ⟨11,0,none⟩) 2 1] 25 (0,0)),(10,.cells #[Qy 250,Qy 150] 3 (0,0)),(15,.cells #[.slice (some ⟨13,0,none⟩) 2 1,.slice (some ⟨14,0,none⟩) 2 1] 25 (0,0)),(13,.cells #[Qy 250,Qy 150] 3 (0,0)),(11,.cells #[Qy 200,Qy 100] 3 (0,0)),(14,.cells #[Qy 200,Qy 100] 3 (0,0)),(8,.cells #[Qy 0,Qy 0] 3 (0,0)),(7,Ua)],16,.tuple #[.slice (some ⟨107,0,none⟩) 2 1,.agg #[Qy 1650,Qy 615,Qy 700,Qy 0,Qy 1565],Qy 0],[(121,.cells #[Qy 867,Qy 698] 3 (0,0)),(114,.cells #[Qy 988,Qy 619] 3 (0,0)),(107,.cells #[.slice (some ⟨114,0,none⟩) 2 1,.slice (some ⟨121,0,none⟩) 2 1] 25 (0,0))],123⟩
theorem DE:QR An (An.run YP Xn X1 100000)=true:=by decide+kernel
def rV:Memo:=
 ⟨18,#[.agg #[.slice (some ⟨131,0,none⟩) 2 12,Qy 200,Qy 2],.slice (some ⟨132,0,none⟩) 2 1],[(132,.cells #[Qy 0,Qy 0] 3 (0,0)),(131,Ua)],133,.tuple #[.slice (some ⟨191,0,none⟩) 2 1,Qy 0],[(375,.cells #[Qy 543,Qy 1209,Qy 410,Qy 856] 38 (0,0)),(283,.cells #[Qy 780,Qy 1204,Qy 470,Qy 776] 38 (0,0)),(191,.cells #[.slice (some ⟨283,0,none⟩) 2 2,.slice (some ⟨375,0,none⟩) 2 2] 36 (0,0))],376⟩
theorem Ao:QR rV (rV.run YP Xn X1 100000)=true:=by decide+kernel
def rS:Memo:=
 ⟨88,#[.slice (some ⟨383,0,none⟩) 2 12,.agg #[Qy 1063,Qy 440,Qy 0,Qy 0]],[(383,Ua)],539,.tuple #[.agg #[Qy 1,Qy 10],.bool true],[],544⟩
theorem Ak:QR rS (rS.drun YP Xn X1 100000)=true:=by decide+kernel
def rN:Memo:=
 ⟨98,#[.agg #[.slice (some ⟨552,0,none⟩) 2 12,Qy 200,Qy 2,Qy 3,Qy 3,Qy 0,Qy 0],.agg #[Qy 1000,Qy 500,Qy 0,Qy 0],Qy 0,.func (.func 76) #[] #[],.func (.func 77) #[] #[]],[(552,Ua)],622,.agg #[Qy 1030,Qy 650,Qy 0,Qy 0],[],663⟩
theorem Af:QR rN (rN.run YP Xn X1 100000)=true:=by decide+kernel
def rM:Memo:=
 ⟨98,#[.agg #[.slice (some ⟨552,0,none⟩) 2 12,Qy 200,Qy 2,Qy 3,Qy 3,Qy 0,Qy 0],.agg #[Qy 1030,Qy 650,Qy 0,Qy 0],Qy 1,.func (.func 76) #[] #[],.func (.func 77) #[] #[]],[(552,Ua)],666,.agg #[Qy 1063,Qy 818,Qy 0,Qy 0],[],707⟩
theorem Ae:QR rM (rM.run YP Xn X1 100000)=true:=by decide+kernel
def rR:Memo:=
 ⟨88,#[.slice (some ⟨552,0,none⟩) 2 12,.agg #[Qy 1063,Qy 818,Qy 0,Qy 0]],[(552,Ua)],707,.tuple #[.agg #[Qy 0,Qy 0],.bool false],[],712⟩
theorem Aj:QR rR (rR.drun YP Xn X1 100000)=true:=by decide+kernel
def rL:Memo:=
 ⟨98,#[.agg #[.slice (some ⟨552,0,none⟩) 2 12,Qy 200,Qy 2,Qy 0,Qy 0,Qy 0,Qy 0],.agg #[Qy 1000,Qy 500,Qy 0,Qy 0],Qy 0,.func (.func 76) #[] #[],.func (.func 77) #[] #[]],[(552,Ua)],760,.agg #[Qy 780,Qy 470,Qy 0,Qy 0],[],801⟩
theorem Ad:QR rL (rL.run YP Xn X1 100000)=true:=by decide+kernel
def rK:Memo:=
 ⟨98,#[.agg #[.slice (some ⟨552,0,none⟩) 2 12,Qy 200,Qy 2,Qy 0,Qy 0,Qy 0,Qy 0],.agg #[Qy 780,Qy 470,Qy 0,Qy 0],Qy 1,.func (.func 76) #[] #[],.func (.func 77) #[] #[]],[(552,Ua)],804,.agg #[Qy 543,Qy 410,Qy 0,Qy 0],[],845⟩
theorem Ac:QR rK (rK.run YP Xn X1 100000)=true:=by decide+kernel
def rQ:Memo:=
 ⟨88,#[.slice (some ⟨552,0,none⟩) 2 12,.agg #[Qy 543,Qy 410,Qy 0,Qy 0]],[(552,Ua)],845,.tuple #[.agg #[Qy 0,Qy 357],.bool true],[],849⟩
theorem Ai:QR rQ (rQ.drun YP Xn X1 100000)=true:=by decide+kernel
def rJ:Memo:=
 ⟨98,#[.agg #[.slice (some ⟨552,0,none⟩) 2 12,Qy 200,Qy 2,Qy 0,Qy 1,Qy 0,Qy 0],.agg #[Qy 780,Qy 470,Qy 0,Qy 0],Qy 1,.func (.func 76) #[] #[],.func (.func 77) #[] #[]],[(552,Ua)],876,.agg #[Qy 793,Qy 410,Qy 0,Qy 0],[],917⟩
theorem Ab:QR rJ (rJ.run YP Xn X1 100000)=true:=by decide+kernel
def rP:Memo:=
 ⟨88,#[.slice (some ⟨552,0,none⟩) 2 12,.agg #[Qy 793,Qy 410,Qy 0,Qy 0]],[(552,Ua)],917,.tuple #[.agg #[Qy 0,Qy 107],.bool true],[],921⟩
theorem Ah:QR rP (rP.drun YP Xn X1 100000)=true:=by decide+kernel
def rI:Memo:=
 ⟨98,#[.agg #[.slice (some ⟨552,0,none⟩) 2 12,Qy 200,Qy 2,Qy 0,Qy 2,Qy 0,Qy 0],.agg #[Qy 780,Qy 470,Qy 0,Qy 0],Qy 1,.func (.func 76) #[] #[],.func (.func 77) #[] #[]],[(552,Ua)],948,.agg #[Qy 543,Qy 590,Qy 0,Qy 0],[],989⟩
theorem Aa:QR rI (rI.run YP Xn X1 100000)=true:=by decide+kernel
def rO:Memo:=
 ⟨88,#[.slice (some ⟨552,0,none⟩) 2 12,.agg #[Qy 543,Qy 590,Qy 0,Qy 0]],[(552,Ua)],989,.tuple #[.agg #[Qy 0,Qy 357],.bool true],[],993⟩
theorem Ag:QR rO (rO.drun YP Xn X1 100000)=true:=by decide+kernel
def mQ:Memo:=
 ⟨98,#[.agg #[.slice (some ⟨552,0,none⟩) 2 12,Qy 200,Qy 2,Qy 0,Qy 3,Qy 0,Qy 0],.agg #[Qy 780,Qy 470,Qy 0,Qy 0],Qy 1,.func (.func 76) #[] #[],.func (.func 77) #[] #[]],[(552,Ua)],1020,.agg #[Qy 793,Qy 590,Qy 0,Qy 0],[],1061⟩
theorem w6:QR mQ (mQ.run YP Xn X1 100000)=true:=by decide+kernel
end Go.Proofs.Ytncjjangllkokaa

namespace Go.Proofs.Ytncjjangllkokaa
open Go Go.CE Go.RowKit
noncomputable def iK:WW:=XS [rS]
theorem m5(B:Lo):Ws YP B iK:=QY QF Qf (QJ _ _) Ak (Zf _ _)
def rU:Memo:=
 ⟨35,#[.agg #[.slice (some ⟨383,0,none⟩) 2 12,Qy 200,Qy 2],.slice (some ⟨384,0,none⟩) 2 1],[(384,.cells #[Qy 1,Qy 1] 3 (0,0)),(383,Ua)],385,.tuple #[Qy 1,Qy 10,Qy 0],[],545⟩
theorem Am:QR rU (rU.run YP Xn iK 100000)=true:=by decide+kernel
end Go.Proofs.Ytncjjangllkokaa

namespace Go.Proofs.Ytncjjangllkokaa
open Go Go.CE Go.RowKit
def nP:Memo:=
 ⟨88,#[.slice (some ⟨552,0,none⟩) 2 12,.agg #[Qy 793,Qy 590,Qy 0,Qy 0]],[(552,Ua)],1061,.tuple #[.agg #[Qy 0,Qy 107],.bool true],[],1065⟩
theorem xy:QR nP (nP.drun YP Xn X1 100000)=true:=by decide+kernel
def mP:Memo:=
 ⟨98,#[.agg #[.slice (some ⟨552,0,none⟩) 2 12,Qy 200,Qy 2,Qy 1,Qy 0,Qy 0,Qy 0],.agg #[Qy 1000,Qy 500,Qy 0,Qy 0],Qy 0,.func (.func 76) #[] #[],.func (.func 77) #[] #[]],[(552,Ua)],1112,.agg #[Qy 1030,Qy 470,Qy 0,Qy 0],[],1153⟩
theorem w5:QR mP (mP.run YP Xn X1 100000)=true:=by decide+kernel
def mO:Memo:=
 ⟨98,#[.agg #[.slice (some ⟨552,0,none⟩) 2 12,Qy 200,Qy 2,Qy 1,Qy 0,Qy 0,Qy 0],.agg #[Qy 1030,Qy 470,Qy 0,Qy 0],Qy 1,.func (.func 76) #[] #[],.func (.func 77) #[] #[]],[(552,Ua)],1156,.agg #[Qy 813,Qy 440,Qy 0,Qy 0],[],1197⟩
theorem wz:QR mO (mO.run YP Xn X1 100000)=true:=by decide+kernel
def nO:Memo:=
 ⟨88,#[.slice (some ⟨552,0,none⟩) 2 12,.agg #[Qy 813,Qy 440,Qy 0,Qy 0]],[(552,Ua)],1197,.tuple #[.agg #[Qy 0,Qy 87],.bool true],[],1201⟩
theorem xx:QR nO (nO.drun YP Xn X1 100000)=true:=by decide+kernel
def mN:Memo:=
 ⟨98,#[.agg #[.slice (some ⟨552,0,none⟩) 2 12,Qy 200,Qy 2,Qy 1,Qy 1,Qy 0,Qy 0],.agg #[Qy 1030,Qy 470,Qy 0,Qy 0],Qy 1,.func (.func 76) #[] #[],.func (.func 77) #[] #[]],[(552,Ua)],1228,.agg #[Qy 1063,Qy 440,Qy 0,Qy 0],[],1269⟩
theorem wy:QR mN (mN.run YP Xn X1 100000)=true:=by decide+kernel
def nN:Memo:=
 ⟨88,#[.slice (some ⟨552,0,none⟩) 2 12,.agg #[Qy 1063,Qy 440,Qy 0,Qy 0]],[(552,Ua)],1269,.tuple #[.agg #[Qy 1,Qy 10],.bool true],[],1274⟩
theorem xw:QR nN (nN.drun YP Xn X1 100000)=true:=by decide+kernel
def mM:Memo:=
 ⟨98,#[.agg #[.slice (some ⟨552,0,none⟩) 2 12,Qy 200,Qy 2,Qy 1,Qy 2,Qy 0,Qy 0],.agg #[Qy 1030,Qy 470,Qy 0,Qy 0],Qy 1,.func (.func 76) #[] #[],.func (.func 77) #[] #[]],[(552,Ua)],1301,.agg #[Qy 813,Qy 620,Qy 0,Qy 0],[],1342⟩
theorem wx:QR mM (mM.run YP Xn X1 100000)=true:=by decide+kernel
def nM:Memo:=
 ⟨88,#[.slice (some ⟨552,0,none⟩) 2 12,.agg #[Qy 813,Qy 620,Qy 0,Qy 0]],[(552,Ua)],1342,.tuple #[.agg #[Qy 0,Qy 87],.bool true],[],1346⟩
theorem xu:QR nM (nM.drun YP Xn X1 100000)=true:=by decide+kernel
def mL:Memo:=
 ⟨98,#[.agg #[.slice (some ⟨552,0,none⟩) 2 12,Qy 200,Qy 2,Qy 1,Qy 3,Qy 0,Qy 0],.agg #[Qy 1030,Qy 470,Qy 0,Qy 0],Qy 1,.func (.func 76) #[] #[],.func (.func 77) #[] #[]],[(552,Ua)],1373,.agg #[Qy 1063,Qy 620,Qy 0,Qy 0],[],1414⟩
theorem wv:QR mL (mL.run YP Xn X1 100000)=true:=by decide+kernel
def nL:Memo:=
 ⟨88,#[.slice (some ⟨552,0,none⟩) 2 12,.agg #[Qy 1063,Qy 620,Qy 0,Qy 0]],[(552,Ua)],1414,.tuple #[.agg #[Qy 0,Qy 0],.bool false],[],1419⟩
theorem xt:QR nL (nL.drun YP Xn X1 100000)=true:=by decide+kernel
def mK:Memo:=
 ⟨98,#[.agg #[.slice (some ⟨552,0,none⟩) 2 12,Qy 200,Qy 2,Qy 2,Qy 0,Qy 0,Qy 0],.agg #[Qy 1000,Qy 500,Qy 0,Qy 0],Qy 0,.func (.func 76) #[] #[],.func (.func 77) #[] #[]],[(552,Ua)],1486,.agg #[Qy 780,Qy 650,Qy 0,Qy 0],[],1527⟩
theorem wu:QR mK (mK.run YP Xn X1 100000)=true:=by decide+kernel
def mJ:Memo:=
 ⟨98,#[.agg #[.slice (some ⟨552,0,none⟩) 2 12,Qy 200,Qy 2,Qy 2,Qy 0,Qy 0,Qy 0],.agg #[Qy 780,Qy 650,Qy 0,Qy 0],Qy 1,.func (.func 76) #[] #[],.func (.func 77) #[] #[]],[(552,Ua)],1530,.agg #[Qy 543,Qy 608,Qy 0,Qy 0],[],1571⟩
theorem wo:QR mJ (mJ.run YP Xn X1 100000)=true:=by decide+kernel
def nK:Memo:=
 ⟨88,#[.slice (some ⟨552,0,none⟩) 2 12,.agg #[Qy 543,Qy 608,Qy 0,Qy 0]],[(552,Ua)],1571,.tuple #[.agg #[Qy 0,Qy 357],.bool true],[],1575⟩
theorem xq:QR nK (nK.drun YP Xn X1 100000)=true:=by decide+kernel
def mI:Memo:=
 ⟨98,#[.agg #[.slice (some ⟨552,0,none⟩) 2 12,Qy 200,Qy 2,Qy 2,Qy 1,Qy 0,Qy 0],.agg #[Qy 780,Qy 650,Qy 0,Qy 0],Qy 1,.func (.func 76) #[] #[],.func (.func 77) #[] #[]],[(552,Ua)],1622,.agg #[Qy 793,Qy 608,Qy 0,Qy 0],[],1663⟩
theorem wm:QR mI (mI.run YP Xn X1 100000)=true:=by decide+kernel
end Go.Proofs.Ytncjjangllkokaa

namespace Go.Proofs.Ytncjjangllkokaa
open Go Go.CE Go.RowKit
def nJ:Memo:=
 ⟨88,#[.slice (some ⟨552,0,none⟩) 2 12,.agg #[Qy 793,Qy 608,Qy 0,Qy 0]],[(552,Ua)],1663,.tuple #[.agg #[Qy 0,Qy 107],.bool true],[],1667⟩
theorem xp:QR nJ (nJ.drun YP Xn X1 100000)=true:=by decide+kernel
def mH:Memo:=
 ⟨98,#[.agg #[.slice (some ⟨552,0,none⟩) 2 12,Qy 200,Qy 2,Qy 2,Qy 2,Qy 0,Qy 0],.agg #[Qy 780,Qy 650,Qy 0,Qy 0],Qy 1,.func (.func 76) #[] #[],.func (.func 77) #[] #[]],[(552,Ua)],1714,.agg #[Qy 543,Qy 788,Qy 0,Qy 0],[],1755⟩
theorem wk:QR mH (mH.run YP Xn X1 100000)=true:=by decide+kernel
def nI:Memo:=
 ⟨88,#[.slice (some ⟨552,0,none⟩) 2 12,.agg #[Qy 543,Qy 788,Qy 0,Qy 0]],[(552,Ua)],1755,.tuple #[.agg #[Qy 0,Qy 357],.bool true],[],1759⟩
theorem xo:QR nI (nI.drun YP Xn X1 100000)=true:=by decide+kernel
def mG:Memo:=
 ⟨98,#[.agg #[.slice (some ⟨552,0,none⟩) 2 12,Qy 200,Qy 2,Qy 2,Qy 3,Qy 0,Qy 0],.agg #[Qy 780,Qy 650,Qy 0,Qy 0],Qy 1,.func (.func 76) #[] #[],.func (.func 77) #[] #[]],[(552,Ua)],1806,.agg #[Qy 793,Qy 788,Qy 0,Qy 0],[],1847⟩
theorem wj:QR mG (mG.run YP Xn X1 100000)=true:=by decide+kernel
def nH:Memo:=
 ⟨88,#[.slice (some ⟨552,0,none⟩) 2 12,.agg #[Qy 793,Qy 788,Qy 0,Qy 0]],[(552,Ua)],1847,.tuple #[.agg #[Qy 0,Qy 107],.bool true],[],1851⟩
theorem xn:QR nH (nH.drun YP Xn X1 100000)=true:=by decide+kernel
def mF:Memo:=
 ⟨98,#[.agg #[.slice (some ⟨552,0,none⟩) 2 12,Qy 200,Qy 2,Qy 3,Qy 0,Qy 0,Qy 0],.agg #[Qy 1030,Qy 650,Qy 0,Qy 0],Qy 1,.func (.func 76) #[] #[],.func (.func 77) #[] #[]],[(552,Ua)],1898,.agg #[Qy 813,Qy 638,Qy 0,Qy 0],[],1939⟩
theorem wi:QR mF (mF.run YP Xn X1 100000)=true:=by decide+kernel
def nG:Memo:=
 ⟨88,#[.slice (some ⟨552,0,none⟩) 2 12,.agg #[Qy 813,Qy 638,Qy 0,Qy 0]],[(552,Ua)],1939,.tuple #[.agg #[Qy 0,Qy 87],.bool true],[],1943⟩
theorem xm:QR nG (nG.drun YP Xn X1 100000)=true:=by decide+kernel
def mE:Memo:=
 ⟨98,#[.agg #[.slice (some ⟨552,0,none⟩) 2 12,Qy 200,Qy 2,Qy 3,Qy 2,Qy 0,Qy 0],.agg #[Qy 1030,Qy 650,Qy 0,Qy 0],Qy 1,.func (.func 76) #[] #[],.func (.func 77) #[] #[]],[(552,Ua)],2014,.agg #[Qy 813,Qy 818,Qy 0,Qy 0],[],2055⟩
theorem wh:QR mE (mE.run YP Xn X1 100000)=true:=by decide+kernel
def nF:Memo:=
 ⟨88,#[.slice (some ⟨552,0,none⟩) 2 12,.agg #[Qy 813,Qy 818,Qy 0,Qy 0]],[(552,Ua)],2055,.tuple #[.agg #[Qy 0,Qy 87],.bool true],[],2059⟩
theorem xl:QR nF (nF.drun YP Xn X1 100000)=true:=by decide+kernel
def nE:Memo:=
 ⟨88,#[.slice (some ⟨2134,0,none⟩) 2 12,.agg #[Qy 1063,Qy 440,Qy 0,Qy 0]],[(2134,Ua)],2266,.tuple #[.agg #[Qy 1,Qy 10],.bool true],[],2271⟩
theorem xk:QR nE (nE.drun YP Xn X1 100000)=true:=by decide+kernel
def nD:Memo:=
 ⟨88,#[.slice (some ⟨2274,0,none⟩) 2 12,.agg #[Qy 1063,Qy 440,Qy 0,Qy 0]],[(2274,Ua)],2406,.tuple #[.agg #[Qy 1,Qy 10],.bool true],[],2411⟩
theorem xj:QR nD (nD.drun YP Xn X1 100000)=true:=by decide+kernel
def nC:Memo:=
 ⟨88,#[.slice (some ⟨2414,0,none⟩) 2 12,.agg #[Qy 1063,Qy 440,Qy 0,Qy 0]],[(2414,Ua)],2546,.tuple #[.agg #[Qy 1,Qy 10],.bool true],[],2551⟩
theorem xi:QR nC (nC.drun YP Xn X1 100000)=true:=by decide+kernel
def nB:Memo:=
 ⟨88,#[.slice (some ⟨2554,0,none⟩) 2 12,.agg #[Qy 1063,Qy 440,Qy 0,Qy 0]],[(2554,Ua)],2686,.tuple #[.agg #[Qy 1,Qy 10],.bool true],[],2691⟩
theorem xh:QR nB (nB.drun YP Xn X1 100000)=true:=by decide+kernel
def nA:Memo:=
 ⟨88,#[.slice (some ⟨2694,0,none⟩) 2 12,.agg #[Qy 1063,Qy 440,Qy 0,Qy 0]],[(2694,Ua)],2826,.tuple #[.agg #[Qy 1,Qy 10],.bool true],[],2831⟩
theorem xg:QR nA (nA.drun YP Xn X1 100000)=true:=by decide+kernel
end Go.Proofs.Ytncjjangllkokaa

namespace Go.Proofs.Ytncjjangllkokaa
open Go Go.CE Go.RowKit
noncomputable def iJ:WW:=XS [rN,rM,rR,rL,rK,rQ,rJ,rP,rI,rO,mQ,nP,mP,mO,nO,mN,nN,mM,nM,mL,nL,mK,mJ,nK,mI,nJ,mH,nI,mG,nH,mF,nG,mE,nF]
theorem m4(B:Lo):Ws YP B iJ:=QU QF Qf (QJ _ _) Af (QU QF Qf (QJ _ _) Ae (QY QF Qf (QJ _ _) Aj (QU QF Qf (QJ _ _) Ad (QU QF Qf (QJ _ _) Ac (QY QF Qf (QJ _ _) Ai (QU QF Qf (QJ _ _) Ab (QY QF Qf (QJ _ _) Ah (QU QF Qf (QJ _ _) Aa (QY QF Qf (QJ _ _) Ag (QU QF Qf (QJ _ _) w6 (QY QF Qf (QJ _ _) xy (QU QF Qf (QJ _ _) w5 (QU QF Qf (QJ _ _) wz (QY QF Qf (QJ _ _) xx (QU QF Qf (QJ _ _) wy (QY QF Qf (QJ _ _) xw (QU QF Qf (QJ _ _) wx (QY QF Qf (QJ _ _) xu (QU QF Qf (QJ _ _) wv (QY QF Qf (QJ _ _) xt (QU QF Qf (QJ _ _) wu (QU QF Qf (QJ _ _) wo (QY QF Qf (QJ _ _) xq (QU QF Qf (QJ _ _) wm (QY QF Qf (QJ _ _) xp (QU QF Qf (QJ _ _) wk (QY QF Qf (QJ _ _) xo (QU QF Qf (QJ _ _) wj (QY QF Qf (QJ _ _) xn (QU QF Qf (QJ _ _) wi (QY QF Qf (QJ _ _) xm (QU QF Qf (QJ _ _) wh (QY QF Qf (QJ _ _) xl (Zf _ _))))))))))))))))))))))))))))))))))
def rT:Memo:=
 ⟨37,#[.agg #[.slice (some ⟨552,0,none⟩) 2 12,Qy 200,Qy 2]],[(552,Ua)],553,.tuple #[.slice (some ⟨2086,0,none⟩) 2 1,Qy 26,Qy 0],[(2086,.cells #[Qy 1,Qy 3] 3 (0,0))],2097⟩
theorem Al:QR rT (rT.run YP Xn iJ 100000)=true:=by decide+kernel
end Go.Proofs.Ytncjjangllkokaa

namespace Go.Proofs.Ytncjjangllkokaa
open Go Go.CE Go.RowKit
def n9:Memo:=
 ⟨88,#[.slice (some ⟨2834,0,none⟩) 2 12,.agg #[Qy 1063,Qy 440,Qy 0,Qy 0]],[(2834,Ua)],2966,.tuple #[.agg #[Qy 1,Qy 10],.bool true],[],2971⟩
theorem xf:QR n9 (n9.drun YP Xn X1 100000)=true:=by decide+kernel
def n8:Memo:=
 ⟨88,#[.slice (some ⟨2974,0,none⟩) 2 12,.agg #[Qy 1063,Qy 440,Qy 0,Qy 0]],[(2974,Ua)],3106,.tuple #[.agg #[Qy 1,Qy 10],.bool true],[],3111⟩
theorem xe:QR n8 (n8.drun YP Xn X1 100000)=true:=by decide+kernel
def n7:Memo:=
 ⟨88,#[.slice (some ⟨3114,0,none⟩) 2 12,.agg #[Qy 1063,Qy 440,Qy 0,Qy 0]],[(3114,Ua)],3246,.tuple #[.agg #[Qy 1,Qy 10],.bool true],[],3251⟩
theorem xd:QR n7 (n7.drun YP Xn X1 100000)=true:=by decide+kernel
def n6:Memo:=
 ⟨88,#[.slice (some ⟨3254,0,none⟩) 2 12,.agg #[Qy 1063,Qy 440,Qy 0,Qy 0]],[(3254,Ua)],3386,.tuple #[.agg #[Qy 1,Qy 10],.bool true],[],3391⟩
theorem xc:QR n6 (n6.drun YP Xn X1 100000)=true:=by decide+kernel
def n5:Memo:=
 ⟨88,#[.slice (some ⟨3394,0,none⟩) 2 12,.agg #[Qy 1063,Qy 440,Qy 0,Qy 0]],[(3394,Ua)],3526,.tuple #[.agg #[Qy 1,Qy 10],.bool true],[],3531⟩
theorem xb:QR n5 (n5.drun YP Xn X1 100000)=true:=by decide+kernel
def n4:Memo:=
 ⟨88,#[.slice (some ⟨3534,0,none⟩) 2 12,.agg #[Qy 1063,Qy 440,Qy 0,Qy 0]],[(3534,Ua)],3666,.tuple #[.agg #[Qy 1,Qy 10],.bool true],[],3671⟩
theorem xa:QR n4 (n4.drun YP Xn X1 100000)=true:=by decide+kernel
def n3:Memo:=
 ⟨88,#[.slice (some ⟨3674,0,none⟩) 2 12,.agg #[Qy 1063,Qy 440,Qy 0,Qy 0]],[(3674,Ua)],3806,.tuple #[.agg #[Qy 1,Qy 10],.bool true],[],3811⟩
theorem wZ:QR n3 (n3.drun YP Xn X1 100000)=true:=by decide+kernel
def nz:Memo:=
 ⟨88,#[.slice (some ⟨3814,0,none⟩) 2 12,.agg #[Qy 1063,Qy 603,Qy 0,Qy 0]],[(3814,cB2)],3946,.tuple #[.agg #[Qy 0,Qy 0],.bool false],[],3951⟩
theorem wY:QR nz (nz.drun YP Xn X1 100000)=true:=by decide+kernel
def ny:Memo:=
 ⟨88,#[.slice (some ⟨3954,0,none⟩) 2 12,.agg #[Qy 1063,Qy 475,Qy 0,Qy 0]],[(3954,cB3)],4086,.tuple #[.agg #[Qy 0,Qy 0],.bool false],[],4091⟩
theorem wX:QR ny (ny.drun YP Xn X1 100000)=true:=by decide+kernel
def nv:Memo:=
 ⟨88,#[.slice (some ⟨4094,0,none⟩) 2 12,.agg #[Qy 1063,Qy 440,Qy 0,Qy 0]],[(4094,Ua)],4226,.tuple #[.agg #[Qy 1,Qy 10],.bool true],[],4231⟩
theorem wW:QR nv (nv.drun YP Xn X1 100000)=true:=by decide+kernel
def nu:Memo:=
 ⟨88,#[.slice (some ⟨4234,0,none⟩) 2 12,.agg #[Qy 1063,Qy 442,Qy 0,Qy 0]],[(4234,cB4)],4366,.tuple #[.agg #[Qy 1,Qy 8],.bool true],[],4371⟩
theorem wV:QR nu (nu.drun YP Xn X1 100000)=true:=by decide+kernel
def nt:Memo:=
 ⟨88,#[.slice (some ⟨4374,0,none⟩) 2 12,.agg #[Qy 1063,Qy 458,Qy 0,Qy 0]],[(4374,cB5)],4506,.tuple #[.agg #[Qy 0,Qy 0],.bool false],[],4511⟩
theorem wU:QR nt (nt.drun YP Xn X1 100000)=true:=by decide+kernel
def nr:Memo:=
 ⟨88,#[.slice (some ⟨4514,0,none⟩) 2 12,.agg #[Qy 1063,Qy 450,Qy 0,Qy 0]],[(4514,cB6)],4646,.tuple #[.agg #[Qy 0,Qy 0],.bool false],[],4651⟩
theorem wT:QR nr (nr.drun YP Xn X1 100000)=true:=by decide+kernel
def nq:Memo:=
 ⟨88,#[.slice (some ⟨4654,0,none⟩) 2 12,.agg #[Qy 1063,Qy 446,Qy 0,Qy 0]],[(4654,cB7)],4786,.tuple #[.agg #[Qy 1,Qy 4],.bool true],[],4791⟩
theorem wS:QR nq (nq.drun YP Xn X1 100000)=true:=by decide+kernel
end Go.Proofs.Ytncjjangllkokaa

namespace Go.Proofs.Ytncjjangllkokaa
open Go Go.CE Go.RowKit
noncomputable section
def fI:WW:=XS [nE]
theorem jz(B:Lo):Ws YP B fI:=QY QF Qf (QJ _ _) xk (Zf _ _)
def nn:Memo:=
 ⟨93,#[Qy 500000,.pointer (some ⟨2130,0,none⟩),.pointer (some ⟨2131,0,none⟩)],[(2104,Ua),(2131,.cells #[Qy 1] 3 (0,0)),(2130,qq)],2132,.bool true,[],2272⟩
theorem wQ:QR nn (nn.run YP Xn fI 100000)=true:=by decide+kernel
def fH:WW:=XS [nD]
theorem jy(B:Lo):Ws YP B fH:=QY QF Qf (QJ _ _) xj (Zf _ _)
def nm:Memo:=
 ⟨93,#[Qy 250000,.pointer (some ⟨2130,0,none⟩),.pointer (some ⟨2131,0,none⟩)],[(2104,Ua),(2131,.cells #[Qy 1] 3 (0,0)),(2130,qq)],2272,.bool true,[],2412⟩
theorem wP:QR nm (nm.run YP Xn fH 100000)=true:=by decide+kernel
def fG:WW:=XS [nC]
theorem jx(B:Lo):Ws YP B fG:=QY QF Qf (QJ _ _) xi (Zf _ _)
def nk:Memo:=
 ⟨93,#[Qy 125000,.pointer (some ⟨2130,0,none⟩),.pointer (some ⟨2131,0,none⟩)],[(2104,Ua),(2131,.cells #[Qy 1] 3 (0,0)),(2130,qq)],2412,.bool true,[],2552⟩
theorem wO:QR nk (nk.run YP Xn fG 100000)=true:=by decide+kernel
def fF:WW:=XS [nB]
theorem jv(B:Lo):Ws YP B fF:=QY QF Qf (QJ _ _) xh (Zf _ _)
def nj:Memo:=
 ⟨93,#[Qy 62500,.pointer (some ⟨2130,0,none⟩),.pointer (some ⟨2131,0,none⟩)],[(2104,Ua),(2131,.cells #[Qy 1] 3 (0,0)),(2130,qq)],2552,.bool true,[],2692⟩
theorem wN:QR nj (nj.run YP Xn fF 100000)=true:=by decide+kernel
def fE:WW:=XS [nA]
theorem ju(B:Lo):Ws YP B fE:=QY QF Qf (QJ _ _) xg (Zf _ _)
def ni:Memo:=
 ⟨93,#[Qy 31250,.pointer (some ⟨2130,0,none⟩),.pointer (some ⟨2131,0,none⟩)],[(2104,Ua),(2131,.cells #[Qy 1] 3 (0,0)),(2130,qq)],2692,.bool true,[],2832⟩
theorem wM:QR ni (ni.run YP Xn fE 100000)=true:=by decide+kernel
def fD:WW:=XS [n9]
theorem jt(B:Lo):Ws YP B fD:=QY QF Qf (QJ _ _) xf (Zf _ _)
def nh:Memo:=
 ⟨93,#[Qy 15625,.pointer (some ⟨2130,0,none⟩),.pointer (some ⟨2131,0,none⟩)],[(2104,Ua),(2131,.cells #[Qy 1] 3 (0,0)),(2130,qq)],2832,.bool true,[],2972⟩
theorem wL:QR nh (nh.run YP Xn fD 100000)=true:=by decide+kernel
def fC:WW:=XS [n8]
theorem js(B:Lo):Ws YP B fC:=QY QF Qf (QJ _ _) xe (Zf _ _)
def ng:Memo:=
 ⟨93,#[Qy 7812,.pointer (some ⟨2130,0,none⟩),.pointer (some ⟨2131,0,none⟩)],[(2104,Ua),(2131,.cells #[Qy 1] 3 (0,0)),(2130,qq)],2972,.bool true,[],3112⟩
theorem wK:QR ng (ng.run YP Xn fC 100000)=true:=by decide+kernel
def fB:WW:=XS [n7]
theorem jr(B:Lo):Ws YP B fB:=QY QF Qf (QJ _ _) xd (Zf _ _)
def nf:Memo:=
 ⟨93,#[Qy 3906,.pointer (some ⟨2130,0,none⟩),.pointer (some ⟨2131,0,none⟩)],[(2104,Ua),(2131,.cells #[Qy 1] 3 (0,0)),(2130,qq)],3112,.bool true,[],3252⟩
theorem wJ:QR nf (nf.run YP Xn fB 100000)=true:=by decide+kernel
def fA:WW:=XS [n6]
theorem jq(B:Lo):Ws YP B fA:=QY QF Qf (QJ _ _) xc (Zf _ _)
def nc:Memo:=
 ⟨93,#[Qy 1953,.pointer (some ⟨2130,0,none⟩),.pointer (some ⟨2131,0,none⟩)],[(2104,Ua),(2131,.cells #[Qy 1] 3 (0,0)),(2130,qq)],3252,.bool true,[],3392⟩
theorem wI:QR nc (nc.run YP Xn fA 100000)=true:=by decide+kernel
def fy:WW:=XS [n5]
theorem jo(B:Lo):Ws YP B fy:=QY QF Qf (QJ _ _) xb (Zf _ _)
def nb:Memo:=
 ⟨93,#[Qy 976,.pointer (some ⟨2130,0,none⟩),.pointer (some ⟨2131,0,none⟩)],[(2104,Ua),(2131,.cells #[Qy 1] 3 (0,0)),(2130,qq)],3392,.bool true,[],3532⟩
theorem wH:QR nb (nb.run YP Xn fy 100000)=true:=by decide+kernel
def fx:WW:=XS [n4]
theorem jn(B:Lo):Ws YP B fx:=QY QF Qf (QJ _ _) xa (Zf _ _)
def na:Memo:=
 ⟨93,#[Qy 488,.pointer (some ⟨2130,0,none⟩),.pointer (some ⟨2131,0,none⟩)],[(2104,Ua),(2131,.cells #[Qy 1] 3 (0,0)),(2130,qq)],3532,.bool true,[],3672⟩
theorem wG:QR na (na.run YP Xn fx 100000)=true:=by decide+kernel
def fw:WW:=XS [n3]
theorem jl(B:Lo):Ws YP B fw:=QY QF Qf (QJ _ _) wZ (Zf _ _)
def mZ:Memo:=
 ⟨93,#[Qy 244,.pointer (some ⟨2130,0,none⟩),.pointer (some ⟨2131,0,none⟩)],[(2104,Ua),(2131,.cells #[Qy 1] 3 (0,0)),(2130,qq)],3672,.bool true,[],3812⟩
theorem wF:QR mZ (mZ.run YP Xn fw 100000)=true:=by decide+kernel
def ft:WW:=XS [nz]
theorem jk(B:Lo):Ws YP B ft:=QY QF Qf (QJ _ _) wY (Zf _ _)
def mY:Memo:=
 ⟨93,#[Qy 122,.pointer (some ⟨2130,0,none⟩),.pointer (some ⟨2131,0,none⟩)],[(2104,Ua),(2131,.cells #[Qy 1] 3 (0,0)),(2130,qq)],3812,.bool false,[],3952⟩
theorem wE:QR mY (mY.run YP Xn ft 100000)=true:=by decide+kernel
def fq:WW:=XS [ny]
theorem jj(B:Lo):Ws YP B fq:=QY QF Qf (QJ _ _) wX (Zf _ _)
def mX:Memo:=
 ⟨93,#[Qy 183,.pointer (some ⟨2130,0,none⟩),.pointer (some ⟨2131,0,none⟩)],[(2104,Ua),(2131,.cells #[Qy 1] 3 (0,0)),(2130,qq)],3952,.bool false,[],4092⟩
theorem wD:QR mX (mX.run YP Xn fq 100000)=true:=by decide+kernel
end
end Go.Proofs.Ytncjjangllkokaa

namespace Go.Proofs.Ytncjjangllkokaa
open Go Go.CE Go.RowKit
def np:Memo:=
 ⟨88,#[.slice (some ⟨4794,0,none⟩) 2 12,.agg #[Qy 1063,Qy 448,Qy 0,Qy 0]],[(4794,cB8)],4926,.tuple #[.agg #[Qy 1,Qy 2],.bool true],[],4931⟩
theorem wR:QR np (np.drun YP Xn X1 100000)=true:=by decide+kernel
end Go.Proofs.Ytncjjangllkokaa

namespace Go.Proofs.Ytncjjangllkokaa
open Go Go.CE Go.RowKit
noncomputable section
def fp:WW:=XS [nv]
theorem ji(B:Lo):Ws YP B fp:=QY QF Qf (QJ _ _) wW (Zf _ _)
def mW:Memo:=
 ⟨93,#[Qy 214,.pointer (some ⟨2130,0,none⟩),.pointer (some ⟨2131,0,none⟩)],[(2104,Ua),(2131,.cells #[Qy 1] 3 (0,0)),(2130,qq)],4092,.bool true,[],4232⟩
theorem wC:QR mW (mW.run YP Xn fp 100000)=true:=by decide+kernel
def fo:WW:=XS [nu]
theorem jh(B:Lo):Ws YP B fo:=QY QF Qf (QJ _ _) wV (Zf _ _)
def mV:Memo:=
 ⟨93,#[Qy 199,.pointer (some ⟨2130,0,none⟩),.pointer (some ⟨2131,0,none⟩)],[(2104,Ua),(2131,.cells #[Qy 1] 3 (0,0)),(2130,qq)],4232,.bool true,[],4372⟩
theorem wB:QR mV (mV.run YP Xn fo 100000)=true:=by decide+kernel
def fi:WW:=XS [nt]
theorem jg(B:Lo):Ws YP B fi:=QY QF Qf (QJ _ _) wU (Zf _ _)
def mU:Memo:=
 ⟨93,#[Qy 191,.pointer (some ⟨2130,0,none⟩),.pointer (some ⟨2131,0,none⟩)],[(2104,Ua),(2131,.cells #[Qy 1] 3 (0,0)),(2130,qq)],4372,.bool false,[],4512⟩
theorem wA:QR mU (mU.run YP Xn fi 100000)=true:=by decide+kernel
def fh:WW:=XS [nr]
theorem jf(B:Lo):Ws YP B fh:=QY QF Qf (QJ _ _) wT (Zf _ _)
def mT:Memo:=
 ⟨93,#[Qy 195,.pointer (some ⟨2130,0,none⟩),.pointer (some ⟨2131,0,none⟩)],[(2104,Ua),(2131,.cells #[Qy 1] 3 (0,0)),(2130,qq)],4512,.bool false,[],4652⟩
theorem w9:QR mT (mT.run YP Xn fh 100000)=true:=by decide+kernel
def fg:WW:=XS [nq]
theorem je(B:Lo):Ws YP B fg:=QY QF Qf (QJ _ _) wS (Zf _ _)
def mS:Memo:=
 ⟨93,#[Qy 197,.pointer (some ⟨2130,0,none⟩),.pointer (some ⟨2131,0,none⟩)],[(2104,Ua),(2131,.cells #[Qy 1] 3 (0,0)),(2130,qq)],4652,.bool true,[],4792⟩
theorem w8:QR mS (mS.run YP Xn fg 100000)=true:=by decide+kernel
def ff:WW:=XS [np]
theorem jd(B:Lo):Ws YP B ff:=QY QF Qf (QJ _ _) wR (Zf _ _)
def mR:Memo:=
 ⟨93,#[Qy 196,.pointer (some ⟨2130,0,none⟩),.pointer (some ⟨2131,0,none⟩)],[(2104,Ua),(2131,.cells #[Qy 1] 3 (0,0)),(2130,qq)],4792,.bool true,[],4932⟩
theorem w7:QR mR (mR.run YP Xn ff 100000)=true:=by decide+kernel
end
end Go.Proofs.Ytncjjangllkokaa

namespace Go.Proofs.Ytncjjangllkokaa
open Go Go.CE Go.RowKit
noncomputable def fJ:WW:=XS [nn,nm,nk,nj,ni,nh,ng,nf,nc,nb,na,mZ,mY,mX,mW,mV,mU,mT,mS,mR]
theorem j3(B:Lo):Ws YP B fJ:=QU QF Qf (jz _) wQ (QU QF Qf (jy _) wP (QU QF Qf (jx _) wO (QU QF Qf (jv _) wN (QU QF Qf (ju _) wM (QU QF Qf (jt _) wL (QU QF Qf (js _) wK (QU QF Qf (jr _) wJ (QU QF Qf (jq _) wI (QU QF Qf (jo _) wH (QU QF Qf (jn _) wG (QU QF Qf (jl _) wF (QU QF Qf (jk _) wE (QU QF Qf (jj _) wD (QU QF Qf (ji _) wC (QU QF Qf (jh _) wB (QU QF Qf (jg _) wA (QU QF Qf (jf _) w9 (QU QF Qf (je _) w8 (QU QF Qf (jd _) w7 (Zf _ _))))))))))))))))))))
def nQ:Memo:=
 ⟨43,#[.agg #[.slice (some ⟨2104,0,none⟩) 2 12,Qy 200,Qy 2],.slice (some ⟨2105,0,none⟩) 2 1,Qy 1],[(2105,.cells #[Qy 1,Qy 1] 3 (0,0)),(2104,Ua)],2106,.tuple #[Qy 195,Qy 0],[],4932⟩
theorem xz:QR nQ (nQ.run YP Xn fJ 100000)=true:=by decide+kernel
end Go.Proofs.Ytncjjangllkokaa

namespace Go.Proofs.Ytncjjangllkokaa
open Go Go.CE Go.RowKit
noncomputable def GS:WW:=XS [An,rV,rU,rT,nQ]
theorem DA(B:Lo):Ws YP B GS:=QU QF Qf (QJ _ _) DE (QU QF Qf (QJ _ _) Ao (QU QF Qf (m5 _) Am (QU QF Qf (m4 _) Al (QU QF Qf (j3 _) xz (Zf _ _)))))
theorem DO:B7 (ou YP Xn GS 100000 16 #[] (So 0 []) ([]:List (Array Value×TypeId)).length) (.bool true) []=true:=by decide+kernel
theorem Aw(w:World):Calls YP 16 #[] w fun e w'=>e=.returned (.bool true)/\Below w.heap.size w w':=by
 have hc:=DY QF Qf (at':=[]) (args':=#[]) DO (w:=w) (I:=fun _=>True) (hI:=fun _ _ _ _=>trivial) (DA _) trivial rfl (fun i x a h=>by simp at h) ⟨rfl,fun i v v' h=>by simp at h⟩;intro cs;obtain⟨e,w',fr,⟨v',n',H',μ',he,hp,hv,hb,hun,hbel⟩,h1,h2,h3⟩:=hc cs;exact⟨e,w',fr,⟨by rw[he,Tj rfl hv],hbel⟩,h1,h2,h3⟩
theorem known:Qr YP J0 16 #[] (.bool true):=fun fm w args' _ _ ha=>by
 have e:args'=#[]:=by exact LO ha.1.symm
 subst e;exact(Aw w).mono fun _ _ h=>⟨_,h.1,h.2,.simple rfl⟩
end Go.Proofs.Ytncjjangllkokaa

namespace Go.Proofs.Ytncjjangllkokaa
open Go Go.CE Go.RowKit
set_option maxRecDepth 100000
end Go.Proofs.Ytncjjangllkokaa

namespace Go.Proofs.Ytncjjangllkokaa
open Go Go.CE Go.RowKit
def qE:Sh:=shS [.int,.int]
def Bg:Sh:=shS [.int,.int,qE,.int,.int,qE,qE,.int,.int]
def kI:Sh:=shS [.slice Bg,.int,.int]
theorem og{cs:List Value}(h:qE.ok cs):∃s:Span,cs=Qk s:=by
 obtain⟨_,_,rfl,⟨a,_,rfl⟩,_,_,rfl,⟨b,_,rfl⟩,rfl⟩:=h;exact⟨⟨a,b⟩,rfl⟩
theorem DW{cs:List Value}(h:Bg.ok cs):∃s:Qg,cs=Qi s:=by
 obtain⟨_,_,rfl,⟨a,_,rfl⟩,_,_,rfl,⟨b,_,rfl⟩,_,_,rfl,h3,_,_,rfl,⟨d,_,rfl⟩,_,_,rfl,⟨e,_,rfl⟩,_,_,rfl,h6,_,_,rfl,h7,_,_,rfl,⟨g,_,rfl⟩,_,_,rfl,⟨w,_,rfl⟩,rfl⟩:=h;obtain⟨x,rfl⟩:=og h3;obtain⟨y,rfl⟩:=og h6;obtain⟨z,rfl⟩:=og h7;exact⟨⟨a,b,x.lo,x.hi,d,e,y.lo,y.hi,z.lo,z.hi,g,w⟩,rfl⟩
theorem HV{v:Value}(h:kI.arg v):∃r:Qo,v=.agg (Q1 r).toArray:=by
 obtain⟨cs,rfl,h⟩:=h;obtain⟨_,_,rfl,h1,_,_,rfl,⟨m,_,rfl⟩,_,_,rfl,⟨n,_,rfl⟩,rfl⟩:=h;obtain⟨xs,rfl⟩:=tf (fun _=>DW) h1;exact⟨⟨xs,m,n⟩,rfl⟩
theorem HE{cs:List Value}(h:Sh.ok (.slice .int) cs):∃xs:List Int,cs=Zi xs:=tf (fun _=>No) h
theorem HW{v:Value}(h:Sh.arg (.slice .int) v):∃xs:List Int,v=Zk xs:=by
 obtain⟨xs,hx⟩:=HE (show Sh.ok (.slice .int) [v]from h);exact⟨xs,by simpa using hx⟩
end Go.Proofs.Ytncjjangllkokaa

namespace Go.Proofs.Ytncjjangllkokaa
open Go Go.CE Go.RowKit
noncomputable section
set_option maxRecDepth 100000
def TN(s:Span):Int:=s.lo
def TU(s:Span):Int:=s.hi
def Z6(rf:Qo):List Int:=(rf.Qb.map (Ze rf.Qc)).map TN
def Z7(rf:Qo):List Int:=(rf.Qb.map (Ze rf.Qc)).map TU
def Ps(rf:Qo):List Int:=(rf.Qb.map Zc).map TN
def Pu(rf:Qo):List Int:=(rf.Qb.map Zc).map TU
def Pe(rf:Qo)(p:Int):List Int:=(XU rf.Qb p).map TN
def Pf(rf:Qo)(p:Int):List Int:=(XU rf.Qb p).map TU
theorem TL{α:Type}[Inhabited α]{l:List α}{f:α->Span}{g:Span->Int}{k:Int}(h0:0<=k)(h:k<l.length):nth ((l.map f).map g) k=g (f (l.getD k.toNat La)):=by
 obtain⟨m,rfl⟩:∃m:Nat,k=m:=⟨k.toNat,by omega⟩
 have hm:m<l.length:=by omega
 show((l.map f).map g).getD ((m:Int).toNat) La=_;simp[Ly,hm]
theorem cf{rf:Qo}(hr:XG rf=true):K9 rf.Qb.length (Ps rf) 2000/\K9 rf.Qb.length (Pu rf) 2000:=by
 refine⟨⟨by simp[Ps],fun k h0 h1=> ?_⟩,⟨by simp[Pu],fun k h0 h1=> ?_⟩⟩
 ·have hp:=Wl ((QB hr).2 k h0 h1).1;unfold Ps;rw[TL h0 h1];simp only[Zc,TN];omega
 ·have hp:=Wl ((QB hr).2 k h0 h1).1;unfold Pu;rw[TL h0 h1];simp only[Zc,TU];omega
theorem mD{l:List Span}{g:Span->Int}{k:Int}(h0:0<=k)(h:k<l.length):nth (l.map g) k=g (l.getD k.toNat La):=by
 obtain⟨m,rfl⟩:∃m:Nat,k=m:=⟨k.toNat,by omega⟩
 have hm:m<l.length:=by omega
 show(l.map g).getD ((m:Int).toNat) La=_;simp[Ly,hm]
theorem bt{rf:Qo}(hr:XG rf=true)(p:Int):K9 rf.Qb.length (Pe rf p) 1000000/\K9 rf.Qb.length (Pf rf p) 1000000:=by
 refine⟨⟨by simp[Pe,Uf],fun k h0 h1=> ?_⟩,⟨by simp[Pf,Uf],fun k h0 h1=> ?_⟩⟩
 ·have hp:=oO hr (p:=p) h0 h1;unfold Pe;rw[mD h0 (by rw[Uf];exact h1),hZ h0 h1];simp only[TN];omega
 ·have hp:=oO hr (p:=p) h0 h1;unfold Pf;rw[mD h0 (by rw[Uf];exact h1),hZ h0 h1];simp only[TU];omega
section
variable (B:Lo)(c0:CF)(xs:List Span)(i:Int)(ys:List Int)
def SN(ys:List Int):List Value:=[Value.func (Fn.func 76) #[] #[],.slice (some {block:=2,off:=0}) xs.length 1,Q2 1 (QH xs.length (Qe Qk xs)),YI (↑xs.length:Int),YI i]
def KW(xs:List Span)(i:Int)(ys:List Int):List Obj:=[.cells (Qe Q0 ys) 3 (0,0)]
def SO:List Item:=([.code [1,1,0,1,0,0],.inLoop [1,1,0,1,0,0],.inBlock 0,.code [1,1,1]]).map (it (QG YP 97))
def Dl:Prop:=∃dJ:Nat->Value,(∀t,Xe (dJ t))/\GoE YP B c0 Zb 1 (Q9 97 26 (([1,5,11,12,13]:List Nat).zip (SN xs i ys)) dJ SO) (Q8 (KW xs i ys)) (2+(KW xs i ys).length) []
def bT:=(Span.lo (xs.getD i.toNat La))
def Dg:Array Value:=#[YI (bT xs i),YI (Span.hi (xs.getD i.toNat La))]
def Df:Array Value:=(Qe Q0 (LC ys i.toNat (bT xs i)))
def pQ:Array Value:=(Qe (KE [YI 0]) (Lz xs.length ()))
theorem Dj(B:Lo)(xs:List Span)(i:Int)(ys:List Int)(Qp:Nat->Value):let e:=Dg xs i;let c:=Df xs i ys;let a:=Lb i;let d:=LC ys a (bT xs i);let b:=Span.lo (xs.getD a La);let f:=YI b;landM (Qq YP (Q6 YP) J0 B 13 1 (Q9 97 26 (([1,5,11,12,13]:List Nat).zip (SN xs i ys)) Qp SO) (Q8 (KW xs i ys)) (2+(KW xs i ys).length)
 [(0,ZC),(2,Qh.tidx a e),(11,Qh.pure (YI (bT xs i)) []),(12,Qh.Xs (Hint.idx a)),(13,Qh.Xs (Hint.st c)),(14,Z4 (i+1))] 0 [] []) [1,5,11,12,13] [(2,KS.cells [] c)] []=some ⟨97,26,SO,[],.run,none,SN xs (i+1) d,KW xs (i+1) d,
 [Qv 1 [] c c,wq (i+1)=i+1,0+Lb i*1+TypeInfo.size Try.t3<=LA (Qe Q0 ys)/\splice (Qe Q0 ys) (0+Lb i*1) (Value.cells (XT {len:=16000,tr:=Tri.set 14 (Tri.set 14 Tri.lf 22 f) 23 (.pointer (some {block:=2,off:=0+Lb i*1}))} 22))=Qe Q0 (LC ys a b),i=(↑a:Int)/\Lb i<Ld xs,Q3 []/\Qr YP J0 76 #[.agg e] f,Vr i xs.length (Qe Qk xs) Try.t38.size e,XA i (↑xs.length:Int)=true]⟩:=by intro e c a d b f;kernel_rfl
theorem Di(B:Lo)(xs:List Span)(i:Int)(ys:List Int)(Qp:Nat->Value):let a:=Fz.cs {k:=2,rs:=[],cs:=Qe Q0 ys};Xq (Qq YP (Q6 YP) J0 B 9 1 (Q9 97 26 (([1,5,11,12,13]:List Nat).zip (SN xs i ys)) Qp SO) (Q8 (KW xs i ys)) (2+(KW xs i ys).length)
 [(0,Wi)] 0 [] []) [{k:=2,rs:=[],cs:=Qe Q0 ys}]=some (QH xs.length a,
 [X4 (Fz.rs {k:=2,rs:=[],cs:=Qe Q0 ys}) (Qe Q0 ys) a,XA i (↑xs.length:Int)=false]):=by intro a;kernel_rfl
theorem Dh(B:Lo)(xs:List Span):let a:=Ld xs;let c:=Lz a 0;let b:=XT {len:=16000,tr:=Tri.set 14 Tri.lf 9 (YI (↑a:Int))} 9;landM (Qq YP (Q6 YP) J0 B 9 1 (Qx YP 97 26 (([Sf xs,.func (.func 76) #[] #[]]).map (Q7 0 4))) Zb 1
 [(3,Qh.Xs (Hint.mk a (pQ xs)))] 0 [] []) [1,5,11,12,13] [(1,KS.rows [] [] [] (Qe Q0 c))] []=some ⟨97,26,SO,[],.run,none,SN xs (0) c,KW xs (0) c,
 [QX 1 [] [] [] (pQ xs) (Qe Q0 c),Tg YP 25 b b=some (3,Qe (KE [YI 0]) (Lz a ()),Ld xs,TypeInfo.size Try.t3)]⟩:=by intro a c b;kernel_rfl
end
set_option maxHeartbeats 4000000 in
theorem Dk(xs:List Span)(hn:xs.length<=1000000){B:Lo}(hJ:∀w,B.has w->J0 w){c0:CF}:∀m:Nat,(∀(i:Int) (ys:List Int),(xs.length-i.toNat)=m->∀(h0:0<=i) (hy:ys=RY TN 0 xs i),Dl B c0 xs i ys->EndsT YP B c0 (Zk (xs.map TN))):=by
 intro m0;induction m0 using LB with
 |_ m0 ih0=>
  intro i ys UX h0 hy ⟨Qp,Zr,Xo⟩;have hyl:ys.length=xs.length:=by rw[hy];exact Tb
  by_cases q0:(i:Int)<((↑xs.length:Int))
  ·exact((ih0 _ (by omega)) (i+1) (LC ys i.toNat (Span.lo (xs.getD i.toNat La))) rfl (by omega) (by(subst hy;exact Ta (f:=TN) h0 q0))
    (Xo.landM okF hJ Qf (Dj B xs i ys Qp)
    ⟨(XI fun _=>by rfl),⟨(QP (by omega) (by omega)),⟨(by exact WC (z:=1) (k:=Lb i) (fun _=>rfl) (by first|omega|(rw[LJ];omega)|(rw[Lv];omega)) rfl rfl),⟨⟨by omega,by omega⟩,⟨⟨trivial,Qag (Span.lo (xs.getD i.toNat La)) (Span.hi (xs.getD i.toNat La))⟩,⟨⟨by omega,by omega,(Qu (z:=2) (fun _=>rfl) (by omega))⟩,⟨(Xh q0),trivial⟩⟩⟩⟩⟩⟩⟩ (by kernel_rfl) (by kernel_rfl))).cast (by rfl)
  ·exact(GoE.endsT okF hJ Qf Xo (Di B xs i ys Qp)
    ⟨(Xg (fun x=>List.all_eq_true.1 (by rfl))),⟨(X7 (Int.not_lt.1 q0)),trivial⟩⟩).cast (by exact dO (hy.trans (Tc (by omega))) (by simp))
set_option maxHeartbeats 4000000 in
theorem GK(xs:List Span)(hn:xs.length<=1000000){B:Lo}(hJ:∀w,B.has w->J0 w):EndsT YP B (Qx YP 97 26 (([Sf xs,.func (.func 76) #[] #[]]).map (Q7 0 4))) (Zk (xs.map TN)):=by
 exact((Dk xs hn hJ _) (0) (Lz xs.length 0) rfl (by omega) (by exact fW)
  (GoE.start.landM okF hJ Qf (Dh B xs)
  ⟨(by exact(UM (by exact⟨(.simple rfl),trivial⟩) _)),⟨(gX (bytes:=8) (by kernel_rfl) (by omega) (by omega) (by omega)),trivial⟩⟩ (by kernel_rfl) (by kernel_rfl))).cast (by rfl)
theorem zO(xs:List Span)(hn:xs.length<=1000000):Qr YP J0 97 #[Sf xs,.func (.func 76) #[] #[]] (Zk (xs.map TN)):=
 Xi (ts:=[Sf xs,.func (.func 76) #[] #[]]) Za (c0:=Qx YP 97 26 (([Sf xs,.func (.func 76) #[] #[]]).map (Q7 0 4))) (by kernel_rfl) (by kernel_rfl) fun B hJ=>GK xs hn hJ
section
variable (B:Lo)(c0:CF)(xs:List Span)(i:Int)(ys:List Int)
def SP(ys:List Int):List Value:=[Value.func (Fn.func 77) #[] #[],.slice (some {block:=2,off:=0}) xs.length 1,Q2 1 (QH xs.length (Qe Qk xs)),YI (↑xs.length:Int),YI i]
def KX(xs:List Span)(i:Int)(ys:List Int):List Obj:=[.cells (Qe Q0 ys) 3 (0,0)]
def SQ:List Item:=([.code [1,1,0,1,0,0],.inLoop [1,1,0,1,0,0],.inBlock 0,.code [1,1,1]]).map (it (QG YP 97))
def Dt:Prop:=∃dJ:Nat->Value,(∀t,Xe (dJ t))/\GoE YP B c0 Zb 1 (Q9 97 26 (([1,5,11,12,13]:List Nat).zip (SP xs i ys)) dJ SQ) (Q8 (KX xs i ys)) (2+(KX xs i ys).length) []
def bU:=(Span.hi (xs.getD i.toNat La))
def Dn:Array Value:=#[YI (Span.lo (xs.getD i.toNat La)),YI (bU xs i)]
def Dm:Array Value:=(Qe Q0 (LC ys i.toNat (bU xs i)))
def pR:Array Value:=(Qe (KE [YI 0]) (Lz xs.length ()))
theorem Dr(B:Lo)(xs:List Span)(i:Int)(ys:List Int)(Qp:Nat->Value):let e:=Dn xs i;let c:=Dm xs i ys;let a:=Lb i;let d:=LC ys a (bU xs i);let b:=Span.hi (xs.getD a La);let f:=YI b;landM (Qq YP (Q6 YP) J0 B 13 1 (Q9 97 26 (([1,5,11,12,13]:List Nat).zip (SP xs i ys)) Qp SQ) (Q8 (KX xs i ys)) (2+(KX xs i ys).length)
 [(0,ZC),(2,Qh.tidx a e),(11,Qh.pure (YI (bU xs i)) []),(12,Qh.Xs (Hint.idx a)),(13,Qh.Xs (Hint.st c)),(14,Z4 (i+1))] 0 [] []) [1,5,11,12,13] [(2,KS.cells [] c)] []=some ⟨97,26,SQ,[],.run,none,SP xs (i+1) d,KX xs (i+1) d,
 [Qv 1 [] c c,wq (i+1)=i+1,0+Lb i*1+TypeInfo.size Try.t3<=LA (Qe Q0 ys)/\splice (Qe Q0 ys) (0+Lb i*1) (Value.cells (XT {len:=16000,tr:=Tri.set 14 (Tri.set 14 Tri.lf 22 f) 23 (.pointer (some {block:=2,off:=0+Lb i*1}))} 22))=Qe Q0 (LC ys a b),i=(↑a:Int)/\Lb i<Ld xs,Q3 []/\Qr YP J0 77 #[.agg e] f,Vr i xs.length (Qe Qk xs) Try.t38.size e,XA i (↑xs.length:Int)=true]⟩:=by intro e c a d b f;kernel_rfl
theorem Dq(B:Lo)(xs:List Span)(i:Int)(ys:List Int)(Qp:Nat->Value):let a:=Fz.cs {k:=2,rs:=[],cs:=Qe Q0 ys};Xq (Qq YP (Q6 YP) J0 B 9 1 (Q9 97 26 (([1,5,11,12,13]:List Nat).zip (SP xs i ys)) Qp SQ) (Q8 (KX xs i ys)) (2+(KX xs i ys).length)
 [(0,Wi)] 0 [] []) [{k:=2,rs:=[],cs:=Qe Q0 ys}]=some (QH xs.length a,
 [X4 (Fz.rs {k:=2,rs:=[],cs:=Qe Q0 ys}) (Qe Q0 ys) a,XA i (↑xs.length:Int)=false]):=by intro a;kernel_rfl
theorem Dp(B:Lo)(xs:List Span):let a:=Ld xs;let c:=Lz a 0;let b:=XT {len:=16000,tr:=Tri.set 14 Tri.lf 9 (YI (↑a:Int))} 9;landM (Qq YP (Q6 YP) J0 B 9 1 (Qx YP 97 26 (([Sf xs,.func (.func 77) #[] #[]]).map (Q7 0 4))) Zb 1
 [(3,Qh.Xs (Hint.mk a (pR xs)))] 0 [] []) [1,5,11,12,13] [(1,KS.rows [] [] [] (Qe Q0 c))] []=some ⟨97,26,SQ,[],.run,none,SP xs (0) c,KX xs (0) c,
 [QX 1 [] [] [] (pR xs) (Qe Q0 c),Tg YP 25 b b=some (3,Qe (KE [YI 0]) (Lz a ()),Ld xs,TypeInfo.size Try.t3)]⟩:=by intro a c b;kernel_rfl
end
set_option maxHeartbeats 4000000 in
theorem Ds(xs:List Span)(hn:xs.length<=1000000){B:Lo}(hJ:∀w,B.has w->J0 w){c0:CF}:∀m:Nat,(∀(i:Int) (ys:List Int),(xs.length-i.toNat)=m->∀(h0:0<=i) (hy:ys=RY TU 0 xs i),Dt B c0 xs i ys->EndsT YP B c0 (Zk (xs.map TU))):=by
 intro m0;induction m0 using LB with
 |_ m0 ih0=>
  intro i ys UX h0 hy ⟨Qp,Zr,Xo⟩;have hyl:ys.length=xs.length:=by rw[hy];exact Tb
  by_cases q0:(i:Int)<((↑xs.length:Int))
  ·exact((ih0 _ (by omega)) (i+1) (LC ys i.toNat (Span.hi (xs.getD i.toNat La))) rfl (by omega) (by(subst hy;exact Ta (f:=TU) h0 q0))
    (Xo.landM okF hJ Qf (Dr B xs i ys Qp)
    ⟨(XI fun _=>by rfl),⟨(QP (by omega) (by omega)),⟨(by exact WC (z:=1) (k:=Lb i) (fun _=>rfl) (by first|omega|(rw[LJ];omega)|(rw[Lv];omega)) rfl rfl),⟨⟨by omega,by omega⟩,⟨⟨trivial,O8 (Span.lo (xs.getD i.toNat La)) (Span.hi (xs.getD i.toNat La))⟩,⟨⟨by omega,by omega,(Qu (z:=2) (fun _=>rfl) (by omega))⟩,⟨(Xh q0),trivial⟩⟩⟩⟩⟩⟩⟩ (by kernel_rfl) (by kernel_rfl))).cast (by rfl)
  ·exact(GoE.endsT okF hJ Qf Xo (Dq B xs i ys Qp)
    ⟨(Xg (fun x=>List.all_eq_true.1 (by rfl))),⟨(X7 (Int.not_lt.1 q0)),trivial⟩⟩).cast (by exact dO (hy.trans (Tc (by omega))) (by simp))
set_option maxHeartbeats 4000000 in
theorem GL(xs:List Span)(hn:xs.length<=1000000){B:Lo}(hJ:∀w,B.has w->J0 w):EndsT YP B (Qx YP 97 26 (([Sf xs,.func (.func 77) #[] #[]]).map (Q7 0 4))) (Zk (xs.map TU)):=by
 exact((Ds xs hn hJ _) (0) (Lz xs.length 0) rfl (by omega) (by exact fW)
  (GoE.start.landM okF hJ Qf (Dp B xs)
  ⟨(by exact(UM (by exact⟨(.simple rfl),trivial⟩) _)),⟨(gX (bytes:=8) (by kernel_rfl) (by omega) (by omega) (by omega)),trivial⟩⟩ (by kernel_rfl) (by kernel_rfl))).cast (by rfl)
theorem zP(xs:List Span)(hn:xs.length<=1000000):Qr YP J0 97 #[Sf xs,.func (.func 77) #[] #[]] (Zk (xs.map TU)):=
 Xi (ts:=[Sf xs,.func (.func 77) #[] #[]]) Za (c0:=Qx YP 97 26 (([Sf xs,.func (.func 77) #[] #[]]).map (Q7 0 4))) (by kernel_rfl) (by kernel_rfl) fun B hJ=>GL xs hn hJ
def YT(rf:Qo):=(List.map (Ze rf.Qc) rf.Qb)
def z4(rf:Qo):Array Value:=#[YI (Le (List.map TN (YT rf)) 0 La),YI (Le (List.map TN (YT rf)) 1 La),YI (Le (List.map TN (YT rf)) 2 La),YI (Le (List.map TN (YT rf)) 3 La)]
def z3(rf:Qo):Array Value:=(Qe Q0 (List.map TN (YT rf)))
def ma  :Array Value:=#[YI 0,YI 0,YI 0,YI 0]
theorem z5(B:Lo)(rf:Qo)(Qa:List Int):let g:=z4 rf;let f:=YT rf;let e:=rf.Qb;let d:=z3 rf;let a:=List.map (Ze rf.Qc) e;let c:=Ld (List.map TN a);let b:=Array.map (ZV 5) (Lj d 0 (LW c 4*TypeInfo.size Try.t3));Xq (Qq YP (Q6 YP) J0 B 10 1 (Qx YP 75 13 (([.agg (QQ rf Qa).toArray,.func (.func 76) #[] #[]]).map (Q7 0 4))) Zb 1
 [(5,Qh.pure (QH f.length (Qe Qk f)) []),(7,Qh.pure (QH (Ld (List.map TN f)) d) []),(8,Qh.tcpy g)] 0 [] []) []=some (.agg g,
 [0<Ld (List.map TN a)/\0+LW c 4*TypeInfo.size Try.t3<=LA ma/\LW c 4*TypeInfo.size Try.t3<=LA d/\(Array.all d fun v=>simple v || WI v)=true/\ones b=true/\splice ma 0 b=g,Q3 []/\Qr YP J0 97 #[QH a.length (Qe Qk a),Value.func (Fn.func 76) #[] #[]] (QH c d),Q3 []/\Qr YP J0 82 #[.agg #[QH e.length (Qe Qi e),YI rf.Qc,YI rf.Qd,YI (Qa.getD 0 0),YI (Qa.getD 1 0),YI (Qa.getD 2 0),YI (Qa.getD 3 0)]] (QH a.length (Qe Qk a))]):=by intro g f e d a c b;kernel_rfl
set_option maxHeartbeats 4000000 in
theorem CV(rf:Qo)(Qa:List Int)(hr:XG rf=true){B:Lo}(hJ:∀w,B.has w->J0 w):EndsT YP B (Qx YP 75 13 (([.agg (QQ rf Qa).toArray,.func (.func 76) #[] #[]]).map (Q7 0 4))) (.agg #[YI ((Z6 rf).getD 0 La),YI ((Z6 rf).getD 1 La),YI ((Z6 rf).getD 2 La),YI ((Z6 rf).getD 3 La)]):=by
 have ZW:=QC (QB hr).1;have hle1:((rf.Qb.map (Ze rf.Qc)).map TN).length=rf.Qb.length:=by simp
 have hle2:((rf.Qb.map (Ze rf.Qc)).map TU).length=rf.Qb.length:=by simp
 have hle3:(rf.Qb.map (Ze rf.Qc)).length=rf.Qb.length:=by simp
 have hcc:∀k:Int,0<=k->k<rf.Qb.length->0<=(rf.Qb.getD k.toNat La).count/\(rf.Qb.getD k.toNat La).count<=1000000:=fun k h0 h1=>(Wl ((QB hr).2 k h0 h1).1).1
 exact(GoE.endsT okF hJ Qf GoE.start (z5 B rf Qa)
  ⟨(oh (fun _=>rfl) rfl (by omega) (by omega) rfl (YL rfl) rfl),⟨⟨trivial,zO (List.map (Ze rf.Qc) rf.Qb) (by omega)⟩,⟨⟨trivial,Bt (rf) (Qa) (by omega) (by omega) (by with_reducible assumption)⟩,trivial⟩⟩⟩).cast (by rfl)
theorem Bw(rf:Qo)(Qa:List Int)(hr:XG rf=true):Qr YP J0 75 #[.agg (QQ rf Qa).toArray,.func (.func 76) #[] #[]] (.agg #[YI ((Z6 rf).getD 0 La),YI ((Z6 rf).getD 1 La),YI ((Z6 rf).getD 2 La),YI ((Z6 rf).getD 3 La)]):=
 Xi (ts:=[.agg (QQ rf Qa).toArray,.func (.func 76) #[] #[]]) Za (c0:=Qx YP 75 13 (([.agg (QQ rf Qa).toArray,.func (.func 76) #[] #[]]).map (Q7 0 4))) (by kernel_rfl) (by kernel_rfl) fun B hJ=>CV rf Qa hr hJ
def YU(rf:Qo):=(List.map (Ze rf.Qc) rf.Qb)
def z7(rf:Qo):Array Value:=#[YI (Le (List.map TU (YU rf)) 0 La),YI (Le (List.map TU (YU rf)) 1 La),YI (Le (List.map TU (YU rf)) 2 La),YI (Le (List.map TU (YU rf)) 3 La)]
def z6(rf:Qo):Array Value:=(Qe Q0 (List.map TU (YU rf)))
def mb  :Array Value:=#[YI 0,YI 0,YI 0,YI 0]
theorem z8(B:Lo)(rf:Qo)(Qa:List Int):let g:=z7 rf;let f:=YU rf;let e:=rf.Qb;let d:=z6 rf;let a:=List.map (Ze rf.Qc) e;let c:=Ld (List.map TU a);let b:=Array.map (ZV 5) (Lj d 0 (LW c 4*TypeInfo.size Try.t3));Xq (Qq YP (Q6 YP) J0 B 10 1 (Qx YP 75 13 (([.agg (QQ rf Qa).toArray,.func (.func 77) #[] #[]]).map (Q7 0 4))) Zb 1
 [(5,Qh.pure (QH f.length (Qe Qk f)) []),(7,Qh.pure (QH (Ld (List.map TU f)) d) []),(8,Qh.tcpy g)] 0 [] []) []=some (.agg g,
 [0<Ld (List.map TU a)/\0+LW c 4*TypeInfo.size Try.t3<=LA mb/\LW c 4*TypeInfo.size Try.t3<=LA d/\(Array.all d fun v=>simple v || WI v)=true/\ones b=true/\splice mb 0 b=g,Q3 []/\Qr YP J0 97 #[QH a.length (Qe Qk a),Value.func (Fn.func 77) #[] #[]] (QH c d),Q3 []/\Qr YP J0 82 #[.agg #[QH e.length (Qe Qi e),YI rf.Qc,YI rf.Qd,YI (Qa.getD 0 0),YI (Qa.getD 1 0),YI (Qa.getD 2 0),YI (Qa.getD 3 0)]] (QH a.length (Qe Qk a))]):=by intro g f e d a c b;kernel_rfl
set_option maxHeartbeats 4000000 in
theorem CW(rf:Qo)(Qa:List Int)(hr:XG rf=true){B:Lo}(hJ:∀w,B.has w->J0 w):EndsT YP B (Qx YP 75 13 (([.agg (QQ rf Qa).toArray,.func (.func 77) #[] #[]]).map (Q7 0 4))) (.agg #[YI ((Z7 rf).getD 0 La),YI ((Z7 rf).getD 1 La),YI ((Z7 rf).getD 2 La),YI ((Z7 rf).getD 3 La)]):=by
 have ZW:=QC (QB hr).1;have hle1:((rf.Qb.map (Ze rf.Qc)).map TN).length=rf.Qb.length:=by simp
 have hle2:((rf.Qb.map (Ze rf.Qc)).map TU).length=rf.Qb.length:=by simp
 have hle3:(rf.Qb.map (Ze rf.Qc)).length=rf.Qb.length:=by simp
 have hcc:∀k:Int,0<=k->k<rf.Qb.length->0<=(rf.Qb.getD k.toNat La).count/\(rf.Qb.getD k.toNat La).count<=1000000:=fun k h0 h1=>(Wl ((QB hr).2 k h0 h1).1).1
 exact(GoE.endsT okF hJ Qf GoE.start (z8 B rf Qa)
  ⟨(oh (fun _=>rfl) rfl (by omega) (by omega) rfl (YL rfl) rfl),⟨⟨trivial,zP (List.map (Ze rf.Qc) rf.Qb) (by omega)⟩,⟨⟨trivial,Bt (rf) (Qa) (by omega) (by omega) (by with_reducible assumption)⟩,trivial⟩⟩⟩).cast (by rfl)
theorem Bx(rf:Qo)(Qa:List Int)(hr:XG rf=true):Qr YP J0 75 #[.agg (QQ rf Qa).toArray,.func (.func 77) #[] #[]] (.agg #[YI ((Z7 rf).getD 0 La),YI ((Z7 rf).getD 1 La),YI ((Z7 rf).getD 2 La),YI ((Z7 rf).getD 3 La)]):=
 Xi (ts:=[.agg (QQ rf Qa).toArray,.func (.func 77) #[] #[]]) Za (c0:=Qx YP 75 13 (([.agg (QQ rf Qa).toArray,.func (.func 77) #[] #[]]).map (Q7 0 4))) (by kernel_rfl) (by kernel_rfl) fun B hJ=>CW rf Qa hr hJ
section
variable (rf:Qo)(Qa:List Int)(fa fb fc fd k:Int)
def Rj(fa fb fc fd k:Int):Qt:=[(3,Obj.cells #[YI 0,YI 0,YI 0,YI 0] 111),(2,Obj.cells #[YI fa,YI fb,YI fc,YI fd] 111),(1,Obj.cells #[Q2 0 (QH rf.Qb.length (Qe Qi rf.Qb)),YI rf.Qc,YI rf.Qd,YI (Qa.getD 0 0),YI (Qa.getD 1 0),YI (Qa.getD 2 0),YI (Qa.getD 3 0)] 84),(0,Obj.coro none)]
def TG:CF:=⟨98,ofList 28 [.agg #[Q2 0 (QH rf.Qb.length (Qe Qi rf.Qb)),YI rf.Qc,YI rf.Qd,YI (Qa.getD 0 0),YI (Qa.getD 1 0),YI (Qa.getD 2 0),YI (Qa.getD 3 0)],.agg #[YI fa,YI fb,YI fc,YI fd],YI k,Value.func (Fn.func 76) #[] #[],Value.func (Fn.func 77) #[] #[]],[Item.code (QG YP 98)],[],.run,none⟩
def mg:=(List.map TU (XU rf.Qb (Qa.getD k.toNat 0)))
def mf:=(List.map TN (List.map Zc rf.Qb))
def mh:Array Value:=let e:=QW (mf rf) (mg rf Qa k) rf.Qb {a:=fa,b:=fb,c:=fc,d:=fd};#[YI e.a,YI e.b,YI e.c,YI e.d]
def me:Array Value:=#[QH rf.Qb.length (Qe Qi rf.Qb),YI rf.Qc,YI rf.Qd,YI (Qa.getD 0 0),YI (Qa.getD 1 0),YI (Qa.getD 2 0),YI (Qa.getD 3 0)]
def md:Value:=(QH (Ld (XU rf.Qb (Qa.getD k.toNat 0))) (Qe Qk (XU rf.Qb (Qa.getD k.toNat 0))))
def mc:Value:=(QH (Ld (List.map Zc rf.Qb)) (Qe Qk (List.map Zc rf.Qb)))
theorem zA(B:Lo)(rf:Qo)(Qa:List Int)(fa fb fc fd k:Int):let h:=rf.Qc;let g:=rf.Qd;let f:=mf rf;let d:=mg rf Qa k;let c:=rf.Qb;let e:=List.map Zc c;let i:=List.map TN e;let b:=Value.slice none 0 0;let a:=XU c (Qa.getD k.toNat 0);let j:=List.map TU a;CE.finK 4 (Qq YP (Q6 YP) J0 B 10 4 (TG rf Qa fa fb fc fd k) (Rj rf Qa fa fb fc fd k) 4
 [(10,Qh.pure (mc rf) []),(12,Qh.pure (QH f.length (Qe Q0 f)) []),(15,Qh.pure (md rf Qa k) []),(17,Qh.pure (QH d.length (Qe Q0 d)) []),(18,Qh.wri [7] [9,11,0] [false] [] (jF c h g fa fb fc fd b b f d 0 0 0 0 0) (jE c h g fa fb fc fd b b f d 0 0 0 0 0) (jG c h g fa fb fc fd b b f d 0 0 0 0 0))] 0 [] []) [] [] []=some (OO.ret (.agg (mh rf Qa fa fb fc fd k)),[],[],
 [Q3 []/\Bu c h g (fa) (fb) (fc) (fd) b b i j (0) (0) (0) (0) (0),Q3 []/\Qr YP J0 97 #[QH a.length (Qe Qk a),Value.func (Fn.func 77) #[] #[]] (QH j.length (Qe Q0 j)),Q3 []/\Qr YP J0 84 #[.agg (me rf Qa),YI k] (md rf Qa k),Q3 []/\Qr YP J0 97 #[QH e.length (Qe Qk e),Value.func (Fn.func 76) #[] #[]] (QH i.length (Qe Q0 i)),Q3 []/\Qr YP J0 83 #[.agg (me rf Qa)] (mc rf)]):=by intro h g f d c e i b a j;kernel_rfl
theorem z9(B:Lo)(rf:Qo)(Qa:List Int)(fa fb fc fd k:Int):let a:=mh rf Qa fa fb fc fd k;Xq (Qq YP (Q6 YP) J0 B 6 1 (Qx YP 78 11 (([.agg (QQ rf Qa).toArray,.agg #[YI fa,YI fb,YI fc,YI fd],YI k]).map (Q7 0 4))) Zb 1
 [(6,Qh.call (Ll 4) (OO.ret (.agg a)) ([]++(4,X8)::X0 5 []) 5 [])] 0 [] []) []=some (.agg a,
 [FJ YP B (TG rf Qa fa fb fc fd k) (Rj rf Qa fa fb fc fd k) 4 (OO.ret (.agg a)) (([]++((4,X8)::X0 (4+1) []))++Rj rf Qa fa fb fc fd k) 5 (Ll 4) []]):=by intro a;kernel_rfl
end
set_option maxHeartbeats 4000000 in
theorem CX(rf:Qo)(Qa:List Int)(fa fb fc fd k:Int)(hr:XG rf=true)(hl:Qa.length<=4)(hp:∀j:Nat,0<=Qa.getD j 0/\Qa.getD j 0<=1000000)(k0:0<=k)(k1:k<4)(hf:Sr ⟨fa,fb,fc,fd⟩)(hs:F4.sum ⟨fa,fb,fc,fd⟩<=10000000000){B:Lo}(hJ:∀w,B.has w->J0 w):EndsT YP B (Qx YP 78 11 (([.agg (QQ rf Qa).toArray,.agg #[YI fa,YI fb,YI fc,YI fd],YI k]).map (Q7 0 4))) (.agg #[YI (QW (Ps rf) (Pf rf (Qa.getD k.toNat 0)) rf.Qb ⟨fa,fb,fc,fd⟩).a,YI (QW (Ps rf) (Pf rf (Qa.getD k.toNat 0)) rf.Qb ⟨fa,fb,fc,fd⟩).b,YI (QW (Ps rf) (Pf rf (Qa.getD k.toNat 0)) rf.Qb ⟨fa,fb,fc,fd⟩).c,YI (QW (Ps rf) (Pf rf (Qa.getD k.toNat 0)) rf.Qb ⟨fa,fb,fc,fd⟩).d]):=by
 have ZW:=QC (QB hr).1;have hpc:=zj hr;have hg1:K9 rf.Qb.length ((rf.Qb.map Zc).map TN) 2000:=(cf hr).1;have ht1:K9 rf.Qb.length ((XU rf.Qb (Qa.getD k.toNat 0)).map TU) 1000000:=(bt hr (Qa.getD k.toNat 0)).2;have hle1:(XU rf.Qb (Qa.getD k.toNat 0)).length=rf.Qb.length:=Uf;have hle2:(rf.Qb.map Zc).length=rf.Qb.length:=by simp
 have rj0:FJ YP B (TG rf Qa fa fb fc fd k) (Rj rf Qa fa fb fc fd k) 4 (OO.ret (.agg #[YI (F4.a (QW (List.map TN (List.map Zc rf.Qb)) (List.map TU (XU rf.Qb (Qa.getD k.toNat 0))) rf.Qb {a:=fa,b:=fb,c:=fc,d:=fd})),YI (F4.b (QW (List.map TN (List.map Zc rf.Qb)) (List.map TU (XU rf.Qb (Qa.getD k.toNat 0))) rf.Qb {a:=fa,b:=fb,c:=fc,d:=fd})),YI (F4.c (QW (List.map TN (List.map Zc rf.Qb)) (List.map TU (XU rf.Qb (Qa.getD k.toNat 0))) rf.Qb {a:=fa,b:=fb,c:=fc,d:=fd})),YI (F4.d (QW (List.map TN (List.map Zc rf.Qb)) (List.map TU (XU rf.Qb (Qa.getD k.toNat 0))) rf.Qb {a:=fa,b:=fb,c:=fc,d:=fd}))])) (([]++((4,X8)::X0 (4+1) []))++Rj rf Qa fa fb fc fd k) 5 (Ll 4) []:=by
  exact FinK.fjB (GoE.finK okF hJ Qf (QA (by kernel_rfl)) (Q4 (by kernel_rfl)) ((GoE.refl (P:=YP) (B:=B) (c0:=TG rf Qa fa fb fc fd k) (QA (by kernel_rfl))).widen (Wf:=((([]):List (Nat×KS)).map (·.1))) (by simp) (Q4 (by kernel_rfl))) (zA B rf Qa fa fb fc fd k)
   ⟨⟨trivial,MT rf.Qb rf.Qc rf.Qd (fa) (fb) (fc) (fd) (.slice none 0 0) (.slice none 0 0) (List.map TN (List.map Zc rf.Qb)) (List.map TU (XU rf.Qb (Qa.getD k.toNat 0))) (0) (0) (0) (0) (0) (by with_reducible assumption) (by with_reducible assumption) (by with_reducible assumption) (by with_reducible assumption) (by with_reducible assumption) (by omega) (by omega) (by omega)⟩,⟨⟨trivial,zP (XU rf.Qb (Qa.getD k.toNat 0)) (by omega)⟩,⟨⟨trivial,Gm (rf) (Qa) (k) (by omega) (by with_reducible assumption) (by with_reducible assumption) (by with_reducible assumption) (by with_reducible assumption)⟩,⟨⟨trivial,zO (List.map Zc rf.Qb) (by omega)⟩,⟨⟨trivial,Gz (rf) (Qa) (by omega)⟩,trivial⟩⟩⟩⟩⟩) (ex:=[]) (by kernel_rfl) (VG _)
 exact(GoE.endsT okF hJ Qf GoE.start (z9 B rf Qa fa fb fc fd k)
  ⟨rj0,trivial⟩).cast (by rfl)
theorem By(rf:Qo)(Qa:List Int)(fa fb fc fd k:Int)(hr:XG rf=true)(hl:Qa.length<=4)(hp:∀j:Nat,0<=Qa.getD j 0/\Qa.getD j 0<=1000000)(k0:0<=k)(k1:k<4)(hf:Sr ⟨fa,fb,fc,fd⟩)(hs:F4.sum ⟨fa,fb,fc,fd⟩<=10000000000):Qr YP J0 78 #[.agg (QQ rf Qa).toArray,.agg #[YI fa,YI fb,YI fc,YI fd],YI k] (.agg #[YI (QW (Ps rf) (Pf rf (Qa.getD k.toNat 0)) rf.Qb ⟨fa,fb,fc,fd⟩).a,YI (QW (Ps rf) (Pf rf (Qa.getD k.toNat 0)) rf.Qb ⟨fa,fb,fc,fd⟩).b,YI (QW (Ps rf) (Pf rf (Qa.getD k.toNat 0)) rf.Qb ⟨fa,fb,fc,fd⟩).c,YI (QW (Ps rf) (Pf rf (Qa.getD k.toNat 0)) rf.Qb ⟨fa,fb,fc,fd⟩).d]):=
 Xi (ts:=[.agg (QQ rf Qa).toArray,.agg #[YI fa,YI fb,YI fc,YI fd],YI k]) Za (c0:=Qx YP 78 11 (([.agg (QQ rf Qa).toArray,.agg #[YI fa,YI fb,YI fc,YI fd],YI k]).map (Q7 0 4))) (by kernel_rfl) (by kernel_rfl) fun B hJ=>CX rf Qa fa fb fc fd k hr hl hp k0 k1 hf hs hJ
section
variable (rf:Qo)(Qa:List Int)(fa fb fc fd k:Int)
def a6(fa fb fc fd k:Int):Qt:=[(3,Obj.cells #[YI 0,YI 0,YI 0,YI 0] 111),(2,Obj.cells #[YI fa,YI fb,YI fc,YI fd] 111),(1,Obj.cells #[Q2 0 (QH rf.Qb.length (Qe Qi rf.Qb)),YI rf.Qc,YI rf.Qd,YI (Qa.getD 0 0),YI (Qa.getD 1 0),YI (Qa.getD 2 0),YI (Qa.getD 3 0)] 84),(0,Obj.coro none)]
def eV:CF:=⟨98,ofList 28 [.agg #[Q2 0 (QH rf.Qb.length (Qe Qi rf.Qb)),YI rf.Qc,YI rf.Qd,YI (Qa.getD 0 0),YI (Qa.getD 1 0),YI (Qa.getD 2 0),YI (Qa.getD 3 0)],.agg #[YI fa,YI fb,YI fc,YI fd],YI k,Value.func (Fn.func 77) #[] #[],Value.func (Fn.func 76) #[] #[]],[Item.code (QG YP 98)],[],.run,none⟩
def u6:=(List.map TN (XU rf.Qb (Qa.getD k.toNat 0)))
def u5:=(List.map TU (List.map Zc rf.Qb))
def u7:Array Value:=let e:=QW (u5 rf) (u6 rf Qa k) rf.Qb {a:=fa,b:=fb,c:=fc,d:=fd};#[YI e.a,YI e.b,YI e.c,YI e.d]
def u4:Array Value:=#[QH rf.Qb.length (Qe Qi rf.Qb),YI rf.Qc,YI rf.Qd,YI (Qa.getD 0 0),YI (Qa.getD 1 0),YI (Qa.getD 2 0),YI (Qa.getD 3 0)]
def u3:Value:=(QH (Ld (XU rf.Qb (Qa.getD k.toNat 0))) (Qe Qk (XU rf.Qb (Qa.getD k.toNat 0))))
def u0:Value:=(QH (Ld (List.map Zc rf.Qb)) (Qe Qk (List.map Zc rf.Qb)))
theorem Gw(B:Lo)(rf:Qo)(Qa:List Int)(fa fb fc fd k:Int):let h:=rf.Qc;let g:=u5 rf;let f:=rf.Qd;let d:=u6 rf Qa k;let c:=rf.Qb;let e:=List.map Zc c;let i:=List.map TU e;let b:=Value.slice none 0 0;let a:=XU c (Qa.getD k.toNat 0);let j:=List.map TN a;CE.finK 4 (Qq YP (Q6 YP) J0 B 10 4 (eV rf Qa fa fb fc fd k) (a6 rf Qa fa fb fc fd k) 4
 [(10,Qh.pure (u0 rf) []),(12,Qh.pure (QH g.length (Qe Q0 g)) []),(15,Qh.pure (u3 rf Qa k) []),(17,Qh.pure (QH d.length (Qe Q0 d)) []),(18,Qh.wri [7] [9,11,0] [false] [] (jF c h f fa fb fc fd b b g d 0 0 0 0 0) (jE c h f fa fb fc fd b b g d 0 0 0 0 0) (jG c h f fa fb fc fd b b g d 0 0 0 0 0))] 0 [] []) [] [] []=some (OO.ret (.agg (u7 rf Qa fa fb fc fd k)),[],[],
 [Q3 []/\Bu c h f (fa) (fb) (fc) (fd) b b i j (0) (0) (0) (0) (0),Q3 []/\Qr YP J0 97 #[QH a.length (Qe Qk a),Value.func (Fn.func 76) #[] #[]] (QH j.length (Qe Q0 j)),Q3 []/\Qr YP J0 84 #[.agg (u4 rf Qa),YI k] (u3 rf Qa k),Q3 []/\Qr YP J0 97 #[QH e.length (Qe Qk e),Value.func (Fn.func 77) #[] #[]] (QH i.length (Qe Q0 i)),Q3 []/\Qr YP J0 83 #[.agg (u4 rf Qa)] (u0 rf)]):=by intro h g f d c e i b a j;kernel_rfl
theorem Gv(B:Lo)(rf:Qo)(Qa:List Int)(fa fb fc fd k:Int):let a:=u7 rf Qa fa fb fc fd k;Xq (Qq YP (Q6 YP) J0 B 6 1 (Qx YP 79 11 (([.agg (QQ rf Qa).toArray,.agg #[YI fa,YI fb,YI fc,YI fd],YI k]).map (Q7 0 4))) Zb 1
 [(6,Qh.call (Ll 4) (OO.ret (.agg a)) ([]++(4,X8)::X0 5 []) 5 [])] 0 [] []) []=some (.agg a,
 [FJ YP B (eV rf Qa fa fb fc fd k) (a6 rf Qa fa fb fc fd k) 4 (OO.ret (.agg a)) (([]++((4,X8)::X0 (4+1) []))++a6 rf Qa fa fb fc fd k) 5 (Ll 4) []]):=by intro a;kernel_rfl
end
set_option maxHeartbeats 4000000 in
theorem Mc(rf:Qo)(Qa:List Int)(fa fb fc fd k:Int)(hr:XG rf=true)(hl:Qa.length<=4)(hp:∀j:Nat,0<=Qa.getD j 0/\Qa.getD j 0<=1000000)(k0:0<=k)(k1:k<4)(hf:Sr ⟨fa,fb,fc,fd⟩)(hs:F4.sum ⟨fa,fb,fc,fd⟩<=10000000000){B:Lo}(hJ:∀w,B.has w->J0 w):EndsT YP B (Qx YP 79 11 (([.agg (QQ rf Qa).toArray,.agg #[YI fa,YI fb,YI fc,YI fd],YI k]).map (Q7 0 4))) (.agg #[YI (QW (Pu rf) (Pe rf (Qa.getD k.toNat 0)) rf.Qb ⟨fa,fb,fc,fd⟩).a,YI (QW (Pu rf) (Pe rf (Qa.getD k.toNat 0)) rf.Qb ⟨fa,fb,fc,fd⟩).b,YI (QW (Pu rf) (Pe rf (Qa.getD k.toNat 0)) rf.Qb ⟨fa,fb,fc,fd⟩).c,YI (QW (Pu rf) (Pe rf (Qa.getD k.toNat 0)) rf.Qb ⟨fa,fb,fc,fd⟩).d]):=by
 have ZW:=QC (QB hr).1;have hpc:=zj hr;have hg1:K9 rf.Qb.length ((rf.Qb.map Zc).map TU) 2000:=(cf hr).2;have ht1:K9 rf.Qb.length ((XU rf.Qb (Qa.getD k.toNat 0)).map TN) 1000000:=(bt hr (Qa.getD k.toNat 0)).1;have hle1:(XU rf.Qb (Qa.getD k.toNat 0)).length=rf.Qb.length:=Uf;have hle2:(rf.Qb.map Zc).length=rf.Qb.length:=by simp
 have rj0:FJ YP B (eV rf Qa fa fb fc fd k) (a6 rf Qa fa fb fc fd k) 4 (OO.ret (.agg #[YI (F4.a (QW (List.map TU (List.map Zc rf.Qb)) (List.map TN (XU rf.Qb (Qa.getD k.toNat 0))) rf.Qb {a:=fa,b:=fb,c:=fc,d:=fd})),YI (F4.b (QW (List.map TU (List.map Zc rf.Qb)) (List.map TN (XU rf.Qb (Qa.getD k.toNat 0))) rf.Qb {a:=fa,b:=fb,c:=fc,d:=fd})),YI (F4.c (QW (List.map TU (List.map Zc rf.Qb)) (List.map TN (XU rf.Qb (Qa.getD k.toNat 0))) rf.Qb {a:=fa,b:=fb,c:=fc,d:=fd})),YI (F4.d (QW (List.map TU (List.map Zc rf.Qb)) (List.map TN (XU rf.Qb (Qa.getD k.toNat 0))) rf.Qb {a:=fa,b:=fb,c:=fc,d:=fd}))])) (([]++((4,X8)::X0 (4+1) []))++a6 rf Qa fa fb fc fd k) 5 (Ll 4) []:=by
  exact FinK.fjB (GoE.finK okF hJ Qf (QA (by kernel_rfl)) (Q4 (by kernel_rfl)) ((GoE.refl (P:=YP) (B:=B) (c0:=eV rf Qa fa fb fc fd k) (QA (by kernel_rfl))).widen (Wf:=((([]):List (Nat×KS)).map (·.1))) (by simp) (Q4 (by kernel_rfl))) (Gw B rf Qa fa fb fc fd k)
   ⟨⟨trivial,MT rf.Qb rf.Qc rf.Qd (fa) (fb) (fc) (fd) (.slice none 0 0) (.slice none 0 0) (List.map TU (List.map Zc rf.Qb)) (List.map TN (XU rf.Qb (Qa.getD k.toNat 0))) (0) (0) (0) (0) (0) (by with_reducible assumption) (by with_reducible assumption) (by with_reducible assumption) (by with_reducible assumption) (by with_reducible assumption) (by omega) (by omega) (by omega)⟩,⟨⟨trivial,zO (XU rf.Qb (Qa.getD k.toNat 0)) (by omega)⟩,⟨⟨trivial,Gm (rf) (Qa) (k) (by omega) (by with_reducible assumption) (by with_reducible assumption) (by with_reducible assumption) (by with_reducible assumption)⟩,⟨⟨trivial,zP (List.map Zc rf.Qb) (by omega)⟩,⟨⟨trivial,Gz (rf) (Qa) (by omega)⟩,trivial⟩⟩⟩⟩⟩) (ex:=[]) (by kernel_rfl) (VG _)
 exact(GoE.endsT okF hJ Qf GoE.start (Gv B rf Qa fa fb fc fd k)
  ⟨rj0,trivial⟩).cast (by rfl)
theorem MU(rf:Qo)(Qa:List Int)(fa fb fc fd k:Int)(hr:XG rf=true)(hl:Qa.length<=4)(hp:∀j:Nat,0<=Qa.getD j 0/\Qa.getD j 0<=1000000)(k0:0<=k)(k1:k<4)(hf:Sr ⟨fa,fb,fc,fd⟩)(hs:F4.sum ⟨fa,fb,fc,fd⟩<=10000000000):Qr YP J0 79 #[.agg (QQ rf Qa).toArray,.agg #[YI fa,YI fb,YI fc,YI fd],YI k] (.agg #[YI (QW (Pu rf) (Pe rf (Qa.getD k.toNat 0)) rf.Qb ⟨fa,fb,fc,fd⟩).a,YI (QW (Pu rf) (Pe rf (Qa.getD k.toNat 0)) rf.Qb ⟨fa,fb,fc,fd⟩).b,YI (QW (Pu rf) (Pe rf (Qa.getD k.toNat 0)) rf.Qb ⟨fa,fb,fc,fd⟩).c,YI (QW (Pu rf) (Pe rf (Qa.getD k.toNat 0)) rf.Qb ⟨fa,fb,fc,fd⟩).d]):=
 Xi (ts:=[.agg (QQ rf Qa).toArray,.agg #[YI fa,YI fb,YI fc,YI fd],YI k]) Za (c0:=Qx YP 79 11 (([.agg (QQ rf Qa).toArray,.agg #[YI fa,YI fb,YI fc,YI fd],YI k]).map (Q7 0 4))) (by kernel_rfl) (by kernel_rfl) fun B hJ=>Mc rf Qa fa fb fc fd k hr hl hp k0 k1 hf hs hJ
end
end Go.Proofs.Ytncjjangllkokaa

namespace Go.Proofs.Ytncjjangllkokaa
open Go Go.CE Go.RowKit
noncomputable section
set_option maxRecDepth 100000
abbrev Zz(l:List Span):List Value:=[Sf l]
structure yd where
 z:Bool
 n:Nat
 l:List Span
deriving Inhabited
def encRSp(r:yd):List Value:=[bif r.z then .slice none 0 0 else QH r.n (Qe Qk r.l)]
def WN(rf:Qo):List (List Int):=Zn rf.Qd fun _=>Ps rf
def WO(rf:Qo):List (List Int):=Zn rf.Qd fun _=>Pu rf
def Vx(rf:Qo)(Qa:List Int):List (List Int):=Zn rf.Qd fun s=>Pe rf (Qa.getD s.toNat 0)
def Vy(rf:Qo)(Qa:List Int):List (List Int):=Zn rf.Qd fun s=>Pf rf (Qa.getD s.toNat 0)
def Wv(rf:Qo)(Qa:List Int)(k:Nat):F4:=ZA rf.Qb (WN rf) (Vy rf Qa) (Qj (Z6 rf)) k
section
variable (rf:Qo)(Qa:List Int)(i s k:Int)
def ZH(k:Nat):F4:=ZA rf.Qb (WO rf) (Vx rf Qa) (Qj (Z7 rf)) k
def Yg:Span:=⟨(Wv rf Qa (s.toNat+1)).at k,(ZH rf Qa (s.toNat+1)).at k⟩
def Xz:List Span:=Zn rf.Qb.length fun k=>Yg rf Qa s k
def JY:List yd:=Zn rf.Qd fun k=>if k<i then⟨false,rf.Qb.length,Xz rf Qa k⟩else⟨true,0,[]⟩
def Xj:List (List Span):=Zn rf.Qd fun k=>Xz rf Qa k
end
theorem oQ{l:List Int}(h:∀k:Int,0<=k->k<4->0<=nth l k/\nth l k<=4000000):Sr (Qj l)/\(Qj l).sum<=16000000:=by
 have a0:=h 0 (by omega) (by omega);have a1:=h 1 (by omega) (by omega);have a2:=h 2 (by omega) (by omega);have a3:=h 3 (by omega) (by omega);have es:(Qj l).sum=nth l 0+nth l 1+nth l 2+nth l 3:=rfl;exact⟨⟨⟨a0.1,a1.1,a2.1,a3.1⟩,by omega⟩,by omega⟩
theorem ML{rf:Qo}(hr:XG rf=true){g:Span->Int}(hg:∀s:Span,g s=s.lo\/g s=s.hi):∀k:Int,0<=k->k<4->0<=nth ((rf.Qb.map (Ze rf.Qc)).map g) k/\nth ((rf.Qb.map (Ze rf.Qc)).map g) k<=4000000:=fun k k0 k1=>by
 have hs:=QC (QB hr).1;by_cases hk:k<rf.Qb.length
 ·have hp:=Wl ((QB hr).2 k k0 hk).1;have hm:=Yy (a:=(rf.Qb.getD k.toNat La).count) (r:=rf.Qc) (by omega) (by omega);have hm2:(rf.Qb.getD k.toNat La).count*rf.Qc<=1000000*2000:=Int.mul_le_mul hp.1.2 hs.2.1.2 hs.2.1.1 (by omega);have e2:((rf.Qb.getD k.toNat La).count*rf.Qc).tdiv 1000=((rf.Qb.getD k.toNat La).count*rf.Qc) / 1000:=LP hm.1;rw[TL k0 hk];rcases hg (Ze rf.Qc (rf.Qb.getD k.toNat La))with e|e
  ·rw[e];simp only[Ze];omega
  ·rw[e];simp only[Ze,Wg];omega
 ·unfold nth;rw[Ly,LG (by simp;omega)];exact⟨LS _,by decide⟩
theorem H6{rf:Qo}(hr:XG rf=true){gs ts:List (List Int)}{l:List Int}(hg:gs.length=rf.Qd)(ht:ts.length=rf.Qd)(rg:∀k:Nat,k<rf.Qd->K9 rf.Qb.length (gs.getD k La) 2000)(rt:∀k:Nat,k<rf.Qd->K9 rf.Qb.length (ts.getD k La) 1000000)(hl:Sr (Qj l)/\(Qj l).sum<=16000000):OkT rf.Qb rf.Qd gs ts (Qj l):=by
 have hs:=QC (QB hr).1;exact⟨zj hr,by omega,by omega,by omega,hg,ht,rg,rt,hl.1,by omega⟩
theorem DH{rf:Qo}(hr:XG rf=true):Sr (Qj (Z6 rf))/\(Qj (Z6 rf)).sum<=16000000:=oQ (ML hr fun _=>.inl rfl)
theorem Ay{rf:Qo}(hr:XG rf=true):Sr (Qj (Z7 rf))/\(Qj (Z7 rf)).sum<=16000000:=oQ (ML hr fun _=>.inr rfl)
theorem gL{rf:Qo}(Qa:List Int)(hr:XG rf=true):OkT rf.Qb rf.Qd (WN rf) (Vy rf Qa) (Qj (Z6 rf)):=by
 have hs:=QC (QB hr).1;refine H6 hr (by rw[WN,Xd];omega) (by rw[Vy,Xd];omega) (fun k hk=> ?_) (fun k hk=> ?_) (DH hr)
 ·have e:(WN rf).getD k La=Ps rf:=Xf (k:=(k:Int)) (by omega) hk;rw[e];exact(cf hr).1
 ·have e:(Vy rf Qa).getD k La=Pf rf (Qa.getD ((k:Int)).toNat 0):=Xf (k:=(k:Int)) (by omega) hk;rw[e];exact(bt hr _).2
theorem jN{rf:Qo}(Qa:List Int)(hr:XG rf=true):OkT rf.Qb rf.Qd (WO rf) (Vx rf Qa) (Qj (Z7 rf)):=by
 have hs:=QC (QB hr).1;refine H6 hr (by rw[WO,Xd];omega) (by rw[Vx,Xd];omega) (fun k hk=> ?_) (fun k hk=> ?_) (Ay hr)
 ·have e:(WO rf).getD k La=Pu rf:=Xf (k:=(k:Int)) (by omega) hk;rw[e];exact(cf hr).2
 ·have e:(Vx rf Qa).getD k La=Pe rf (Qa.getD ((k:Int)).toNat 0):=Xf (k:=(k:Int)) (by omega) hk;rw[e];exact(bt hr _).1
theorem Ki{rf:Qo}{Qa:List Int}{i:Int}(h0:0<=i)(h:i<rf.Qd):Wv rf Qa (i+1).toNat=QW (Ps rf) (Pf rf (Qa.getD i.toNat 0)) rf.Qb (Wv rf Qa i.toNat):=by
 rw[show(i+1).toNat=i.toNat+1 by omega];show QW _ _ _ _=_;have e1:(WN rf).getD i.toNat La=Ps rf:=Xf h0 h;have e2:(Vy rf Qa).getD i.toNat La=Pf rf (Qa.getD i.toNat 0):=Xf h0 h;rw[e1,e2];rfl
theorem VN{rf:Qo}{Qa:List Int}{i:Int}(h0:0<=i)(h:i<rf.Qd):ZH rf Qa (i+1).toNat=QW (Pu rf) (Pe rf (Qa.getD i.toNat 0)) rf.Qb (ZH rf Qa i.toNat):=by
 rw[show(i+1).toNat=i.toNat+1 by omega];show QW _ _ _ _=_;have e1:(WO rf).getD i.toNat La=Pu rf:=Xf h0 h;have e2:(Vx rf Qa).getD i.toNat La=Pe rf (Qa.getD i.toNat 0):=Xf h0 h;rw[e1,e2];rfl
theorem oP{rf:Qo}{Qa:List Int}{i:Int}:(JY rf Qa i).length=rf.Qd.toNat:=Xd
theorem Io{rf:Qo}{Qa:List Int}:Lz rf.Qd.toNat ⟨true,0,[]⟩=JY rf Qa 0:=by
 unfold JY;refine List.ext_getElem? fun k=> ?_
 by_cases hk:k<rf.Qd.toNat
 ·rw[PD hk,if_neg (by omega),List.getElem?_replicate,if_pos hk]
 ·rw[LG (by simp;omega),LG (by rw[Xd];omega)]
theorem BT{rf:Qo}{Qa:List Int}{i:Int}(h0:0<=i)(h:i<rf.Qd):(JY rf Qa i).set i.toNat ⟨false,rf.Qb.length,Xz rf Qa i⟩=JY rf Qa (i+1):=by
 unfold JY;rw[Sz h0 h];refine XQ fun k g0 g1=> ?_
 by_cases e:k=i
 ·subst e;rw[if_pos rfl,if_pos (by omega)]
 ·rw[if_neg e];by_cases e2:k<i
  ·rw[if_pos e2,if_pos (by omega)]
  ·rw[if_neg e2,if_neg (by omega)]
theorem kK{rf:Qo}{Qa:List Int}{s:Int}:(Xz rf Qa s).length=rf.Qb.length:=by rw[Xz,Xd];omega
theorem th:∀(l:List Int) (g:Int->List Span) (n:Nat),(∀k∈l,(g k).length=n)->Qe encRSp (l.map fun k=>⟨false,n,g k⟩)=Qe Zz (l.map g)
 |[],_,_,_=>rfl
 |k::l,g,n,h=>by
  have ih:=th l g n fun k hk=>h k (Lt _ hk)
  have e:encRSp ⟨false,n,g k⟩=Zz (g k):=by show [QH n (Qe Qk (g k))]=_;rw[<-h k (List.mem_cons_self ..)]
  unfold Qe at ih ⊢;rw[List.map_cons,List.map_cons,LU,LU,e];apply Array.ext';have ih':=congrArg Array.toList ih;simp only at ih' ⊢;rw[ih']
theorem BU{rf:Qo}{Qa:List Int}{i:Int}(h:rf.Qd<=i):Qe encRSp (JY rf Qa i)=Qe Zz (Xj rf Qa):=by
 have e:JY rf Qa i=(UZ 0 rf.Qd).map fun k=>⟨false,rf.Qb.length,Xz rf Qa k⟩:=XQ fun k g0 g1=>by rw[if_pos (by omega)]
 rw[e];exact th _ _ _ fun k _=>kK
theorem Im{rf:Qo}{Qa:List Int}{ys:List yd}{i:Int}(ey:ys=JY rf Qa i)(h0:0<=i)(h:i<rf.Qd):(ys.getD i.toNat La).z=true:=by
 rw[ey];unfold JY;rw[Xf h0 h,if_neg (by omega)]
section
variable (B:Lo)(c0:CF)(rf:Qo)(Qa:List Int)(la lb lc ld ha hb hc hd:Int)(ys:List yd)(i j:Int)(zs:List Span)(zn:Nat)
def K4(Qa:List Int)(la lb lc ld ha hb hc hd:Int)(ys:List yd)(i:Int):List Value:=[pA 2 0,pA 3 0,pA 4 0,.slice (some {block:=5,off:=0}) (Lb rf.Qd) 1,YI rf.Qd,YI i]
def Uk(i:Int):List Obj:=[Obj.cells #[Q2 1 (QH rf.Qb.length (Qe Qi rf.Qb)),YI rf.Qc,YI rf.Qd,YI (Qa.getD 0 0),YI (Qa.getD 1 0),YI (Qa.getD 2 0),YI (Qa.getD 3 0)] 84,.cells #[YI la,YI lb,YI lc,YI ld] 111 (0,0),.cells #[YI ha,YI hb,YI hc,YI hd] 111 (0,0),.cells (Qe (pushE 1 encRSp) ys) 36 (0,0)]
def K5:List Item:=([.code [1,1,1,0,1,0,0],.inLoop [1,1,1,0,1,0,0],.inBlock 0,.code [1,1,1,1]]).map (it (QG YP 53))
def zb:Prop:=∃dJ:Nat->Value,(∀t,Xe (dJ t))/\GoE YP B c0 Zb 1 (Q9 53 56 (([1,3,4,5,18,19]:List Nat).zip (K4 rf Qa la lb lc ld ha hb hc hd ys i)) dJ K5) (Q8 (Uk rf Qa la lb lc ld ha hb hc hd ys i)) (2+(Uk rf Qa la lb lc ld ha hb hc hd ys i).length) []
def Rf(Qa:List Int)(la lb lc ld ha hb hc hd:Int)(ys:List yd)(i j:Int)(zs:List Span)(zn:Nat):List Value:=[pA 2 0,pA 3 0,pA 4 0,.slice (some {block:=5,off:=0}) (Lb rf.Qd) 1,YI i,YI rf.Qd,YI i,YI (↑rf.Qb.length:Int),YI j]
def YN(i j:Int)(zs:List Span)(zn:Nat):List Obj:=[Obj.cells #[Q2 1 (QH rf.Qb.length (Qe Qi rf.Qb)),YI rf.Qc,YI rf.Qd,YI (Qa.getD 0 0),YI (Qa.getD 1 0),YI (Qa.getD 2 0),YI (Qa.getD 3 0)] 84,.cells #[YI la,YI lb,YI lc,YI ld] 111 (0,0),.cells #[YI ha,YI hb,YI hc,YI hd] 111 (0,0),.cells (splice (Qe (pushE 1 encRSp) ys) (0+i.toNat*1) #[.slice (some ⟨6,0,none⟩) zn 2]) 36 (0,0),.cells (Qe Qk zs) 38 (0,0)]
def Rg:List Item:=([.code [1,1,1,0,1,0,0,1,1,0,0,1,1,1,0,0],.inLoop [1,1,1,0,1,0,0,1,1,0,0,1,1,1,0,0],.inBlock 2,.inBlock 1,.code [1,1,1,0,1,0,0,1,1,1],.inLoop [1,1,1,0,1,0,0],.inBlock 0,.code [1,1,1,1]]).map (it (QG YP 53))
def za:Prop:=∃dJ:Nat->Value,(∀t,Xe (dJ t))/\GoE YP B c0 Zb 1 (Q9 53 56 (([1,3,4,5,6,18,19,33,34]:List Nat).zip (Rf rf Qa la lb lc ld ha hb hc hd ys i j zs zn)) dJ Rg) (Q8 (YN rf Qa la lb lc ld ha hb hc hd ys i j zs zn)) (2+(YN rf Qa la lb lc ld ha hb hc hd ys i j zs zn).length) []
def T7:Array Value:=#[QH rf.Qb.length (Qe Qi rf.Qb),YI rf.Qc,YI rf.Qd,YI (Qa.getD 0 0),YI (Qa.getD 1 0),YI (Qa.getD 2 0),YI (Qa.getD 3 0)]
def yS:Array Value:=(Qe Qk (zs++[{lo:=Ql [la,lb,lc,ld] j.toNat,hi:=Ql [ha,hb,hc,hd] j.toNat}]))
def lB:Value:=(.agg #[YI (Le (Z6 rf) 0 La),YI (Le (Z6 rf) 1 La),YI (Le (Z6 rf) 2 La),YI (Le (Z6 rf) 3 La)])
def lA:Value:=(.agg #[YI (Le (Z7 rf) 0 La),YI (Le (Z7 rf) 1 La),YI (Le (Z7 rf) 2 La),YI (Le (Z7 rf) 3 La)])
def l9:Array Value:=#[.slice (some {block:=6,off:=0}) zn 2]
def cS  :Array Value:=#[.slice (some {block:=7,off:=0}) 1 2]
def yR:Array Value:=#[.slice (some {block:=8,off:=0}) (zn+1) 2]
def l8:Array Value:=(Qe (pushE 1 encRSp) (Lz (Lb rf.Qd) {z:=true,n:=0,l:=[]}))
def l7:Array Value:=(Qe (KE [.slice none 0 0]) (Lz (Lb rf.Qd) ()))
def l6:Array Value:=#[YI ha,YI hb,YI hc,YI hd]
def il:Array Value:=#[YI la,YI lb,YI lc,YI ld]
def uz  :Array Value:=#[.slice (some {block:=6,off:=0}) 1 2]
def cU(B:Lo)(rf:Qo)(Qa:List Int)(la lb lc ld ha hb hc hd:Int)(ys:List yd)(i:Int)(Qp:Nat->Value):List Prop:=let g:=Qa.getD i.toNat 0;let f:=QW (Ps rf) (Pf rf g) rf.Qb {a:=la,b:=lb,c:=lc,d:=ld};let e:=QW (Pu rf) (Pe rf g) rf.Qb {a:=ha,b:=hb,c:=hc,d:=hd};[Q3 []/\Qr YP J0 79 #[.agg (T7 rf Qa),.agg (l6 ha hb hc hd),YI i] (.agg #[YI e.a,YI e.b,YI e.c,YI e.d]),Q3 []/\Qr YP J0 78 #[.agg (T7 rf Qa),.agg (il la lb lc ld),YI i] (.agg #[YI f.a,YI f.b,YI f.c,YI f.d]),XA i rf.Qd=true]++([]:List Prop)
def lC(ys:List yd)(i:Int)(Qp:Nat->Value):QI:=let g:=Qa.getD i.toNat 0;let f:=QW (Pu rf) (Pe rf g) rf.Qb {a:=ha,b:=hb,c:=hc,d:=hd};let e:=QW (Ps rf) (Pf rf g) rf.Qb {a:=la,b:=lb,c:=lc,d:=ld};[(0,ZC),(6,Qh.pure (.agg #[YI e.a,YI e.b,YI e.c,YI e.d]) []),(10,Qh.pure (.agg #[YI f.a,YI f.b,YI f.c,YI f.d]) [])]
theorem yY(B:Lo)(rf:Qo)(Qa:List Int)(la lb lc ld ha hb hc hd:Int)(ys:List yd)(i:Int)(Qp:Nat->Value):let n:=rf.Qb;let k:=Uk rf Qa la lb lc ld ha hb hc hd ys i;let j:=Lb i;let h:=0+Lb i*1;let g:=Qe (pushE 1 encRSp) ys;let o:=splice g h uz;let f:=QW (Pu rf) (Pe rf (Qa.getD j 0)) n {a:=ha,b:=hb,c:=hc,d:=hd};let e:=QW (Ps rf) (Pf rf (Qa.getD j 0)) n {a:=la,b:=lb,c:=lc,d:=ld};let m:=[{lo:=e.a,hi:=f.a}];let l:=Qe Qk [{lo:=e.a,hi:=f.a}];landM (Qq YP (Q6 YP) J0 B 28 1 (Q9 53 56 (([1,3,4,5,18,19]:List Nat).zip (K4 rf Qa la lb lc ld ha hb hc hd ys i)) Qp K5) (Q8 k) (2+k.length)
 (lC rf Qa la lb lc ld ha hb hc hd ys i Qp++[(18,ZC),(25,Qh.Xs (Hint.idx j)),(26,Qh.Xs (Hint.ld (.slice none 0 0))),(36,Qh.Xs (Hint.idx j)),(37,Qh.Xs (Hint.st (splice g h cS)))]) 0 [] []) [1,3,4,5,6,18,19,33,34] [(2,KS.auto),(3,KS.auto),(4,KS.auto),(5,KS.rows [(1,1)] [] [(7,6)] o),(7,KS.cells [] l)] []=some ⟨53,56,Rg,[],.run,none,Rf rf Qa e.a e.b e.c e.d f.a f.b f.c f.d (ys) (i) (1) m (1),YN rf Qa e.a e.b e.c e.d f.a f.b f.c f.d (ys) (i) (1) m (1),
 [QX 1 [(1,1)] [] [(7,6)] (splice g h cS) o,Qv 1 [] (#[YI e.a,YI f.a]) l,0+Lb i*1+TypeInfo.size Try.t36<=LA g/\splice g h (Value.cells (XT {len:=16000,tr:=Tri.set 14 (Tri.set 14 Tri.lf 51 (.slice (some {block:=7,off:=0}) 1 2)) 52 (.pointer (some {block:=5,off:=0+Lb i*1}))} 51))=splice g h cS,i=(↑j:Int)/\Lb i<Lb rf.Qd,g[0+Lb i*1]? =some (.slice none 0 0),i=(↑j:Int)/\Lb i<Lb rf.Qd,XA 0 (↑n.length:Int)=true]++cU B rf Qa la lb lc ld ha hb hc hd ys i Qp⟩:=by intro n k j h g o f e m l;kernel_rfl
theorem yX(B:Lo)(rf:Qo)(Qa:List Int)(la lb lc ld ha hb hc hd:Int)(ys:List yd)(i:Int)(Qp:Nat->Value):let k:=Qa.getD i.toNat 0;let j:=rf.Qb;let h:=Uk rf Qa la lb lc ld ha hb hc hd ys i;let g:=Qe (pushE 1 encRSp) ys;let f:=QW (Pu rf) (Pe rf k) j {a:=ha,b:=hb,c:=hc,d:=hd};let e:=QW (Ps rf) (Pf rf k) j {a:=la,b:=lb,c:=lc,d:=ld};landM (Qq YP (Q6 YP) J0 B 23 1 (Q9 53 56 (([1,3,4,5,18,19]:List Nat).zip (K4 rf Qa la lb lc ld ha hb hc hd ys i)) Qp K5) (Q8 h) (2+h.length)
 (lC rf Qa la lb lc ld ha hb hc hd ys i Qp++[(18,Wi),(19,Z4 (i+1))]) 0 [] []) [1,3,4,5,18,19] [(2,KS.auto),(3,KS.auto),(4,KS.auto),(5,KS.rows [(1,1)] [] [] g)] []=some ⟨53,56,K5,[],.run,none,K4 rf Qa e.a e.b e.c e.d f.a f.b f.c f.d (ys) (i+1),Uk rf Qa e.a e.b e.c e.d f.a f.b f.c f.d (ys) (i+1),
 [QX 1 [(1,1)] [] [] g g,wq (i+1)=i+1,XA 0 (↑j.length:Int)=false]++cU B rf Qa la lb lc ld ha hb hc hd ys i Qp⟩:=by intro k j h g f e;kernel_rfl
theorem yW(B:Lo)(rf:Qo)(Qa:List Int)(la lb lc ld ha hb hc hd:Int)(ys:List yd)(i:Int)(Qp:Nat->Value):let b:=Uk rf Qa la lb lc ld ha hb hc hd ys i;let a:=Fz.cs {k:=5,rs:=[1],cs:=Qe encRSp ys};Xq (Qq YP (Q6 YP) J0 B 9 1 (Q9 53 56 (([1,3,4,5,18,19]:List Nat).zip (K4 rf Qa la lb lc ld ha hb hc hd ys i)) Qp K5) (Q8 b) (2+b.length)
 [(0,Wi)] 0 [] []) [{k:=5,rs:=[1],cs:=Qe encRSp ys}]=some (QH (Lb rf.Qd) a,
 [X4 (Fz.rs {k:=5,rs:=[1],cs:=Qe encRSp ys}) (Qe (pushE 1 encRSp) ys) a,XA i rf.Qd=false]):=by intro b a;kernel_rfl
theorem yV(B:Lo)(rf:Qo)(Qa:List Int)(la lb lc ld ha hb hc hd:Int)(ys:List yd)(i j:Int)(zs:List Span)(zn:Nat)(Qp:Nat->Value):let o:=yR zn;let n:=Lb i;let g:=YN rf Qa la lb lc ld ha hb hc hd ys i j zs zn;let e:=some {block:=6,off:=0};let d:=Lb j;let l:=Ql [ha,hb,hc,hd] d;let k:=Ql [la,lb,lc,ld] d;let p:=YI k;let f:=zs++[{lo:=Ql [la,lb,lc,ld] d,hi:=Ql [ha,hb,hc,hd] d}];let c:=0+Lb i*1;let b:=yS la lb lc ld ha hb hc hd j zs;let a:=Qe (pushE 1 encRSp) ys;let m:=splice a c #[.slice e (zn+1) 2];let h:=splice a c (l9 zn);landM (Qq YP (Q6 YP) J0 B 13 1 (Q9 53 56 (([1,3,4,5,6,18,19,33,34]:List Nat).zip (Rf rf Qa la lb lc ld ha hb hc hd ys i j zs zn)) Qp Rg) (Q8 g) (2+g.length)
 [(0,ZC),(7,Qh.Xs (Hint.idx n)),(8,Qh.Xs (Hint.ld (.slice e zn 2))),(10,Qh.Xs (Hint.idx d)),(11,Qh.Xs (Hint.ld p)),(13,Qh.Xs (Hint.idx d)),(14,Qh.Xs (Hint.ld (YI l))),(17,Qh.Xs (Hint.app b)),(18,Qh.Xs (Hint.idx n)),(19,Qh.Xs (Hint.st (splice a c o))),(20,Z4 (j+1))] 0 [] []) [1,3,4,5,6,18,19,33,34] [(2,KS.auto),(3,KS.auto),(4,KS.auto),(5,KS.rows [(1,1)] [] [(8,6)] m),(8,KS.cells [] b)] []=some ⟨53,56,Rg,[],.run,none,Rf rf Qa (la) (lb) (lc) (ld) (ha) (hb) (hc) (hd) (ys) (i) (j+1) f (zn+1),YN rf Qa (la) (lb) (lc) (ld) (ha) (hb) (hc) (hd) (ys) (i) (j+1) f (zn+1),
 [QX 1 [(1,1)] [] [(8,6)] (splice a c o) m,Qv 1 [] b b,wq (j+1)=j+1,0+Lb i*1+TypeInfo.size Try.t36<=LA h/\splice h c (Value.cells (XT {len:=16000,tr:=Tri.set 14 (Tri.set 14 Tri.lf 51 (.slice (some {block:=8,off:=0}) (zn+1) 2)) 52 (.pointer (some {block:=5,off:=0+Lb i*1}))} 51))=splice a c o,i=(↑n:Int)/\Lb i<Lb rf.Qd,Pz (Qe Qk zs) #[YI k,YI l] b zn (1+1) 16,(l6 ha hb hc hd)[0+Lb j*1]? =some (YI l),j=(↑d:Int)/\Lb j<4,(il la lb lc ld)[0+Lb j*1]? =some p,j=(↑d:Int)/\Lb j<4,h[0+Lb i*1]? =some (.slice e zn 2),i=(↑n:Int)/\Lb i<Lb rf.Qd,XA j (↑rf.Qb.length:Int)=true]⟩:=by intro o n g e d l k p f c b a m h;kernel_rfl
theorem yU(B:Lo)(rf:Qo)(Qa:List Int)(la lb lc ld ha hb hc hd:Int)(ys:List yd)(i j:Int)(zs:List Span)(zn:Nat)(Qp:Nat->Value):let c:=pushE 1 encRSp;let b:=YN rf Qa la lb lc ld ha hb hc hd ys i j zs zn;let a:=LC ys i.toNat {z:=false,n:=zn,l:=zs};landM (Qq YP (Q6 YP) J0 B 8 1 (Q9 53 56 (([1,3,4,5,6,18,19,33,34]:List Nat).zip (Rf rf Qa la lb lc ld ha hb hc hd ys i j zs zn)) Qp Rg) (Q8 b) (2+b.length)
 [(0,Wi),(1,Z4 (i+1))] 0 [] []) [1,3,4,5,18,19] [(2,KS.auto),(3,KS.auto),(4,KS.auto),(5,KS.rows [(1,1)] [6] [] (Qe c a))] [{k:=6,rs:=[],cs:=Qe Qk zs}]=some ⟨53,56,K5,[],.run,none,K4 rf Qa (la) (lb) (lc) (ld) (ha) (hb) (hc) (hd) a (i+1),Uk rf Qa (la) (lb) (lc) (ld) (ha) (hb) (hc) (hd) a (i+1),
 [QX 1 [(1,1)] [(6,Fz.cs {k:=6,rs:=[],cs:=Qe Qk zs})] [] (splice (Qe c ys) (0+Lb i*1) (l9 zn)) (Qe c a),X4 (Fz.rs {k:=6,rs:=[],cs:=Qe Qk zs}) (Qe Qk zs) (Fz.cs {k:=6,rs:=[],cs:=Qe Qk zs}),wq (i+1)=i+1,XA j (↑rf.Qb.length:Int)=false]⟩:=by intro c b a;kernel_rfl
theorem yT(B:Lo)(rf:Qo)(Qa:List Int):let k:=Le (Z7 rf) 3 La;let j:=Le (Z7 rf) 2 La;let i:=Le (Z7 rf) 1 La;let h:=Le (Z7 rf) 0 La;let g:=Le (Z6 rf) 3 La;let f:=Le (Z6 rf) 2 La;let e:=Le (Z6 rf) 1 La;let d:=Le (Z6 rf) 0 La;let a:=rf.Qd;let m:=Lb a;let c:=Lz m {z:=true,n:=0,l:=[]};let b:=XT {len:=16000,tr:=Tri.set 14 Tri.lf 14 (YI a)} 14;landM (Qq YP (Q6 YP) J0 B 11 1 (Qx YP 53 56 (([.agg (QQ rf Qa).toArray]).map (Q7 0 4))) Zb 1
 [(3,Qh.pure (lB rf) []),(5,Qh.pure (lA rf) []),(13,Qh.Xs (Hint.mk m (l7 rf)))] 0 [] []) [1,3,4,5,18,19] [(1,KS.auto),(2,KS.auto),(3,KS.auto),(4,KS.rows [] [] [] (l8 rf))] []=some ⟨53,56,K5,[],.run,none,K4 rf Qa d e f g h i j k c (0),Uk rf Qa d e f g h i j k c (0),
 [QX 1 [] [] [] (l7 rf) (l8 rf),Tg YP 30 b b=some (36,Qe (KE [.slice none 0 0]) (Lz m ()),Lb a,TypeInfo.size Try.t36),Q3 []/\Qr YP J0 75 #[.agg (T7 rf Qa),Value.func (Fn.func 77) #[] #[]] (lA rf),Q3 []/\Qr YP J0 75 #[.agg (T7 rf Qa),Value.func (Fn.func 76) #[] #[]] (lB rf)]⟩:=by intro k j i h g f e d a m c b;kernel_rfl
end
set_option maxHeartbeats 4000000 in
theorem yZ(rf:Qo)(Qa:List Int)(hr:XG rf=true)(hl:Qa.length<=4)(hp:∀j:Nat,0<=Qa.getD j 0/\Qa.getD j 0<=1000000){B:Lo}(hJ:∀w,B.has w->J0 w){c0:CF}:∀m:Nat,(∀(la lb lc ld ha hb hc hd:Int) (ys:List yd) (i:Int),100*(rf.Qd-i).toNat=m->∀(h0:0<=i) (h1:i<=rf.Qd) (el:(⟨la,lb,lc,ld⟩:F4)=Wv rf Qa i.toNat) (eh:(⟨ha,hb,hc,hd⟩:F4)=ZH rf Qa i.toNat) (ey:ys=JY rf Qa i),zb B c0 rf Qa la lb lc ld ha hb hc hd ys i->EndsT YP B c0 (QH (Xj rf Qa).length (Qe Zz (Xj rf Qa))))/\(∀(la lb lc ld ha hb hc hd:Int) (ys:List yd) (i j:Int) (zs:List Span) (zn:Nat),100*(rf.Qd-i).toNat-99+(rf.Qb.length-j.toNat)=m->∀(h0:0<=i) (h1:i<rf.Qd) (j0:1<=j) (j1:j<=rf.Qb.length) (hz:zn=zs.length) (hzb:(zn:Int)=j) (ez:zs=(UZ 0 j).map (Yg rf Qa i)) (el:(⟨la,lb,lc,ld⟩:F4)=Wv rf Qa (i+1).toNat) (eh:(⟨ha,hb,hc,hd⟩:F4)=ZH rf Qa (i+1).toNat) (ey:ys=JY rf Qa i),za B c0 rf Qa la lb lc ld ha hb hc hd ys i j zs zn->EndsT YP B c0 (QH (Xj rf Qa).length (Qe Zz (Xj rf Qa)))):=by
 intro m0;induction m0 using LB with
 |_ m0 ih0=>
  refine⟨?_, ?_⟩
  ·intro la lb lc ld ha hb hc hd ys i UX h0 h1 el eh ey ⟨Qp,Zr,Xo⟩;have ZW:=QC (QB hr).1;have hok1:=gL Qa hr;have hok2:=jN Qa hr;have hyl:ys.length=rf.Qd.toNat:=by rw[ey];exact oP
   have hst1:=hok1.st i.toNat (by omega);have hst2:=hok2.st i.toNat (by omega);have hf1:Sr ⟨la,lb,lc,ld⟩:=by rw[el];exact hst1.1
   have hf2:Sr ⟨ha,hb,hc,hd⟩:=by rw[eh];exact hst2.1
   have hss1:=hok1.hs;have hss2:=hok2.hs;have hs1:F4.sum ⟨la,lb,lc,ld⟩<=10000000000:=by rw[el];have:=hst1.2;unfold Wv;omega
   have hs2:F4.sum ⟨ha,hb,hc,hd⟩<=10000000000:=by rw[eh];have:=hst2.2;unfold ZH;omega
   have hti:(i+1).toNat=i.toNat+1:=by omega
   by_cases q0:(i:Int)<rf.Qd
   ·have Uc:Q3 (cU B rf Qa la lb lc ld ha hb hc hd ys i Qp):=by
     have JV:=Ki (Qa:=Qa) h0 q0;have hn2:=VN (Qa:=Qa) h0 q0;rw[<-el]at JV;rw[<-eh]at hn2;exact⟨⟨trivial,MU (rf) (Qa) (ha) (hb) (hc) (hd) (i) (by with_reducible assumption) (by with_reducible assumption) (by with_reducible assumption) (by with_reducible assumption) (by omega) (by with_reducible assumption) (by with_reducible assumption)⟩,⟨⟨trivial,By (rf) (Qa) (la) (lb) (lc) (ld) (i) (by with_reducible assumption) (by with_reducible assumption) (by with_reducible assumption) (by with_reducible assumption) (by omega) (by with_reducible assumption) (by with_reducible assumption)⟩,⟨(Xh q0),trivial⟩⟩⟩
    by_cases q1:(0:Int)<((↑rf.Qb.length:Int))
    ·cases q2:yd.z (ys.getD i.toNat La)with
     |true=>
      have JV:=Ki (Qa:=Qa) h0 q0;have hn2:=VN (Qa:=Qa) h0 q0;rw[<-el]at JV;rw[<-eh]at hn2;exact((ih0 _ (by omega)).2 (F4.a (QW (Ps rf) (Pf rf (Qa.getD i.toNat 0)) rf.Qb {a:=la,b:=lb,c:=lc,d:=ld})) (F4.b (QW (Ps rf) (Pf rf (Qa.getD i.toNat 0)) rf.Qb {a:=la,b:=lb,c:=lc,d:=ld})) (F4.c (QW (Ps rf) (Pf rf (Qa.getD i.toNat 0)) rf.Qb {a:=la,b:=lb,c:=lc,d:=ld})) (F4.d (QW (Ps rf) (Pf rf (Qa.getD i.toNat 0)) rf.Qb {a:=la,b:=lb,c:=lc,d:=ld})) (F4.a (QW (Pu rf) (Pe rf (Qa.getD i.toNat 0)) rf.Qb {a:=ha,b:=hb,c:=hc,d:=hd})) (F4.b (QW (Pu rf) (Pe rf (Qa.getD i.toNat 0)) rf.Qb {a:=ha,b:=hb,c:=hc,d:=hd})) (F4.c (QW (Pu rf) (Pe rf (Qa.getD i.toNat 0)) rf.Qb {a:=ha,b:=hb,c:=hc,d:=hd})) (F4.d (QW (Pu rf) (Pe rf (Qa.getD i.toNat 0)) rf.Qb {a:=ha,b:=hb,c:=hc,d:=hd})) (ys) (i) (1) ([{lo:=F4.a (QW (Ps rf) (Pf rf (Qa.getD i.toNat 0)) rf.Qb {a:=la,b:=lb,c:=lc,d:=ld}),hi:=F4.a (QW (Pu rf) (Pe rf (Qa.getD i.toNat 0)) rf.Qb {a:=ha,b:=hb,c:=hc,d:=hd})}]) (1) rfl (by with_reducible assumption) (by with_reducible assumption) (by omega) (by omega) (by rfl) (by omega) (by(show _=[Yg rf Qa i 0];unfold Yg;rw[<-hti,JV,hn2];rfl)) (by exact JV.symm) (by exact hn2.symm) (by with_reducible assumption)
       (Xo.landM okF hJ Qf (yY B rf Qa la lb lc ld ha hb hc hd ys i Qp)
       (by exact⟨(by exact(iR (QM (Xb (by(intro x_;rcases x_ with ⟨_|_,_,_⟩ <;> rfl))) (Lg _)) (by exact⟨.keep (Lg _),trivial⟩))),⟨(Xm (by kernel_rfl)),⟨⟨(by exact kL (z:=1) (k:=Lb i) (fun _=>rfl) (by first|omega|(rw[LJ];omega)|(rw[Lv];omega)) rfl),rfl⟩,⟨⟨by omega,by omega⟩,⟨(by exact ZL (z:=1) (j:=0) (k:=Lb i) (fun _=>rfl) (by omega) (by(simp only[Go.CE.pushE,Go.Proofs.Ytncjjangllkokaa.encRSp,q2];rfl))),⟨⟨by omega,by omega⟩,⟨(Xh q1),Uc⟩⟩⟩⟩⟩⟩⟩) (by kernel_rfl) (by kernel_rfl))).cast (by rfl)
     |false=>
      exfalso
      (exact Bool.noConfusion ((Im ey h0 (by omega)).symm.trans ‹(ys.getD i.toNat La).z=false›))
    ·have JV:=Ki (Qa:=Qa) h0 q0;have hn2:=VN (Qa:=Qa) h0 q0;rw[<-el]at JV;rw[<-eh]at hn2;exact((ih0 _ (by omega)).1 (F4.a (QW (Ps rf) (Pf rf (Qa.getD i.toNat 0)) rf.Qb {a:=la,b:=lb,c:=lc,d:=ld})) (F4.b (QW (Ps rf) (Pf rf (Qa.getD i.toNat 0)) rf.Qb {a:=la,b:=lb,c:=lc,d:=ld})) (F4.c (QW (Ps rf) (Pf rf (Qa.getD i.toNat 0)) rf.Qb {a:=la,b:=lb,c:=lc,d:=ld})) (F4.d (QW (Ps rf) (Pf rf (Qa.getD i.toNat 0)) rf.Qb {a:=la,b:=lb,c:=lc,d:=ld})) (F4.a (QW (Pu rf) (Pe rf (Qa.getD i.toNat 0)) rf.Qb {a:=ha,b:=hb,c:=hc,d:=hd})) (F4.b (QW (Pu rf) (Pe rf (Qa.getD i.toNat 0)) rf.Qb {a:=ha,b:=hb,c:=hc,d:=hd})) (F4.c (QW (Pu rf) (Pe rf (Qa.getD i.toNat 0)) rf.Qb {a:=ha,b:=hb,c:=hc,d:=hd})) (F4.d (QW (Pu rf) (Pe rf (Qa.getD i.toNat 0)) rf.Qb {a:=ha,b:=hb,c:=hc,d:=hd})) (ys) (i+1) rfl (by omega) (by omega) (by omega) (by omega) (by omega)
      (Xo.landM okF hJ Qf (yX B rf Qa la lb lc ld ha hb hc hd ys i Qp)
      (by exact⟨(by exact(QM (Xb (by(intro x_;rcases x_ with ⟨_|_,_,_⟩ <;> rfl))) (Lg _))),⟨(QP (by omega) (by omega)),⟨(X7 (Int.not_lt.1 q1)),Uc⟩⟩⟩) (by kernel_rfl) (by kernel_rfl))).cast (by rfl)
   ·exact(GoE.endsT okF hJ Qf Xo (yW B rf Qa la lb lc ld ha hb hc hd ys i Qp)
     ⟨(ZE (Xb (by(intro x_;rcases x_ with ⟨_|_,_,_⟩ <;> rfl))) (Lg _)),⟨(X7 (Int.not_lt.1 q0)),trivial⟩⟩).cast (by(show QH rf.Qd.toNat (Qe encRSp ys)=_;rw[show(Xj rf Qa).length=rf.Qd.toNat from Xd,<-BU (i:=i) (by omega),<-ey]))
  ·intro la lb lc ld ha hb hc hd ys i j zs zn UX h0 h1 j0 j1 hz hzb ez el eh ey ⟨Qp,Zr,Xo⟩;have ZW:=QC (QB hr).1;have hyl:ys.length=rf.Qd.toNat:=by rw[ey];exact oP
   have hsel1:Ql [la,lb,lc,ld] j.toNat=F4.at (Wv rf Qa (i+1).toNat) j:=by rw[<-el];rfl
   have hsel2:Ql [ha,hb,hc,hd] j.toNat=F4.at (ZH rf Qa (i+1).toNat) j:=by rw[<-eh];rfl
   have hti:(i+1).toNat=i.toNat+1:=by omega
   by_cases q0:(j:Int)<((↑rf.Qb.length:Int))
   ·exact((ih0 _ (by omega)).2 (la) (lb) (lc) (ld) (ha) (hb) (hc) (hd) (ys) (i) (j+1) (zs++[{lo:=Ql [la,lb,lc,ld] j.toNat,hi:=Ql [ha,hb,hc,hd] j.toNat}]) (zn+1) rfl (by with_reducible assumption) (by with_reducible assumption) (by omega) (by omega) (by(rw[Lh];simp;omega)) (by omega) (by(rw[Ue (by omega),LZ,<-ez,hsel1,hsel2,hti];rfl)) (by with_reducible assumption) (by with_reducible assumption) (by with_reducible assumption)
     (Xo.landM okF hJ Qf (yV B rf Qa la lb lc ld ha hb hc hd ys i j zs zn Qp)
     (by exact⟨(by exact(iR (QM (Xb (by(intro x_;rcases x_ with ⟨_|_,_,_⟩ <;> rfl))) (Lg _)) (by exact⟨.keep (Lg _),trivial⟩))),⟨(XI fun _=>by rfl),⟨(QP (by omega) (by omega)),⟨(BX (by exact Nat.lt_of_succ_le (kL (z:=1) (z':=1) (fun _=>rfl) (by first|omega|(rw[LJ];omega)|(rw[Lv];omega)) rfl))),⟨⟨by omega,by omega⟩,⟨⟨(by(rw[QT (z:=2) (fun _=>rfl)];first|omega|(simp;omega)|(simp_all;done))),(by unfold maxLen;omega),by omega,by first|exact Xv|exact Xl rfl⟩,⟨(Z8 rfl (Ls (m:=4) (by omega) rfl)),⟨⟨by omega,by omega⟩,⟨(Z8 rfl (Ls (m:=4) (by omega) rfl)),⟨⟨by omega,by omega⟩,⟨(BY (by exact Nat.lt_of_succ_le (kL (z:=1) (z':=1) (fun _=>rfl) (by first|omega|(rw[LJ];omega)|(rw[Lv];omega)) rfl))),⟨⟨by omega,by omega⟩,⟨(Xh q0),trivial⟩⟩⟩⟩⟩⟩⟩⟩⟩⟩⟩⟩⟩) (by kernel_rfl) (by kernel_rfl))).cast (by rfl)
   ·have hse:=BT (Qa:=Qa) h0 h1;exact((ih0 _ (by omega)).1 (la) (lb) (lc) (ld) (ha) (hb) (hc) (hd) (LC ys i.toNat {z:=false,n:=zn,l:=zs}) (i+1) rfl (by omega) (by omega) (by with_reducible assumption) (by with_reducible assumption) (by(rw[ey,show zn=rf.Qb.length by omega,ez,show j=rf.Qb.length by omega];exact hse))
     (Xo.landM okF hJ Qf (yU B rf Qa la lb lc ld ha hb hc hd ys i j zs zn Qp)
     (by exact⟨(by exact(xS (z:=1) (k:=Lb i) (fun _=>rfl) (QM (Xb (by(intro x_;rcases x_ with ⟨_|_,_,_⟩ <;> rfl))) (Lg _)) (by omega) (by exact⟨(.own (Lg _)),trivial⟩))),⟨(Xg (fun x=>List.all_eq_true.1 (by rfl))),⟨(QP (by omega) (by omega)),⟨(X7 (Int.not_lt.1 q0)),trivial⟩⟩⟩⟩) (by kernel_rfl) (by kernel_rfl))).cast (by rfl)
set_option maxHeartbeats 4000000 in
theorem CC(rf:Qo)(Qa:List Int)(hr:XG rf=true)(hl:Qa.length<=4)(hp:∀j:Nat,0<=Qa.getD j 0/\Qa.getD j 0<=1000000){B:Lo}(hJ:∀w,B.has w->J0 w):EndsT YP B (Qx YP 53 56 (([.agg (QQ rf Qa).toArray]).map (Q7 0 4))) (QH (Xj rf Qa).length (Qe Zz (Xj rf Qa))):=by
 have ZW:=QC (QB hr).1;exact((yZ rf Qa hr hl hp hJ _).1 (Le (Z6 rf) 0 La) (Le (Z6 rf) 1 La) (Le (Z6 rf) 2 La) (Le (Z6 rf) 3 La) (Le (Z7 rf) 0 La) (Le (Z7 rf) 1 La) (Le (Z7 rf) 2 La) (Le (Z7 rf) 3 La) (Lz (Lb rf.Qd) {z:=true,n:=0,l:=[]}) (0) rfl (by omega) (by omega) (by rfl) (by rfl) (by exact Io)
  (GoE.start.landM okF hJ Qf (yT B rf Qa)
  (by exact⟨(by exact(UM (by exact⟨(.simple rfl),trivial⟩) _)),⟨(gX (bytes:=24) (by kernel_rfl) (by omega) (by omega) (by omega)),⟨⟨trivial,Bx (rf) (Qa) (by with_reducible assumption)⟩,⟨⟨trivial,Bw (rf) (Qa) (by with_reducible assumption)⟩,trivial⟩⟩⟩⟩) (by kernel_rfl) (by kernel_rfl))).cast (by rfl)
theorem Ma(rf:Qo)(Qa:List Int)(hr:XG rf=true)(hl:Qa.length<=4)(hp:∀j:Nat,0<=Qa.getD j 0/\Qa.getD j 0<=1000000):Qr YP J0 53 #[.agg (QQ rf Qa).toArray] (QH (Xj rf Qa).length (Qe Zz (Xj rf Qa))):=
 Xi (ts:=[.agg (QQ rf Qa).toArray]) Za (c0:=Qx YP 53 56 (([.agg (QQ rf Qa).toArray]).map (Q7 0 4))) (by kernel_rfl) (by kernel_rfl) fun B hJ=>CC rf Qa hr hl hp hJ
end
end Go.Proofs.Ytncjjangllkokaa

namespace Go.Proofs.Ytncjjangllkokaa
open Go Go.CE Go.RowKit
noncomputable section
abbrev Wq(xs:List (List Span)):Value:=QH xs.length (Qe Zz xs)
def zH(rf:Qo)(Qa:List Int):Array Value:=#[QH rf.Qb.length (Qe Qi rf.Qb),YI rf.Qc,YI rf.Qd,YI (Qa.getD 0 0),YI (Qa.getD 1 0),YI (Qa.getD 2 0),YI (Qa.getD 3 0)]
def dg(rf:Qo):Array Value:=#[QH rf.Qb.length (Qe Qi rf.Qb),YI rf.Qc,YI rf.Qd]
def de(rf:Qo)(Qa:List Int):Array Value:=#[.agg (dg rf),QH Qa.length (Qe Q0 Qa)]
def dh(B:Lo)(rf:Qo)(Qa:List Int):List Prop:=[Q3 []/\Qr YP J0 50 #[.agg (dg rf)] (.bool true)]++([]:List Prop)
def mw(rf:Qo)(Qa:List Int):QI:=[(4,Qh.pure (.bool true) [])]
set_option maxRecDepth 100000 in
theorem zK(B:Lo)(rf:Qo)(Qa:List Int):let b:=zH rf Qa;let a:=Xj rf Qa;let c:=QH a.length (Qe Zz a);Xq (Qq YP (Q6 YP) J0 B 11 1 (Qx YP 18 19 (([.agg (Q1 rf).toArray,Zk Qa]).map (Q7 0 4))) Zb 1
 (mw rf Qa++[(9,Qh.pure (.bool true) []),(14,Qh.pure (.agg b) []),(15,Qh.pure c [])]) 0 [] []) []=some (.tuple #[QH a.length (Qe Zz a),YI 0],
 [Q3 []/\Qr YP J0 53 #[.agg b] c,Q3 []/\Qr YP J0 52 (de rf Qa) (.agg b),Q3 []/\Qr YP J0 51 (de rf Qa) (.bool true)]++dh B rf Qa):=by intro b a c;kernel_rfl
set_option maxRecDepth 100000 in
theorem zJ(B:Lo)(rf:Qo)(Qa:List Int):Xq (Qq YP (Q6 YP) J0 B 10 1 (Qx YP 18 19 (([.agg (Q1 rf).toArray,Zk Qa]).map (Q7 0 4))) Zb 1
 (mw rf Qa++[(9,Qh.pure (.bool false) [])]) 0 [] []) []=some (.tuple #[QH 0 #[],YI 2],
 [Q3 []/\Qr YP J0 51 (de rf Qa) (.bool false)]++dh B rf Qa):=by kernel_rfl
set_option maxRecDepth 100000 in
theorem zI(B:Lo)(rf:Qo)(Qa:List Int):Xq (Qq YP (Q6 YP) J0 B 10 1 (Qx YP 18 19 (([.agg (Q1 rf).toArray,Zk Qa]).map (Q7 0 4))) Zb 1
 [(4,Qh.pure (.bool false) [])] 0 [] []) []=some (.tuple #[QH 0 #[],YI 2],
 [Q3 []/\Qr YP J0 50 #[.agg (dg rf)] (.bool false)]):=by kernel_rfl
set_option maxHeartbeats 4000000 in
theorem Dd(rf:Qo)(Qa:List Int)  {B:Lo}(hJ:∀w,B.has w->J0 w):EndsT YP B (Qx YP 18 19 (([.agg (Q1 rf).toArray,Zk Qa]).map (Q7 0 4))) (.tuple #[if XW rf && XZ rf Qa then Wq (Xj rf Qa)else Wq [],YI (if XW rf && XZ rf Qa then 0 else 2)]):=by
 cases q0:XW rf with
 |true=>
  have Uc:Q3 (dh B rf Qa):=by
   try have Ry:=PJ ‹XW rf=true›
   try have ZW:=QC (Zy ‹XW rf=true›).1
   try have hpf:=(XM ‹XZ rf Qa=true›).1
   try have hpg:=(fun j=>(fun h=>⟨h.1,by omega⟩) (Z2 Ry ‹XZ rf Qa=true› j):∀j:Nat,0<=Qa.getD j 0/\Qa.getD j 0<=1000000)
   exact⟨⟨trivial,(by have t_:=bN (rf);rw[q0]at t_;exact t_)⟩,trivial⟩
  cases q1:XZ rf Qa with
  |true=>
   try have Ry:=PJ ‹XW rf=true›
   try have ZW:=QC (Zy ‹XW rf=true›).1
   try have hpf:=(XM ‹XZ rf Qa=true›).1
   try have hpg:=(fun j=>(fun h=>⟨h.1,by omega⟩) (Z2 Ry ‹XZ rf Qa=true› j):∀j:Nat,0<=Qa.getD j 0/\Qa.getD j 0<=1000000)
   exact(GoE.endsT okF hJ Qf GoE.start (zK B rf Qa)
    ⟨⟨trivial,Ma (rf) (Qa) (by first|with_reducible assumption|omega|simp_all) (by first|with_reducible assumption|omega|simp_all) (by first|with_reducible assumption|omega|simp_all)⟩,⟨⟨trivial,pD (rf) (Qa) (by first|with_reducible assumption|omega|simp_all) (by first|with_reducible assumption|omega|simp_all)⟩,⟨⟨trivial,(by have t_:=jH (rf) (Qa) (by first|with_reducible assumption|omega|simp_all);rw[q1]at t_;exact t_)⟩,Uc⟩⟩⟩).cast (by first|rfl|(simp[*];done)|(simp_all;done))
  |false=>
   try have Ry:=PJ ‹XW rf=true›
   try have ZW:=QC (Zy ‹XW rf=true›).1
   try have hpf:=(XM ‹XZ rf Qa=true›).1
   try have hpg:=(fun j=>(fun h=>⟨h.1,by omega⟩) (Z2 Ry ‹XZ rf Qa=true› j):∀j:Nat,0<=Qa.getD j 0/\Qa.getD j 0<=1000000)
   exact(GoE.endsT okF hJ Qf GoE.start (zJ B rf Qa)
    ⟨⟨trivial,(by have t_:=jH (rf) (Qa) (by first|with_reducible assumption|omega|simp_all);rw[q1]at t_;exact t_)⟩,Uc⟩).cast (by first|rfl|(simp[*];done)|(simp_all;done))
 |false=>
  try have Ry:=PJ ‹XW rf=true›
  try have ZW:=QC (Zy ‹XW rf=true›).1
  try have hpf:=(XM ‹XZ rf Qa=true›).1
  try have hpg:=(fun j=>(fun h=>⟨h.1,by omega⟩) (Z2 Ry ‹XZ rf Qa=true› j):∀j:Nat,0<=Qa.getD j 0/\Qa.getD j 0<=1000000)
  exact(GoE.endsT okF hJ Qf GoE.start (zI B rf Qa)
   ⟨⟨trivial,(by have t_:=bN (rf);rw[q0]at t_;exact t_)⟩,trivial⟩).cast (by first|rfl|(simp[*];done)|(simp_all;done))
theorem r9(rf:Qo)(Qa:List Int)  :Qr YP J0 18 #[.agg (Q1 rf).toArray,Zk Qa] (.tuple #[if XW rf && XZ rf Qa then Wq (Xj rf Qa)else Wq [],YI (if XW rf && XZ rf Qa then 0 else 2)]):=
 Xi (ts:=[.agg (Q1 rf).toArray,Zk Qa]) Za (c0:=Qx YP 18 19 (([.agg (Q1 rf).toArray,Zk Qa]).map (Q7 0 4))) (by kernel_rfl) (by kernel_rfl) fun B hJ=>Dd rf Qa  hJ
end
end Go.Proofs.Ytncjjangllkokaa

namespace Go.Proofs.Ytncjjangllkokaa
open Go Go.CE Go.RowKit
noncomputable section
set_option maxRecDepth 100000
theorem qd{r a b:Int}(hr:0<=r)(h0:0<=a)(h:a<=b):Wg r a<=Wg r b:=by
 unfold Wg;have h1:a*r<=b*r:=Int.mul_le_mul_of_nonneg_right h hr;have h2:0<=a*r:=Int.mul_nonneg h0 hr;rw[LP h2,LP (by omega)];omega
theorem Au{r n:Int}(hr:0<=r/\r<=2000)(h0:0<=n):0<=X6 r n/\X6 r n<=n/\(∀c,0<=c->c<X6 r n->ZD r n c=false)/\∀c,X6 r n<=c->ZD r n c=true:=by
 have mono:∀c c':Int,0<=c->c<=c'->ZD r n c=true->ZD r n c'=true:=fun c c' g0 g1 h=>by
  simp only[ZD,decide_eq_true_iff]at h ⊢;have:=qd hr.1 g0 g1;omega
 have hn:ZD r n n=true:=by
  have h2:0<=n*r:=Int.mul_nonneg h0 hr.1;have h3:(n*r).tdiv 1000=n*r / 1000:=LP h2;exact decide_eq_true (by show n<=n+(n*r).tdiv 1000;omega)
 obtain⟨a1,a2,a3,a4⟩:=qc (p:=ZD r n) (q:=fun _=>0) _ 0 n 0 rfl (LS _) h0 (fun c c' g0 g1 _ h=>mono c c' g0 g1 h);refine⟨a1,a2,a3,fun c hc=> ?_⟩;by_cases e:c<n
 ·exact a4 c hc e
 ·exact mono n c h0 (by omega) hn
theorem DK{r n u:Int}(hr:0<=r/\r<=2000)(h0:0<=n):(Rl (ZD r n) (fun _=>0) 0 (n+1) u).1=X6 r n:=by
 obtain⟨b1,b2,b3,b4⟩:=Au hr h0;obtain⟨a1,a2,a3,a4⟩:=qc (p:=ZD r n) (q:=fun _=>0) _ 0 (n+1) u rfl (LS _) (by omega) (fun c c' g0 g1 _ h=>by
  simp only[ZD,decide_eq_true_iff]at h ⊢;have:=qd hr.1 g0 g1;omega)
 generalize (Rl (ZD r n) (fun _=>0) 0 (n+1) u).1=m at *;by_cases e:m<X6 r n
 ·have x:=a4 m (LS _) (by omega);have y:=b3 m a1 e;rw[x]at y;cases y
 ·by_cases e2:X6 r n<m
  ·have x:=a3 _ b1 e2;have y:=b4 _ (LS _);rw[x]at y;cases y
  ·omega
def Vb(Qm Qc:Int):Qt:=[(2,Obj.cells #[YI Qc] 3),(1,Obj.cells #[YI Qm] 3),(0,Obj.coro none)]
def P7(Qm Qc:Int):CF:=⟨92,ofList 26 [YI Qm,Value.func (Fn.func 99) #[] #[pA 2 0,pA 1 0]],[Item.code (QG YP 92)],[],.run,none⟩
def V4(Qm Qc:Int)(a b:Int):List Value:=[Value.func (Fn.func 99) #[] #[pA 2 0,pA 1 0],YI a,YI b]
def V3(Qm Qc:Int)(a b:Int):List Obj:=[]
def WG(Qm Qc:Int)(a b:Int):List Obj:=[]
def V5:List Item:=([.code [1,0,1,1,0,0,0],.inLoop [1,0,1,1,0,0,0],.inBlock 0,.code [1,0,1,1,1],.inScope [1,0]]).map (it (QG YP 92))
def gC(B:Lo)(Qm Qc:Int)(a b:Int)(Qp:Nat->Value):List Prop:=[IntKind.wrap .i64 (Lc (a+b) 2)=Lc (a+b) 2,wq (a+b)=a+b]++([]:List Prop)
def pG(Qm Qc:Int)(a b:Int)(Qp:Nat->Value):QI:=[(2,Z4 (a+b)),(3,Z4 (Lc (a+b) 2))]
theorem CP(B:Lo)(Qm Qc:Int)(a b:Int)(Qp:Nat->Value):let c:=WG Qm Qc a b;CE.finK 3 (Qq YP (Q6 YP) J0 B 12 3 (XR (none) 92 26 (([1,5,6]:List Nat).zip (V4 Qm Qc a b)) Qp V5) (XC (Vb Qm Qc) 3 (([]:List Nat).zip (V3 Qm Qc a b)) c) (3+1+c.length)
 (pG Qm Qc a b Qp++[(7,ZC)]) 0 [] []) [] [] []=some (OO.ret (YI a),[],[],
 [Rx a b=true]++gC B Qm Qc a b Qp):=by intro c;kernel_rfl
def gB(B:Lo)(Qm Qc:Int)(a b:Int)(Qp:Nat->Value):List Prop:=[Rx a b=false]++gC B Qm Qc a b Qp
def pF(Qm Qc:Int)(a b:Int)(Qp:Nat->Value):QI:=pG Qm Qc a b Qp++[(7,Wi)]
def VK(Qm Qc:Int)(a b:Int)(Qp:Nat->Value):Qt:=[(3,Obj.coro none),(2,Obj.cells #[YI Qc] 3),(1,Obj.cells #[YI Qm] 3),(0,Obj.coro none)]
def KG(Qm Qc:Int)(a b:Int)(Qp:Nat->Value):CF:=⟨99,ofList 10 [YI (Lc (a+b) 2),pA 2 0,pA 1 0],[Item.code (QG YP 99)],[],.run,none⟩
theorem CO(B:Lo)(Qm Qc:Int)(a b:Int)(Qp:Nat->Value):let c:=Lc (a+b) 2+Lc (Lc (a+b) 2*Qc) 1000;let d:=YI c;CE.finK 4 (Qq YP (Q6 YP) J0 B 6 4 (KG Qm Qc a b Qp) (VK Qm Qc a b Qp) 4
 [(3,Qh.pure d []),(5,ZC)] 0 [] []) [] [] []=some (OO.ret (.bool true),[],[],
 [(!XA c Qm)=true,Q3 []/\Qr YP J0 100 #[YI (Lc (a+b) 2),YI Qc] d]):=by intro c d;kernel_rfl
theorem CL(B:Lo)(Qm Qc:Int)(a b:Int)(Qp:Nat->Value):let e:=OO.ret (.bool true);let d:=WG Qm Qc a b;let c:=Lc (a+b) 2;CE.landA 3 (Qq YP (Q6 YP) J0 B 14 3 (XR (none) 92 26 (([1,5,6]:List Nat).zip (V4 Qm Qc a b)) Qp V5) (XC (Vb Qm Qc) 3 (([]:List Nat).zip (V3 Qm Qc a b)) d) (3+1+d.length)
 (pF Qm Qc a b Qp++[(11,Qh.call (Ll 4) e ([]++(4,X8)::X0 5 []) 5 [])]) 0 [] []) [1,5,6] [] [] []=some ⟨92,26,V5,[],.run,none,V4 Qm Qc (a) c,([]:List Nat).zip (V3 Qm Qc (a) c),WG Qm Qc (a) c,
 [FJ YP B (KG Qm Qc a b Qp) (VK Qm Qc a b Qp) 4 e (([]++((4,X8)::X0 (4+1) []))++VK Qm Qc a b Qp) 5 (Ll 4) []]++gB B Qm Qc a b Qp⟩:=by intro e d c;kernel_rfl
theorem CK(B:Lo)(Qm Qc:Int)(a b:Int)(Qp:Nat->Value):let c:=Lc (a+b) 2+Lc (Lc (a+b) 2*Qc) 1000;let d:=YI c;CE.finK 4 (Qq YP (Q6 YP) J0 B 6 4 (KG Qm Qc a b Qp) (VK Qm Qc a b Qp) 4
 [(3,Qh.pure d []),(5,Wi)] 0 [] []) [] [] []=some (OO.ret (.bool false),[],[],
 [(!XA c Qm)=false,Q3 []/\Qr YP J0 100 #[YI (Lc (a+b) 2),YI Qc] d]):=by intro c d;kernel_rfl
theorem CI(B:Lo)(Qm Qc:Int)(a b:Int)(Qp:Nat->Value):let e:=OO.ret (.bool false);let d:=WG Qm Qc a b;let c:=Lc (a+b) 2+1;CE.landA 3 (Qq YP (Q6 YP) J0 B 14 3 (XR (none) 92 26 (([1,5,6]:List Nat).zip (V4 Qm Qc a b)) Qp V5) (XC (Vb Qm Qc) 3 (([]:List Nat).zip (V3 Qm Qc a b)) d) (3+1+d.length)
 (pF Qm Qc a b Qp++[(11,Qh.call (Ll 4) e ([]++(4,X8)::X0 5 []) 5 []),(14,Z4 c)]) 0 [] []) [1,5,6] [] [] []=some ⟨92,26,V5,[],.run,none,V4 Qm Qc c (b),([]:List Nat).zip (V3 Qm Qc c (b)),WG Qm Qc c (b),
 [wq c=Lc (a+b) 2+1,FJ YP B (KG Qm Qc a b Qp) (VK Qm Qc a b Qp) 4 e (([]++((4,X8)::X0 (4+1) []))++VK Qm Qc a b Qp) 5 (Ll 4) []]++gB B Qm Qc a b Qp⟩:=by intro e d c;kernel_rfl
set_option maxHeartbeats 4000000 in
theorem qY(Qm Qc:Int)(hf:0<=Qm/\Qm<=1000000000000)(hm:0<=Qc/\Qc<=2000){B:Lo}(hJ:∀w,B.has w->J0 w):∀m:Nat,(∀(a b:Int),(b-a).toNat=m->∀(a0:0<=a) (ab:a<=b) (b1:b<=Qm+1),(∃Qp:Nat->Value,(∀t,Xe (Qp t))/\GoE YP B (P7 Qm Qc) (Vb Qm Qc) 3 (XR (none) 92 26 (([1,5,6]:List Nat).zip (V4 Qm Qc a b)) Qp V5) (XC (Vb Qm Qc) 3 (([]:List Nat).zip (V3 Qm Qc a b)) (WG Qm Qc a b)) (3+1+(WG Qm Qc a b).length) ([]:List Nat))->FinK YP B (P7 Qm Qc) (Vb Qm Qc) 3 (.ret (YI (Rl (ZD Qc Qm) (fun _=>0) a b 0).1)) (([]:List Nat).zip ([])) ([]) ([]:List Nat)):=by
 intro m0;induction m0 using LB with
 |_ m0 ih0=>
  intro a b UX a0 ab b1 ⟨Qp,Zr,Xo⟩;have hl:=GZ a0 ab;have Uc:Q3 (gC B Qm Qc a b Qp):=by
   exact⟨(Jf (by omega) (by omega)),⟨(QP (by omega) (by omega)),trivial⟩⟩
  by_cases q0:(a:Int)=(b)
  ·have s2:=m7 (p:=ZD Qc Qm) (q:=fun _=>0) (u:=0) (show a=b by omega);exact(GoE.finK okF hJ Qf (QA (by kernel_rfl)) (Q4 (by kernel_rfl)) Xo (CP B Qm Qc a b Qp)
    ⟨(bl q0),Uc⟩).cast (by(rw[s2];done)) (by rfl) (by rfl)
  ·have Yi:Q3 (gB B Qm Qc a b Qp):=by
    exact⟨(cu q0),Uc⟩
   by_cases q1:(Qm:Int)<=(Lc (a+b) 2+Lc (Lc (a+b) 2*Qc) 1000)
   ·have rj1:FJ YP B (KG Qm Qc a b Qp) (VK Qm Qc a b Qp) 4 (OO.ret (.bool true)) (([]++((4,X8)::X0 (4+1) []))++VK Qm Qc a b Qp) 5 (Ll 4) []:=by
     have hm1:=bd a0 (show a<b by omega);have s2:=fL (p:=ZD Qc Qm) (q:=fun _=>0) (u:=0) a0 (show a<b by omega) (by exact decide_eq_true (by show Qm<=Wg Qc _;unfold Wg;omega));exact FinK.fjB (GoE.finK okF hJ Qf (QA (by kernel_rfl)) (Q4 (by kernel_rfl)) ((GoE.refl (P:=YP) (B:=B) (c0:=KG Qm Qc a b Qp) (QA (by kernel_rfl))).widen (Wf:=((([]):List (Nat×KS)).map (·.1))) (by simp) (Q4 (by kernel_rfl))) (CO B Qm Qc a b Qp)
      ⟨(VS q1),⟨⟨trivial,cV (Lc (a+b) 2) (Qc) (by omega) (by omega)⟩,trivial⟩⟩) (ex:=[]) (by kernel_rfl) (VG _)
    have hm1:=bd a0 (show a<b by omega);have s2:=fL (p:=ZD Qc Qm) (q:=fun _=>0) (u:=0) a0 (show a<b by omega) (by exact decide_eq_true (by show Qm<=Wg Qc _;unfold Wg;omega));exact((ih0 _ (by omega)) (a) (Lc (a+b) 2) rfl (by with_reducible assumption) (by omega) (by omega)
     (GoE.landA okF hJ Qf (QA (by kernel_rfl)) (Q4 (by kernel_rfl)) Xo (CL B Qm Qc a b Qp)
     ⟨rj1,Yi⟩ (by kernel_rfl) (by kernel_rfl) (fun l hl=>by cases hl <;> decide))).cast (by(rw[s2];done)) (by rfl) (by rfl)
   ·have rj1:FJ YP B (KG Qm Qc a b Qp) (VK Qm Qc a b Qp) 4 (OO.ret (.bool false)) (([]++((4,X8)::X0 (4+1) []))++VK Qm Qc a b Qp) 5 (Ll 4) []:=by
     have hm1:=bd a0 (show a<b by omega);have s2:=jJ (p:=ZD Qc Qm) (q:=fun _=>0) (u:=0) a0 (show a<b by omega) (by exact decide_eq_false (by show ¬Qm<=Wg Qc _;unfold Wg;omega));exact FinK.fjB (GoE.finK okF hJ Qf (QA (by kernel_rfl)) (Q4 (by kernel_rfl)) ((GoE.refl (P:=YP) (B:=B) (c0:=KG Qm Qc a b Qp) (QA (by kernel_rfl))).widen (Wf:=((([]):List (Nat×KS)).map (·.1))) (by simp) (Q4 (by kernel_rfl))) (CK B Qm Qc a b Qp)
      ⟨(VT (Int.not_le.1 q1)),⟨⟨trivial,cV (Lc (a+b) 2) (Qc) (by omega) (by omega)⟩,trivial⟩⟩) (ex:=[]) (by kernel_rfl) (VG _)
    have hm1:=bd a0 (show a<b by omega);have s2:=jJ (p:=ZD Qc Qm) (q:=fun _=>0) (u:=0) a0 (show a<b by omega) (by exact decide_eq_false (by show ¬Qm<=Wg Qc _;unfold Wg;omega));exact((ih0 _ (by omega)) (Lc (a+b) 2+1) (b) rfl (by omega) (by omega) (by with_reducible assumption)
     (GoE.landA okF hJ Qf (QA (by kernel_rfl)) (Q4 (by kernel_rfl)) Xo (CI B Qm Qc a b Qp)
     ⟨(QP (by omega) (by omega)),⟨rj1,Yi⟩⟩ (by kernel_rfl) (by kernel_rfl) (fun l hl=>by cases hl <;> decide))).cast (by(rw[s2];done)) (by rfl) (by rfl)

theorem CQ(B:Lo)(Qm Qc:Int):CE.landA 3 (Qq YP (Q6 YP) J0 B 10 3 (P7 Qm Qc) (Vb Qm Qc) 3
 [(2,Z4 (Qm+1))] 0 [] []) [1,5,6] [] [] []=some ⟨92,26,V5,[],.run,none,V4 Qm Qc (0) (Qm+1),([]:List Nat).zip (V3 Qm Qc (0) (Qm+1)),WG Qm Qc (0) (Qm+1),
 [wq (Qm+1)=Qm+1]⟩:=by kernel_rfl
theorem CH(B:Lo)(Qm Qc:Int):let a:=ZD Qc Qm;Xq (Qq YP (Q6 YP) J0 B 6 1 (Qx YP 80 8 (([YI Qm,YI Qc]).map (Q7 0 4))) Zb 1
 [(5,Qh.call (Ll 3) (OO.ret (YI (Prod.fst (Rl a (fun x=>0) 0 (Qm+1) 0)))) ([]++(3,X8)::X0 4 []) 4 [])] 0 [] []) []=some (YI (Prod.fst (Rl a (fun x=>0) 0 (Qm+1) 0)),
 [FJ YP B (P7 Qm Qc) (Vb Qm Qc) 3 (OO.ret (YI (Prod.fst (Rl a (fun x=>0) 0 (Qm+1) 0)))) (([]++((3,X8)::X0 (3+1) []))++Vb Qm Qc) 4 (Ll 3) []]):=by intro a;kernel_rfl
set_option maxHeartbeats 4000000 in
theorem Gx(Qm Qc:Int)(hf:0<=Qm/\Qm<=1000000000000)(hm:0<=Qc/\Qc<=2000){B:Lo}(hJ:∀w,B.has w->J0 w):EndsT YP B (Qx YP 80 8 (([YI Qm,YI Qc]).map (Q7 0 4))) (YI (X6 Qc Qm)):=by
 have rj0:FJ YP B (P7 Qm Qc) (Vb Qm Qc) 3 (OO.ret (YI (Prod.fst (Rl (ZD Qc Qm) (fun x=>0) 0 (Qm+1) 0)))) (([]++((3,X8)::X0 (3+1) []))++Vb Qm Qc) 4 (Ll 3) []:=by
  exact FinK.fjB ((qY Qm Qc hf hm hJ _) (0) (Qm+1) rfl (by omega) (by omega) (by omega)
   (GoE.landA okF hJ Qf (QA (by kernel_rfl)) (Q4 (by kernel_rfl)) ((GoE.refl (P:=YP) (B:=B) (c0:=P7 Qm Qc) (QA (by kernel_rfl))).widen (Wf:=((([]):List (Nat×KS)).map (·.1))) (by simp) (Q4 (by kernel_rfl))) (CQ B Qm Qc)
   ⟨(QP (by omega) (by omega)),trivial⟩ (by kernel_rfl) (by kernel_rfl) (fun l hl=>by cases hl <;> decide))) (ex:=[]) (by kernel_rfl) (VG _)
 exact(GoE.endsT okF hJ Qf GoE.start (CH B Qm Qc)
  ⟨rj0,trivial⟩).cast (by(rw[<-DK (u:=0) hm hf.1]))
theorem Sj(Qm Qc:Int)(hf:0<=Qm/\Qm<=1000000000000)(hm:0<=Qc/\Qc<=2000):Qr YP J0 80 #[YI Qm,YI Qc] (YI (X6 Qc Qm)):=
 Xi (ts:=[YI Qm,YI Qc]) Za (c0:=Qx YP 80 8 (([YI Qm,YI Qc]).map (Q7 0 4))) (by kernel_rfl) (by kernel_rfl) fun B hJ=>Gx Qm Qc hf hm hJ
end
end Go.Proofs.Ytncjjangllkokaa

