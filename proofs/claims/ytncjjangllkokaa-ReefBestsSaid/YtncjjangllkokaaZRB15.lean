/- layer 03: calls within known() -/
import Derived.Test.YtncjjangllkokaaZRB14
import Derived.Test.YtncjjangllkokaaZRB10
import Derived.Test.YtncjjangllkokaaZRB12
set_option linter.all false
open Array renaming eq_empty_of_size_eq_zero->LK,extract->Lh,size->LQ
open Int renaming toNat->Lb,toNat_natCast->LR,le_refl->LH
open List renaming length->Ld,getD_eq_getElem?_getD->Li,getElem?_eq_none->LA,range->Le
open Nat renaming strongRecOn->LB,lt_of_lt_of_eq->LO,le_refl->Lw
open Inhabited renaming default->La
namespace Go.Proofs.Ytncjjangllkokaa
open Go Go.CE Go.RowKit
def oe:Memo:=
 ⟨88,#[.slice (some ⟨552,0,none⟩) 2 12,.agg #[Qr 793,Qr 608,Qr 0,Qr 0]],[(552,Ug)],1663,.tuple #[.agg #[Qr 0,Qr 107],.bool true],[],1667⟩
theorem xG:QK oe (oe.drun YP Xf Xn 100000)=true:=by decide+kernel
def mY:Memo:=
 ⟨98,#[.agg #[.slice (some ⟨552,0,none⟩) 2 12,Qr 200,Qr 2,Qr 2,Qr 2,Qr 0,Qr 0],.agg #[Qr 780,Qr 650,Qr 0,Qr 0],Qr 1,.func (.func 76) #[] #[],.func (.func 77) #[] #[]],[(552,Ug)],1714,.agg #[Qr 543,Qr 788,Qr 0,Qr 0],[],1755⟩
theorem w9:QK mY (mY.run YP Xf Xn 100000)=true:=by decide+kernel
def od:Memo:=
 ⟨88,#[.slice (some ⟨552,0,none⟩) 2 12,.agg #[Qr 543,Qr 788,Qr 0,Qr 0]],[(552,Ug)],1755,.tuple #[.agg #[Qr 0,Qr 357],.bool true],[],1759⟩
theorem xF:QK od (od.drun YP Xf Xn 100000)=true:=by decide+kernel
def mX:Memo:=
 ⟨98,#[.agg #[.slice (some ⟨552,0,none⟩) 2 12,Qr 200,Qr 2,Qr 2,Qr 3,Qr 0,Qr 0],.agg #[Qr 780,Qr 650,Qr 0,Qr 0],Qr 1,.func (.func 76) #[] #[],.func (.func 77) #[] #[]],[(552,Ug)],1806,.agg #[Qr 793,Qr 788,Qr 0,Qr 0],[],1847⟩
theorem w8:QK mX (mX.run YP Xf Xn 100000)=true:=by decide+kernel
def oc:Memo:=
 ⟨88,#[.slice (some ⟨552,0,none⟩) 2 12,.agg #[Qr 793,Qr 788,Qr 0,Qr 0]],[(552,Ug)],1847,.tuple #[.agg #[Qr 0,Qr 107],.bool true],[],1851⟩
theorem xE:QK oc (oc.drun YP Xf Xn 100000)=true:=by decide+kernel
def mW:Memo:=
 ⟨98,#[.agg #[.slice (some ⟨552,0,none⟩) 2 12,Qr 200,Qr 2,Qr 3,Qr 0,Qr 0,Qr 0],.agg #[Qr 1030,Qr 650,Qr 0,Qr 0],Qr 1,.func (.func 76) #[] #[],.func (.func 77) #[] #[]],[(552,Ug)],1898,.agg #[Qr 813,Qr 638,Qr 0,Qr 0],[],1939⟩
theorem w7:QK mW (mW.run YP Xf Xn 100000)=true:=by decide+kernel
def nZ:Memo:=
 ⟨88,#[.slice (some ⟨552,0,none⟩) 2 12,.agg #[Qr 813,Qr 638,Qr 0,Qr 0]],[(552,Ug)],1939,.tuple #[.agg #[Qr 0,Qr 87],.bool true],[],1943⟩
theorem xD:QK nZ (nZ.drun YP Xf Xn 100000)=true:=by decide+kernel
def mV:Memo:=
 ⟨98,#[.agg #[.slice (some ⟨552,0,none⟩) 2 12,Qr 200,Qr 2,Qr 3,Qr 2,Qr 0,Qr 0],.agg #[Qr 1030,Qr 650,Qr 0,Qr 0],Qr 1,.func (.func 76) #[] #[],.func (.func 77) #[] #[]],[(552,Ug)],2014,.agg #[Qr 813,Qr 818,Qr 0,Qr 0],[],2055⟩
theorem w6:QK mV (mV.run YP Xf Xn 100000)=true:=by decide+kernel
def nY:Memo:=
 ⟨88,#[.slice (some ⟨552,0,none⟩) 2 12,.agg #[Qr 813,Qr 818,Qr 0,Qr 0]],[(552,Ug)],2055,.tuple #[.agg #[Qr 0,Qr 87],.bool true],[],2059⟩
theorem xC:QK nY (nY.drun YP Xf Xn 100000)=true:=by decide+kernel
def nX:Memo:=
 ⟨88,#[.slice (some ⟨2134,0,none⟩) 2 12,.agg #[Qr 1063,Qr 440,Qr 0,Qr 0]],[(2134,Ug)],2266,.tuple #[.agg #[Qr 1,Qr 10],.bool true],[],2271⟩
theorem xB:QK nX (nX.drun YP Xf Xn 100000)=true:=by decide+kernel
def nW:Memo:=
 ⟨88,#[.slice (some ⟨2274,0,none⟩) 2 12,.agg #[Qr 1063,Qr 440,Qr 0,Qr 0]],[(2274,Ug)],2406,.tuple #[.agg #[Qr 1,Qr 10],.bool true],[],2411⟩
theorem xA:QK nW (nW.drun YP Xf Xn 100000)=true:=by decide+kernel
def nV:Memo:=
 ⟨88,#[.slice (some ⟨2414,0,none⟩) 2 12,.agg #[Qr 1063,Qr 440,Qr 0,Qr 0]],[(2414,Ug)],2546,.tuple #[.agg #[Qr 1,Qr 10],.bool true],[],2551⟩
theorem x9:QK nV (nV.drun YP Xf Xn 100000)=true:=by decide+kernel
def nU:Memo:=
 ⟨88,#[.slice (some ⟨2554,0,none⟩) 2 12,.agg #[Qr 1063,Qr 440,Qr 0,Qr 0]],[(2554,Ug)],2686,.tuple #[.agg #[Qr 1,Qr 10],.bool true],[],2691⟩
theorem x6:QK nU (nU.drun YP Xf Xn 100000)=true:=by decide+kernel
def nT:Memo:=
 ⟨88,#[.slice (some ⟨2694,0,none⟩) 2 12,.agg #[Qr 1063,Qr 440,Qr 0,Qr 0]],[(2694,Ug)],2826,.tuple #[.agg #[Qr 1,Qr 10],.bool true],[],2831⟩
theorem xz:QK nT (nT.drun YP Xf Xn 100000)=true:=by decide+kernel
end Go.Proofs.Ytncjjangllkokaa

namespace Go.Proofs.Ytncjjangllkokaa
open Go Go.CE Go.RowKit
noncomputable def ja:Vh:=XN [sJ,sI,sN,sH,sG,sM,sF,sL,sE,sK,nj,ou,ni,nh,ot,ng,oo,nf,om,nc,oh,nb,na,og,mZ,oe,mY,od,mX,oc,mW,nZ,mV,nY]
theorem mN(B:Lo):W4 YP B ja:=QS QB Q5 (QF _ _) zX (QS QB Q5 (QF _ _) zW (QW QB Q5 (QF _ _) Ab (QS QB Q5 (QF _ _) zV (QS QB Q5 (QF _ _) zU (QW QB Q5 (QF _ _) Aa (QS QB Q5 (QF _ _) zT (QW QB Q5 (QF _ _) zZ (QS QB Q5 (QF _ _) zS (QW QB Q5 (QF _ _) zY (QS QB Q5 (QF _ _) wJ (QW QB Q5 (QF _ _) xM (QS QB Q5 (QF _ _) wH (QS QB Q5 (QF _ _) wG (QW QB Q5 (QF _ _) xL (QS QB Q5 (QF _ _) wF (QW QB Q5 (QF _ _) xK (QS QB Q5 (QF _ _) wE (QW QB Q5 (QF _ _) xJ (QS QB Q5 (QF _ _) wD (QW QB Q5 (QF _ _) xI (QS QB Q5 (QF _ _) wC (QS QB Q5 (QF _ _) wB (QW QB Q5 (QF _ _) xH (QS QB Q5 (QF _ _) wA (QW QB Q5 (QF _ _) xG (QS QB Q5 (QF _ _) w9 (QW QB Q5 (QF _ _) xF (QS QB Q5 (QF _ _) w8 (QW QB Q5 (QF _ _) xE (QS QB Q5 (QF _ _) w7 (QW QB Q5 (QF _ _) xD (QS QB Q5 (QF _ _) w6 (QW QB Q5 (QF _ _) xC (XX _ _))))))))))))))))))))))))))))))))))
def sP:Memo:=
 ⟨37,#[.agg #[.slice (some ⟨552,0,none⟩) 2 12,Qr 200,Qr 2]],[(552,Ug)],553,.tuple #[.slice (some ⟨2086,0,none⟩) 2 1,Qr 26,Qr 0],[(2086,.cells #[Qr 1,Qr 3] 3 (0,0))],2097⟩
theorem Ad:QK sP (sP.run YP Xf ja 100000)=true:=by decide+kernel
end Go.Proofs.Ytncjjangllkokaa

namespace Go.Proofs.Ytncjjangllkokaa
open Go Go.CE Go.RowKit
def nS:Memo:=
 ⟨88,#[.slice (some ⟨2834,0,none⟩) 2 12,.agg #[Qr 1063,Qr 440,Qr 0,Qr 0]],[(2834,Ug)],2966,.tuple #[.agg #[Qr 1,Qr 10],.bool true],[],2971⟩
theorem xx:QK nS (nS.drun YP Xf Xn 100000)=true:=by decide+kernel
def nR:Memo:=
 ⟨88,#[.slice (some ⟨2974,0,none⟩) 2 12,.agg #[Qr 1063,Qr 440,Qr 0,Qr 0]],[(2974,Ug)],3106,.tuple #[.agg #[Qr 1,Qr 10],.bool true],[],3111⟩
theorem xw:QK nR (nR.drun YP Xf Xn 100000)=true:=by decide+kernel
def nQ:Memo:=
 ⟨88,#[.slice (some ⟨3114,0,none⟩) 2 12,.agg #[Qr 1063,Qr 440,Qr 0,Qr 0]],[(3114,Ug)],3246,.tuple #[.agg #[Qr 1,Qr 10],.bool true],[],3251⟩
theorem xu:QK nQ (nQ.drun YP Xf Xn 100000)=true:=by decide+kernel
def nP:Memo:=
 ⟨88,#[.slice (some ⟨3254,0,none⟩) 2 12,.agg #[Qr 1063,Qr 440,Qr 0,Qr 0]],[(3254,Ug)],3386,.tuple #[.agg #[Qr 1,Qr 10],.bool true],[],3391⟩
theorem xt:QK nP (nP.drun YP Xf Xn 100000)=true:=by decide+kernel
def nO:Memo:=
 ⟨88,#[.slice (some ⟨3394,0,none⟩) 2 12,.agg #[Qr 1063,Qr 440,Qr 0,Qr 0]],[(3394,Ug)],3526,.tuple #[.agg #[Qr 1,Qr 10],.bool true],[],3531⟩
theorem xq:QK nO (nO.drun YP Xf Xn 100000)=true:=by decide+kernel
def nN:Memo:=
 ⟨88,#[.slice (some ⟨3534,0,none⟩) 2 12,.agg #[Qr 1063,Qr 440,Qr 0,Qr 0]],[(3534,Ug)],3666,.tuple #[.agg #[Qr 1,Qr 10],.bool true],[],3671⟩
theorem xp:QK nN (nN.drun YP Xf Xn 100000)=true:=by decide+kernel
def nM:Memo:=
 ⟨88,#[.slice (some ⟨3674,0,none⟩) 2 12,.agg #[Qr 1063,Qr 440,Qr 0,Qr 0]],[(3674,Ug)],3806,.tuple #[.agg #[Qr 1,Qr 10],.bool true],[],3811⟩
theorem xo:QK nM (nM.drun YP Xf Xn 100000)=true:=by decide+kernel
def nK:Memo:=
 ⟨88,#[.slice (some ⟨3814,0,none⟩) 2 12,.agg #[Qr 1063,Qr 603,Qr 0,Qr 0]],[(3814,cB2)],3946,.tuple #[.agg #[Qr 0,Qr 0],.bool false],[],3951⟩
theorem xm:QK nK (nK.drun YP Xf Xn 100000)=true:=by decide+kernel
def nJ:Memo:=
 ⟨88,#[.slice (some ⟨3954,0,none⟩) 2 12,.agg #[Qr 1063,Qr 475,Qr 0,Qr 0]],[(3954,cB3)],4086,.tuple #[.agg #[Qr 0,Qr 0],.bool false],[],4091⟩
theorem xl:QK nJ (nJ.drun YP Xf Xn 100000)=true:=by decide+kernel
def nI:Memo:=
 ⟨88,#[.slice (some ⟨4094,0,none⟩) 2 12,.agg #[Qr 1063,Qr 440,Qr 0,Qr 0]],[(4094,Ug)],4226,.tuple #[.agg #[Qr 1,Qr 10],.bool true],[],4231⟩
theorem xk:QK nI (nI.drun YP Xf Xn 100000)=true:=by decide+kernel
def nH:Memo:=
 ⟨88,#[.slice (some ⟨4234,0,none⟩) 2 12,.agg #[Qr 1063,Qr 442,Qr 0,Qr 0]],[(4234,cB4)],4366,.tuple #[.agg #[Qr 1,Qr 8],.bool true],[],4371⟩
theorem xj:QK nH (nH.drun YP Xf Xn 100000)=true:=by decide+kernel
def nG:Memo:=
 ⟨88,#[.slice (some ⟨4374,0,none⟩) 2 12,.agg #[Qr 1063,Qr 458,Qr 0,Qr 0]],[(4374,cB5)],4506,.tuple #[.agg #[Qr 0,Qr 0],.bool false],[],4511⟩
theorem xi:QK nG (nG.drun YP Xf Xn 100000)=true:=by decide+kernel
def nF:Memo:=
 ⟨88,#[.slice (some ⟨4514,0,none⟩) 2 12,.agg #[Qr 1063,Qr 450,Qr 0,Qr 0]],[(4514,cB6)],4646,.tuple #[.agg #[Qr 0,Qr 0],.bool false],[],4651⟩
theorem xh:QK nF (nF.drun YP Xf Xn 100000)=true:=by decide+kernel
def nE:Memo:=
 ⟨88,#[.slice (some ⟨4654,0,none⟩) 2 12,.agg #[Qr 1063,Qr 446,Qr 0,Qr 0]],[(4654,cB7)],4786,.tuple #[.agg #[Qr 1,Qr 4],.bool true],[],4791⟩
theorem xg:QK nE (nE.drun YP Xf Xn 100000)=true:=by decide+kernel
end Go.Proofs.Ytncjjangllkokaa

namespace Go.Proofs.Ytncjjangllkokaa
open Go Go.CE Go.RowKit
noncomputable section
def fL:Vh:=XN [nX]
theorem jK(B:Lo):W4 YP B fL:=QW QB Q5 (QF _ _) xB (XX _ _)
def nC:Memo:=
 ⟨93,#[Qr 500000,.pointer (some ⟨2130,0,none⟩),.pointer (some ⟨2131,0,none⟩)],[(2104,Ug),(2131,.cells #[Qr 1] 3 (0,0)),(2130,rq)],2132,.bool true,[],2272⟩
theorem xe:QK nC (nC.run YP Xf fL 100000)=true:=by decide+kernel
def fJ:Vh:=XN [nW]
theorem jJ(B:Lo):W4 YP B fJ:=QW QB Q5 (QF _ _) xA (XX _ _)
def nB:Memo:=
 ⟨93,#[Qr 250000,.pointer (some ⟨2130,0,none⟩),.pointer (some ⟨2131,0,none⟩)],[(2104,Ug),(2131,.cells #[Qr 1] 3 (0,0)),(2130,rq)],2272,.bool true,[],2412⟩
theorem xd:QK nB (nB.run YP Xf fJ 100000)=true:=by decide+kernel
def fI:Vh:=XN [nV]
theorem jI(B:Lo):W4 YP B fI:=QW QB Q5 (QF _ _) x9 (XX _ _)
def nA:Memo:=
 ⟨93,#[Qr 125000,.pointer (some ⟨2130,0,none⟩),.pointer (some ⟨2131,0,none⟩)],[(2104,Ug),(2131,.cells #[Qr 1] 3 (0,0)),(2130,rq)],2412,.bool true,[],2552⟩
theorem xc:QK nA (nA.run YP Xf fI 100000)=true:=by decide+kernel
def fH:Vh:=XN [nU]
theorem jH(B:Lo):W4 YP B fH:=QW QB Q5 (QF _ _) x6 (XX _ _)
def n9:Memo:=
 ⟨93,#[Qr 62500,.pointer (some ⟨2130,0,none⟩),.pointer (some ⟨2131,0,none⟩)],[(2104,Ug),(2131,.cells #[Qr 1] 3 (0,0)),(2130,rq)],2552,.bool true,[],2692⟩
theorem xb:QK n9 (n9.run YP Xf fH 100000)=true:=by decide+kernel
def fG:Vh:=XN [nT]
theorem jG(B:Lo):W4 YP B fG:=QW QB Q5 (QF _ _) xz (XX _ _)
def n8:Memo:=
 ⟨93,#[Qr 31250,.pointer (some ⟨2130,0,none⟩),.pointer (some ⟨2131,0,none⟩)],[(2104,Ug),(2131,.cells #[Qr 1] 3 (0,0)),(2130,rq)],2692,.bool true,[],2832⟩
theorem xa:QK n8 (n8.run YP Xf fG 100000)=true:=by decide+kernel
def fF:Vh:=XN [nS]
theorem jF(B:Lo):W4 YP B fF:=QW QB Q5 (QF _ _) xx (XX _ _)
def n7:Memo:=
 ⟨93,#[Qr 15625,.pointer (some ⟨2130,0,none⟩),.pointer (some ⟨2131,0,none⟩)],[(2104,Ug),(2131,.cells #[Qr 1] 3 (0,0)),(2130,rq)],2832,.bool true,[],2972⟩
theorem wZ:QK n7 (n7.run YP Xf fF 100000)=true:=by decide+kernel
def fE:Vh:=XN [nR]
theorem jE(B:Lo):W4 YP B fE:=QW QB Q5 (QF _ _) xw (XX _ _)
def n6:Memo:=
 ⟨93,#[Qr 7812,.pointer (some ⟨2130,0,none⟩),.pointer (some ⟨2131,0,none⟩)],[(2104,Ug),(2131,.cells #[Qr 1] 3 (0,0)),(2130,rq)],2972,.bool true,[],3112⟩
theorem wY:QK n6 (n6.run YP Xf fE 100000)=true:=by decide+kernel
def fD:Vh:=XN [nQ]
theorem jD(B:Lo):W4 YP B fD:=QW QB Q5 (QF _ _) xu (XX _ _)
def n5:Memo:=
 ⟨93,#[Qr 3906,.pointer (some ⟨2130,0,none⟩),.pointer (some ⟨2131,0,none⟩)],[(2104,Ug),(2131,.cells #[Qr 1] 3 (0,0)),(2130,rq)],3112,.bool true,[],3252⟩
theorem wX:QK n5 (n5.run YP Xf fD 100000)=true:=by decide+kernel
def fC:Vh:=XN [nP]
theorem jC(B:Lo):W4 YP B fC:=QW QB Q5 (QF _ _) xt (XX _ _)
def n4:Memo:=
 ⟨93,#[Qr 1953,.pointer (some ⟨2130,0,none⟩),.pointer (some ⟨2131,0,none⟩)],[(2104,Ug),(2131,.cells #[Qr 1] 3 (0,0)),(2130,rq)],3252,.bool true,[],3392⟩
theorem wW:QK n4 (n4.run YP Xf fC 100000)=true:=by decide+kernel
def fB:Vh:=XN [nO]
theorem jB(B:Lo):W4 YP B fB:=QW QB Q5 (QF _ _) xq (XX _ _)
def n3:Memo:=
 ⟨93,#[Qr 976,.pointer (some ⟨2130,0,none⟩),.pointer (some ⟨2131,0,none⟩)],[(2104,Ug),(2131,.cells #[Qr 1] 3 (0,0)),(2130,rq)],3392,.bool true,[],3532⟩
theorem wV:QK n3 (n3.run YP Xf fB 100000)=true:=by decide+kernel
def fA:Vh:=XN [nN]
theorem jA(B:Lo):W4 YP B fA:=QW QB Q5 (QF _ _) xp (XX _ _)
def ny:Memo:=
 ⟨93,#[Qr 488,.pointer (some ⟨2130,0,none⟩),.pointer (some ⟨2131,0,none⟩)],[(2104,Ug),(2131,.cells #[Qr 1] 3 (0,0)),(2130,rq)],3532,.bool true,[],3672⟩
theorem wU:QK ny (ny.run YP Xf fA 100000)=true:=by decide+kernel
def fy:Vh:=XN [nM]
theorem j9(B:Lo):W4 YP B fy:=QW QB Q5 (QF _ _) xo (XX _ _)
def nv:Memo:=
 ⟨93,#[Qr 244,.pointer (some ⟨2130,0,none⟩),.pointer (some ⟨2131,0,none⟩)],[(2104,Ug),(2131,.cells #[Qr 1] 3 (0,0)),(2130,rq)],3672,.bool true,[],3812⟩
theorem wT:QK nv (nv.run YP Xf fy 100000)=true:=by decide+kernel
def fx:Vh:=XN [nK]
theorem j8(B:Lo):W4 YP B fx:=QW QB Q5 (QF _ _) xm (XX _ _)
def nu:Memo:=
 ⟨93,#[Qr 122,.pointer (some ⟨2130,0,none⟩),.pointer (some ⟨2131,0,none⟩)],[(2104,Ug),(2131,.cells #[Qr 1] 3 (0,0)),(2130,rq)],3812,.bool false,[],3952⟩
theorem wS:QK nu (nu.run YP Xf fx 100000)=true:=by decide+kernel
def fw:Vh:=XN [nJ]
theorem j7(B:Lo):W4 YP B fw:=QW QB Q5 (QF _ _) xl (XX _ _)
def nt:Memo:=
 ⟨93,#[Qr 183,.pointer (some ⟨2130,0,none⟩),.pointer (some ⟨2131,0,none⟩)],[(2104,Ug),(2131,.cells #[Qr 1] 3 (0,0)),(2130,rq)],3952,.bool false,[],4092⟩
theorem wR:QK nt (nt.run YP Xf fw 100000)=true:=by decide+kernel
end
end Go.Proofs.Ytncjjangllkokaa

namespace Go.Proofs.Ytncjjangllkokaa
open Go Go.CE Go.RowKit
def nD:Memo:=
 ⟨88,#[.slice (some ⟨4794,0,none⟩) 2 12,.agg #[Qr 1063,Qr 448,Qr 0,Qr 0]],[(4794,cB8)],4926,.tuple #[.agg #[Qr 1,Qr 2],.bool true],[],4931⟩
theorem xf:QK nD (nD.drun YP Xf Xn 100000)=true:=by decide+kernel
end Go.Proofs.Ytncjjangllkokaa

namespace Go.Proofs.Ytncjjangllkokaa
open Go Go.CE Go.RowKit
noncomputable section
def ft:Vh:=XN [nI]
theorem j6(B:Lo):W4 YP B ft:=QW QB Q5 (QF _ _) xk (XX _ _)
def nr:Memo:=
 ⟨93,#[Qr 214,.pointer (some ⟨2130,0,none⟩),.pointer (some ⟨2131,0,none⟩)],[(2104,Ug),(2131,.cells #[Qr 1] 3 (0,0)),(2130,rq)],4092,.bool true,[],4232⟩
theorem wQ:QK nr (nr.run YP Xf ft 100000)=true:=by decide+kernel
def fq:Vh:=XN [nH]
theorem j5(B:Lo):W4 YP B fq:=QW QB Q5 (QF _ _) xj (XX _ _)
def nq:Memo:=
 ⟨93,#[Qr 199,.pointer (some ⟨2130,0,none⟩),.pointer (some ⟨2131,0,none⟩)],[(2104,Ug),(2131,.cells #[Qr 1] 3 (0,0)),(2130,rq)],4232,.bool true,[],4372⟩
theorem wP:QK nq (nq.run YP Xf fq 100000)=true:=by decide+kernel
def fp:Vh:=XN [nG]
theorem j4(B:Lo):W4 YP B fp:=QW QB Q5 (QF _ _) xi (XX _ _)
def np:Memo:=
 ⟨93,#[Qr 191,.pointer (some ⟨2130,0,none⟩),.pointer (some ⟨2131,0,none⟩)],[(2104,Ug),(2131,.cells #[Qr 1] 3 (0,0)),(2130,rq)],4372,.bool false,[],4512⟩
theorem wN:QK np (np.run YP Xf fp 100000)=true:=by decide+kernel
def fo:Vh:=XN [nF]
theorem j3(B:Lo):W4 YP B fo:=QW QB Q5 (QF _ _) xh (XX _ _)
def nn:Memo:=
 ⟨93,#[Qr 195,.pointer (some ⟨2130,0,none⟩),.pointer (some ⟨2131,0,none⟩)],[(2104,Ug),(2131,.cells #[Qr 1] 3 (0,0)),(2130,rq)],4512,.bool false,[],4652⟩
theorem wM:QK nn (nn.run YP Xf fo 100000)=true:=by decide+kernel
def fi:Vh:=XN [nE]
theorem jz(B:Lo):W4 YP B fi:=QW QB Q5 (QF _ _) xg (XX _ _)
def nm:Memo:=
 ⟨93,#[Qr 197,.pointer (some ⟨2130,0,none⟩),.pointer (some ⟨2131,0,none⟩)],[(2104,Ug),(2131,.cells #[Qr 1] 3 (0,0)),(2130,rq)],4652,.bool true,[],4792⟩
theorem wL:QK nm (nm.run YP Xf fi 100000)=true:=by decide+kernel
def fh:Vh:=XN [nD]
theorem jy(B:Lo):W4 YP B fh:=QW QB Q5 (QF _ _) xf (XX _ _)
def nk:Memo:=
 ⟨93,#[Qr 196,.pointer (some ⟨2130,0,none⟩),.pointer (some ⟨2131,0,none⟩)],[(2104,Ug),(2131,.cells #[Qr 1] 3 (0,0)),(2130,rq)],4792,.bool true,[],4932⟩
theorem wK:QK nk (nk.run YP Xf fh 100000)=true:=by decide+kernel
end
end Go.Proofs.Ytncjjangllkokaa

namespace Go.Proofs.Ytncjjangllkokaa
open Go Go.CE Go.RowKit
noncomputable def fM:Vh:=XN [nC,nB,nA,n9,n8,n7,n6,n5,n4,n3,ny,nv,nu,nt,nr,nq,np,nn,nm,nk]
theorem jL(B:Lo):W4 YP B fM:=QS QB Q5 (jK _) xe (QS QB Q5 (jJ _) xd (QS QB Q5 (jI _) xc (QS QB Q5 (jH _) xb (QS QB Q5 (jG _) xa (QS QB Q5 (jF _) wZ (QS QB Q5 (jE _) wY (QS QB Q5 (jD _) wX (QS QB Q5 (jC _) wW (QS QB Q5 (jB _) wV (QS QB Q5 (jA _) wU (QS QB Q5 (j9 _) wT (QS QB Q5 (j8 _) wS (QS QB Q5 (j7 _) wR (QS QB Q5 (j6 _) wQ (QS QB Q5 (j5 _) wP (QS QB Q5 (j4 _) wN (QS QB Q5 (j3 _) wM (QS QB Q5 (jz _) wL (QS QB Q5 (jy _) wK (XX _ _))))))))))))))))))))
def ov:Memo:=
 ⟨43,#[.agg #[.slice (some ⟨2104,0,none⟩) 2 12,Qr 200,Qr 2],.slice (some ⟨2105,0,none⟩) 2 1,Qr 1],[(2105,.cells #[Qr 1,Qr 1] 3 (0,0)),(2104,Ug)],2106,.tuple #[Qr 195,Qr 0],[],4932⟩
theorem xN:QK ov (ov.run YP Xf fM 100000)=true:=by decide+kernel
end Go.Proofs.Ytncjjangllkokaa

namespace Go.Proofs.Ytncjjangllkokaa
open Go Go.CE Go.RowKit
noncomputable def HX:Vh:=XN [Af,sR,sQ,sP,ov]
theorem DP(B:Lo):W4 YP B HX:=QS QB Q5 (QF _ _) DU (QS QB Q5 (QF _ _) Ag (QS QB Q5 (mO _) Ae (QS QB Q5 (mN _) Ad (QS QB Q5 (jL _) xN (XX _ _)))))
theorem Ea:Bu (oQ YP Xf HX 100000 16 #[] (R6 0 []) ([]:List (Array Value×TypeId)).length) (.bool true) []=true:=by decide+kernel
theorem An(w:World):Calls YP 16 #[] w fun e w'=>e=.returned (.bool true)/\Below w.heap.size w w':=by
 have hc:=Ek QB Q5 (at':=[]) (args':=#[]) Ea (w:=w) (I:=fun _=>True) (hI:=fun _ _ _ _=>trivial) (DP _) trivial rfl (fun i x a h=>by simp at h) ⟨rfl,fun i v v' h=>by simp at h⟩;intro cs;obtain⟨e,w',fr,⟨v',n',H',μ',he,hp,hv,hb,hun,T7⟩,h1,h2,h3⟩:=hc cs;exact⟨e,w',fr,⟨by rw[he,SM rfl hv],T7⟩,h1,h2,h3⟩
theorem known:Qv YP J0 16 #[] (.bool true):=fun fm w args' _ _ ha=>by
 have e:args'=#[]:=by exact LK ha.1.symm
 subst e;exact(An w).mono fun _ _ h=>⟨_,h.1,h.2,.simple rfl⟩
end Go.Proofs.Ytncjjangllkokaa

namespace Go.Proofs.Ytncjjangllkokaa
open Go Go.CE Go.RowKit
set_option maxRecDepth 100000
def RK(xs:List Int)(i:Int):List Value:=[Qk 1 (X7 xs),Qk 1 (X7 xs),YI i]
def K6(xs:List Int)(i:Int):List Obj:=[]
noncomputable def RL:List Item:=([.code [1,1,0,1,0,0],.inLoop [1,1,0,1,0,0],.inBlock 0,.code [1,1,1]]).map (it (Q8 YP 39))
def Cf(B:Lo)(c0:CF)(xs:List Int)(i:Int):Prop:=∃dJ:Nat->Value,(∀t,Xh (dJ t))/\GoE YP B c0 Zd 1 (QC 39 26 (([0,1,5]:List Nat).zip (RK xs i)) dJ RL) (Q9 (K6 xs i)) (2+(K6 xs i).length) []
theorem Cd(B:Lo)(xs:List Int)(i:Int)(Ql:Nat->Value):let d:=Lb i*TypeInfo.size Try.t3;let c:=Lb i;let b:=Lb i*TypeInfo.size Try.t3+TypeInfo.size Try.t3;let a:=xs.getD c La;landM (Qn YP (Q0 YP) J0 B 14 1 (QC 39 26 (([0,1,5]:List Nat).zip (RK xs i)) Ql RL) (Q9 (K6 xs i)) (2+(K6 xs i).length)
 [(3,Wj),(6,Qf.tidx c #[YI a]),(10,Qf.tidx c #[YI a]),(12,WC),(14,Zu (i+1))] 0 [] []) [0,1,5] [] []=some ⟨39,26,RL,[],.run,none,RK xs (i+1),K6 xs (i+1),
 [wq (i+1)=i+1,(!TO a a)=false,i=(↑c:Int)/\Lb i<Ld xs/\Lh (Qe Qy xs) d b=#[YI a],i=(↑c:Int)/\Lb i<Ld xs/\Lh (Qe Qy xs) d b=#[YI a],XB i (↑xs.length:Int)=true]⟩:=by intro d c b a;kernel_rfl
theorem Cc(B:Lo)(xs:List Int)(i:Int)(Ql:Nat->Value):Xv (Qn YP (Q0 YP) J0 B 9 1 (QC 39 26 (([0,1,5]:List Nat).zip (RK xs i)) Ql RL) (Q9 (K6 xs i)) (2+(K6 xs i).length)
 [(3,WC)] 0 [] []) []=some (.bool true,
 [XB i (↑xs.length:Int)=false]):=by kernel_rfl
theorem Cb(B:Lo)(xs:List Int):landM (Qn YP (Q0 YP) J0 B 12 1 (Qu YP 39 26 (([X7 xs,X7 xs]).map (Q4 0 4))) Zd 1
 [(5,WC)] 0 [] []) [0,1,5] [] []=some ⟨39,26,RL,[],.run,none,RK xs (0),K6 xs (0),
 [(!TO (↑xs.length:Int) (↑xs.length:Int))=false]⟩:=by kernel_rfl
set_option maxHeartbeats 4000000 in
theorem Ce(xs:List Int)  (WH:xs.length<=9223372036854775807){B:Lo}(hJ:∀w,B.has w->J0 w){c0:CF}:∀m:Nat,(∀(i:Int),xs.length-i.toNat=m->∀(h0:0<=i),Cf B c0 xs i->EndsT YP B c0 (.bool true)):=by
 intro m0;induction m0 using LB with
 |_ m0 ih0=>
  intro i Jw h0 ⟨Ql,Wl,X0⟩;by_cases q0:(i:Int)<((↑xs.length:Int))
  ·exact((ih0 _ (by omega)) (i+1) rfl (by omega)
    (X0.lM (Cd B xs i Ql)
    ⟨wI,⟨(zP rfl),⟨(iX (lX 1)),⟨(iX (lX 1)),⟨(Xs q0),trivial⟩⟩⟩⟩⟩)).cR
  ·exact(GoE.eT X0 (Cc B xs i Ql)
    ⟨(nL q0),trivial⟩).cast rfl
set_option maxHeartbeats 4000000 in
theorem Fg(xs:List Int)  (WH:xs.length<=9223372036854775807){B:Lo}(hJ:∀w,B.has w->J0 w):EndsT YP B (Qu YP 39 26 (([X7 xs,X7 xs]).map (Q4 0 4))) (.bool true):=by
 exact((Ce xs WH hJ _) (0) rfl (by omega)
  (GoE.start.lM (Cb B xs)
  ⟨(zP rfl),trivial⟩)).cR
theorem Qav(xs:List Int)  :Qv YP J0 39 #[X7 xs,X7 xs] (.bool true):=
 Sf (ts:=[X7 xs,X7 xs]) (xs.length<=9223372036854775807) (fun _ _ ht=>ht.ln (i:=0) rfl) Zc (c0:=Qu YP 39 26 (([X7 xs,X7 xs]).map (Q4 0 4))) (by kernel_rfl) (by kernel_rfl) fun WH B hJ=>Fg xs  WH hJ
end Go.Proofs.Ytncjjangllkokaa

namespace Go.Proofs.Ytncjjangllkokaa
open Go Go.CE Go.RowKit
def rC:Sh:=shS [.int,.int]
def AY:Sh:=shS [.int,.int,rC,.int,.int,rC,rC,.int,.int]
def kR:Sh:=shS [.slice AY,.int,.int]
theorem oN{cs:List Value}(h:rC.ok cs):∃s:Span,cs=QQ s:=by
 obtain⟨_,_,rfl,⟨a,_,rfl⟩,_,_,rfl,⟨b,_,rfl⟩,rfl⟩:=h;exact⟨⟨a,b⟩,rfl⟩
theorem Ej{cs:List Value}(h:AY.ok cs):∃s:Qd,cs=Qt s:=by
 obtain⟨_,_,rfl,⟨a,_,rfl⟩,_,_,rfl,⟨b,_,rfl⟩,_,_,rfl,h3,_,_,rfl,⟨d,_,rfl⟩,_,_,rfl,⟨e,_,rfl⟩,_,_,rfl,h6,_,_,rfl,h7,_,_,rfl,⟨g,_,rfl⟩,_,_,rfl,⟨w,_,rfl⟩,rfl⟩:=h;obtain⟨x,rfl⟩:=oN h3;obtain⟨y,rfl⟩:=oN h6;obtain⟨z,rfl⟩:=oN h7;exact⟨⟨a,b,x.lo,x.hi,d,e,y.lo,y.hi,z.lo,z.hi,g,w⟩,rfl⟩
theorem Mo{v:Value}(h:kR.arg v):∃r:Qc,v=.agg (Q1 r).toArray:=by
 obtain⟨cs,rfl,h⟩:=h;obtain⟨_,_,rfl,h1,_,_,rfl,⟨m,_,rfl⟩,_,_,rfl,⟨n,_,rfl⟩,rfl⟩:=h;obtain⟨xs,rfl⟩:=EL (fun _=>Ej) h1;exact⟨⟨xs,m,n⟩,rfl⟩
end Go.Proofs.Ytncjjangllkokaa

namespace Go.Proofs.Ytncjjangllkokaa
open Go Go.CE Go.RowKit
set_option maxRecDepth 100000
def cu(rf:Qc)(n s:Int):Int:=((VH ((ZT n ((rf.Qa.length:Int)*(rf.Qb-1-s)):Nat):Int) (((XR rf.Qa.length:Nat):Int)-1):Nat):Int)
def QR(rf:Qc)(n:Int):List Int:=Ze rf.Qb fun s=>cu rf n s
theorem Ia{rf:Qc}{n:Int}(k:Nat):(QR rf n).getD k 0=if(k:Int)<rf.Qb then cu rf n k else 0:=by
 by_cases h:(k:Int)<rf.Qb
 ·rw[if_pos h];exact Xc (k:=(k:Int)) (by omega) h
 ·rw[if_neg h,Li,LA (by rw[QR,Xa];omega)];rfl
theorem EK{rf:Qc}{s:Int}(hp:rf.Qa.length<=4)(hs:rf.Qb<=4)(s0:0<=s)(s1:s<rf.Qb):0<=(rf.Qa.length:Int)*(rf.Qb-1-s)/\(rf.Qa.length:Int)*(rf.Qb-1-s)<=12:=by
 refine⟨Int.mul_nonneg (by omega) (by omega), ?_⟩;have:=Int.mul_le_mul (show(rf.Qa.length:Int)<=4 by omega) (show rf.Qb-1-s<=3 by omega) (by omega) (by omega);omega
theorem aq{n:Int}:1<=XR n:=Nat.one_le_two_pow
theorem Bl{rf:Qc}{n s:Int}:0<=cu rf n s/\cu rf n s<=((XR rf.Qa.length:Nat):Int)-1:=by
 have h:=aq (n:=rf.Qa.length);have h2:cu rf n s=(((ZT n ((rf.Qa.length:Int)*(rf.Qb-1-s))) &&& (XR rf.Qa.length-1):Nat):Int):=by
  unfold cu VH;rw[LR,show(((XR rf.Qa.length:Nat):Int)-1).toNat=XR rf.Qa.length-1 by omega]
 have h3:(ZT n ((rf.Qa.length:Int)*(rf.Qb-1-s))) &&& (XR rf.Qa.length-1)<=XR rf.Qa.length-1:=Nat.and_le_right;omega
theorem Zh{rf:Qc}{n:Int}(h:0<=rf.Qb):XJ rf (QR rf n)=true:=by
 simp only[XJ,YB,decide_eq_true_iff,List.all_eq_true,Rk];refine⟨by rw[QR,Xa];omega,fun x hx=> ?_⟩;obtain⟨k,-,rfl⟩:=List.mem_map.1 hx;exact Bl
theorem gi{rf:Qc}{n i x:Int}{k:Nat}(h0:0<=i)(e:x=if(k:Int)<i then cu rf n k else 0):(if i.toNat=k then cu rf n i else x)=if(k:Int)<i+1 then cu rf n k else 0:=by
 by_cases h:i.toNat=k
 ·have hi:i=(k:Int):=by omega
  subst hi;rw[if_pos h,if_pos (by omega)]
 ·rw[if_neg h,e];by_cases h2:(k:Int)<i
  ·rw[if_pos h2,if_pos (by omega)]
  ·rw[if_neg h2,if_neg (by omega)]
theorem kx{rf:Qc}{n i x:Int}{k:Nat}(h:i=rf.Qb)(e:x=if(k:Int)<i then cu rf n k else 0):x=(QR rf n).getD k 0:=by
 rw[Ia,<-h];exact e
def Yb(rf:Qc)(n:Int)(a b c d i:Int):List Value:=[YI n,pA 2 0,pA 3 0,YI (↑rf.Qa.length:Int),YI rf.Qb,YI i]
def V6(rf:Qc)(n:Int)(a b c d i:Int):List Obj:=[Obj.cells #[.slice none 0 0,YI 0,YI 0,YI 0,YI 0,YI 0,YI 0] 84,.cells #[Qk 1 (Xp rf.Qa),YI rf.Qh,YI rf.Qb,YI a,YI b,YI c,YI d] 84 (0,0)]
noncomputable def Yc:List Item:=([.code [1,1,1,0,1,0,0],.inLoop [1,1,1,0,1,0,0],.inBlock 0,.code [1,1,1,1]]).map (it (Q8 YP 90))
def se(B:Lo)(c0:CF)(rf:Qc)(n:Int)(a b c d i:Int):Prop:=∃dJ:Nat->Value,(∀t,Xh (dJ t))/\GoE YP B c0 Zd 1 (QC 90 39 (([1,4,5,6,16,17]:List Nat).zip (Yb rf n a b c d i)) dJ Yc) (Q9 (V6 rf n a b c d i)) (2+(V6 rf n a b c d i).length) []
noncomputable def rW(rf:Qc):Value:=(Xp rf.Qa)
theorem rZ(B:Lo)(rf:Qc)(n:Int)(a b c d i:Int)(Ql:Nat->Value):let s:=rf.Qh;let p:=rW rf;let o:=rf.Qb;let k:=rf.Qb-1-i;let j:=Ld rf.Qa;let g:=XR (↑j:Int);let t:=YI (↑g:Int);let m:=(↑g:Int)-1;let q:=Tri.set 14 Tri.lf 33 (YI m);let f:=(↑j:Int)*k;let r:=Tri.set 14 Tri.lf 29 (YI f);let h:=YI (↑(ZT n f):Int);let e:=VH (↑(ZT n f):Int) m;let l:=YI (↑e:Int);landM (Qn YP (Q0 YP) J0 B 13 1 (QC 90 39 (([1,4,5,6,16,17]:List Nat).zip (Yb rf n a b c d i)) Ql Yc) (Q9 (V6 rf n a b c d i)) (2+(V6 rf n a b c d i).length)
 [(0,Wj),(9,Zu (rf.Qb-1)),(11,Zu k),(12,Zu f),(13,Qf.bin h),(15,Qf.bin t),(16,Zu m),(17,Qf.bin l),(19,Qf.XO (Hint.idx i.toNat)),(20,Qf.XO (Hint.st #[Qk 1 p,YI s,YI o,YI (if Lb i=0 then(↑e:Int)else a),YI (if Lb i=1 then(↑e:Int)else b),YI (if Lb i=2 then(↑e:Int)else c),YI (if Lb i=3 then(↑e:Int)else d)])),(21,Zu (i+1))] 0 [] []) [1,4,5,6,16,17] [(2,KS.auto),(3,KS.auto)] []=some ⟨90,39,Yc,[],.run,none,Yb rf n (if Lb i=0 then(↑e:Int)else a) (if Lb i=1 then(↑e:Int)else b) (if Lb i=2 then(↑e:Int)else c) (if Lb i=3 then(↑e:Int)else d) (i+1),V6 rf n (if Lb i=0 then(↑e:Int)else a) (if Lb i=1 then(↑e:Int)else b) (if Lb i=2 then(↑e:Int)else c) (if Lb i=3 then(↑e:Int)else d) (i+1),
 [wq (i+1)=i+1,3+Lb i*1+TypeInfo.size Try.t3<=LQ #[Qk 1 p,YI s,YI o,YI a,YI b,YI c,YI d]/\splice #[Qk 1 p,YI s,YI o,YI a,YI b,YI c,YI d] (3+Lb i*1) (Value.cells (Xx {len:=16000,tr:=Tri.set 14 (Tri.set 14 Tri.lf 34 l) 36 (.pointer (some {block:=3,off:=3+Lb i*1}))} 34))=#[Qk 1 p,YI s,YI o,YI (if Lb i=0 then(↑e:Int)else a),YI (if Lb i=1 then(↑e:Int)else b),YI (if Lb i=2 then(↑e:Int)else c),YI (if Lb i=3 then(↑e:Int)else d)],i=(↑i.toNat:Int)/\Lb i<4,Yr YP BinOp.and 3 (Xx {len:=16000,tr:=Tri.set 14 q 30 h} 30) (Xx {len:=16000,tr:=Tri.set 14 q 30 h} 33) l,wq m=(↑g:Int)-1,Yr YP BinOp.shl 3 (YI 1) (Xx {len:=16000,tr:=Tri.set 14 Tri.lf 31 (YI (↑j:Int))} 31) t,Yr YP BinOp.shr 3 (Xx {len:=16000,tr:=Tri.set 14 r 21 (YI n)} 21) (Xx {len:=16000,tr:=Tri.set 14 r 21 (YI n)} 29) h,wq f=(↑j:Int)*k,wq k=rf.Qb-1-i,wq (rf.Qb-1)=rf.Qb-1,XB i o=true]⟩:=by intro s p o k j g t m q f r h e l;kernel_rfl
theorem rY(B:Lo)(rf:Qc)(n:Int)(a b c d i:Int)(Ql:Nat->Value):let e:=V6 rf n a b c d i;Xv (Qn YP (Q0 YP) J0 B 9 1 (QC 90 39 (([1,4,5,6,16,17]:List Nat).zip (Yb rf n a b c d i)) Ql Yc) (Q9 e) (2+e.length)
 [(0,WC)] 0 [] []) []=some (.agg #[Xp rf.Qa,YI rf.Qh,YI rf.Qb,YI a,YI b,YI c,YI d],
 [XB i rf.Qb=false]):=by intro e;kernel_rfl
theorem rX(B:Lo)(rf:Qc)(n:Int):landM (Qn YP (Q0 YP) J0 B 11 1 (Qu YP 90 39 (([.agg (Q1 rf).toArray,YI n]).map (Q4 0 4))) Zd 1
 [] 0 [] []) [1,4,5,6,16,17] [(2,KS.auto),(3,KS.auto)] []=some ⟨90,39,Yc,[],.run,none,Yb rf n (0) (0) (0) (0) (0),V6 rf n (0) (0) (0) (0) (0),
 []⟩:=by kernel_rfl
set_option maxHeartbeats 4000000 in
theorem sd(rf:Qc)(n:Int)(hn:1<=rf.Qa.length/\rf.Qa.length<=4)(hs:1<=rf.Qb/\rf.Qb<=4)(h0:0<=n)(h1:n<=65536){B:Lo}(hJ:∀w,B.has w->J0 w){c0:CF}:∀m:Nat,(∀(a b c d i:Int),(rf.Qb-i).toNat=m->∀(i0:0<=i) (i1:i<=rf.Qb) (ea:a=if 0<i then cu rf n 0 else 0) (eb:b=if 1<i then cu rf n 1 else 0) (ec:c=if 2<i then cu rf n 2 else 0) (ed:d=if 3<i then cu rf n 3 else 0),se B c0 rf n a b c d i->EndsT YP B c0 (.agg (QN rf (QR rf n)).toArray)):=by
 intro m0;induction m0 using LB with
 |_ m0 ih0=>
  intro a b c d i Jw i0 i1 ea eb ec ed ⟨Ql,Wl,X0⟩;have hpw:=bK (n:=rf.Qa.length) (by omega);have hpw:=bK (n:=rf.Qa.length) (by omega);have hpo:=aq (n:=rf.Qa.length);have hnd:0<=((VH ((ZT n ((rf.Qa.length:Int)*(rf.Qb-1-i)):Nat):Int) (((XR rf.Qa.length:Nat):Int)-1):Nat):Int)/\((VH ((ZT n ((rf.Qa.length:Int)*(rf.Qb-1-i)):Nat):Int) (((XR rf.Qa.length:Nat):Int)-1):Nat):Int)<=((XR rf.Qa.length:Nat):Int)-1:=Bl;by_cases q0:(i:Int)<rf.Qb
  ·have JF:=EK hn.2 hs.2 i0 q0;have hsr:=cA (n:=n) (k:=(rf.Qa.length:Int)*(rf.Qb-1-i)) h0;exact((ih0 _ (by omega)) (if Lb i=0 then(↑(VH (↑(ZT n ((↑rf.Qa.length:Int)*(rf.Qb-1-i))):Int) ((↑(XR (↑rf.Qa.length:Int)):Int)-1)):Int)else a) (if Lb i=1 then(↑(VH (↑(ZT n ((↑rf.Qa.length:Int)*(rf.Qb-1-i))):Int) ((↑(XR (↑rf.Qa.length:Int)):Int)-1)):Int)else b) (if Lb i=2 then(↑(VH (↑(ZT n ((↑rf.Qa.length:Int)*(rf.Qb-1-i))):Int) ((↑(XR (↑rf.Qa.length:Int)):Int)-1)):Int)else c) (if Lb i=3 then(↑(VH (↑(ZT n ((↑rf.Qa.length:Int)*(rf.Qb-1-i))):Int) ((↑(XR (↑rf.Qa.length:Int)):Int)-1)):Int)else d) (i+1) rfl (by omega) (by omega) (by exact gi (k:=0) i0 ea) (by exact gi (k:=1) i0 eb) (by exact gi (k:=2) i0 ec) (by exact gi (k:=3) i0 ed)
    (X0.lM (rZ B rf n a b c d i Ql)
    ⟨wI,⟨(iv rfl (fs:=[a,b,c,d]) rfl (LO (m:=4) (by omega) rfl) rfl),⟨⟨by omega,by omega⟩,⟨(cq (by omega) (by omega) (by omega) (by omega)),⟨wI,⟨(yG (by omega) (by omega)),⟨(cn (by omega) (by omega) (by omega)),⟨wI,⟨wI,⟨wI,⟨(Xs q0),trivial⟩⟩⟩⟩⟩⟩⟩⟩⟩⟩⟩)).cR
  ·have hsr:=cA (n:=n) (k:=(rf.Qa.length:Int)*(rf.Qb-1-i)) h0;exact(GoE.eT X0 (rY B rf n a b c d i Ql)
    ⟨(nL q0),trivial⟩).cast (by(have hi:=(show i=rf.Qb by omega);rw[kx (k:=0) hi ea,kx (k:=1) hi eb,kx (k:=2) hi ec,kx (k:=3) hi ed];rfl))
set_option maxHeartbeats 4000000 in
theorem vB(rf:Qc)(n:Int)(hn:1<=rf.Qa.length/\rf.Qa.length<=4)(hs:1<=rf.Qb/\rf.Qb<=4)(h0:0<=n)(h1:n<=65536){B:Lo}(hJ:∀w,B.has w->J0 w):EndsT YP B (Qu YP 90 39 (([.agg (Q1 rf).toArray,YI n]).map (Q4 0 4))) (.agg (QN rf (QR rf n)).toArray):=by
 have hpw:=bK (n:=rf.Qa.length) (by omega);exact((sd rf n hn hs h0 h1 hJ _) (0) (0) (0) (0) (0) rfl (by omega) (by omega) (by omega) (by omega) (by omega) (by omega)
  (GoE.start.lM (rX B rf n)
  trivial)).cR
theorem gW(rf:Qc)(n:Int)(hn:1<=rf.Qa.length/\rf.Qa.length<=4)(hs:1<=rf.Qb/\rf.Qb<=4)(h0:0<=n)(h1:n<=65536):Qv YP J0 90 #[.agg (Q1 rf).toArray,YI n] (.agg (QN rf (QR rf n)).toArray):=
 Xd (ts:=[.agg (Q1 rf).toArray,YI n]) Zc (c0:=Qu YP 90 39 (([.agg (Q1 rf).toArray,YI n]).map (Q4 0 4))) (by kernel_rfl) (by kernel_rfl) fun B hJ=>vB rf n hn hs h0 h1 hJ
end Go.Proofs.Ytncjjangllkokaa

namespace Go.Proofs.Ytncjjangllkokaa
open Go Go.CE Go.RowKit
noncomputable section
set_option maxRecDepth 100000
def ct(ps:List Qd)(p:Int):Nat->Int
 |0=>0
 |k+1=>ct ps p k+if hasB p k then(ps.getD k La).XF else 0
def ZD(ps:List Qd)(plan:List Int):Nat->Int
 |0=>0
 |s+1=>ZD ps plan s+ct ps (plan.getD s 0) ps.length
def Xk(rf:Qc)(plan:List Int):Int:=ZD rf.Qa plan rf.Qb.toNat
theorem Zy{rf:Qc}(hr:X4 rf=true){k:Nat}(h:k<rf.Qa.length):0<=(rf.Qa.getD k La).XF/\(rf.Qa.getD k La).XF<=1000000:=
 (Zg ((Qw hr).2 (k:Int) (by omega) (by omega)).1).2.2.2.1
theorem Z6{rf:Qc}(hr:X4 rf=true){p:Int}:∀k:Nat,k<=rf.Qa.length->0<=ct rf.Qa p k/\ct rf.Qa p k<=1000000*k
 |0,_=>⟨LH _,LH _⟩
 |k+1,h=>by
  have ih:=Z6 hr (p:=p) k (by omega);have hw:=Zy hr (k:=k) (by omega);unfold ct;split <;> omega
theorem bg{rf:Qc}(hr:X4 rf=true){plan:List Int}:∀s:Nat,0<=ZD rf.Qa plan s/\ZD rf.Qa plan s<=4000000*s
 |0=>⟨LH _,LH _⟩
 |s+1=>by
  have ih:=bg hr (plan:=plan) s;have hs:=Q2 (Qw hr).1;have hw:=Z6 hr (p:=plan.getD s 0) rf.Qa.length (Lw _);unfold ZD;omega
theorem KL{ps:List Qd}{p i:Int}(h0:0<=i)(h:hasB p i=true):ct ps p (i+1).toNat=ct ps p i.toNat+(ps.getD i.toNat La).XF:=by
 rw[show(i+1).toNat=i.toNat+1 by omega];show _+(if hasB p (i.toNat:Int)=true then _ else _)=_;rw[show((i.toNat:Nat):Int)=i by omega,if_pos h]
theorem dm{ps:List Qd}{p i:Int}(h0:0<=i)(h:hasB p i=false):ct ps p (i+1).toNat=ct ps p i.toNat:=by
 rw[show(i+1).toNat=i.toNat+1 by omega];show _+(if hasB p (i.toNat:Int)=true then _ else _)=_;rw[show((i.toNat:Nat):Int)=i by omega,if_neg (by rw[h];decide),Int.add_zero]
theorem BI{ps:List Qd}{plan:List Int}{i:Int}(h0:0<=i):ZD ps plan (i+1).toNat=ZD ps plan i.toNat+ct ps (plan.getD i.toNat 0) ps.length:=by
 rw[show(i+1).toNat=i.toNat+1 by omega];rfl
def aj(rf:Qc)(plan:List Int)(c s:Int):List Value:=[Qk 1 (X7 plan),pA 2 0,YI c,YI s]
def Ja(rf:Qc)(plan:List Int)(c s:Int):List Obj:=[Obj.cells #[Qk 1 (Xp rf.Qa),YI rf.Qh,YI rf.Qb] 24]
def ak:List Item:=([.code [1,1,0,1,0,0],.inLoop [1,1,0,1,0,0],.inBlock 0,.code [1,1,1]]).map (it (Q8 YP 40))
def Gz(B:Lo)(c0:CF)(rf:Qc)(plan:List Int)(c s:Int):Prop:=∃dJ:Nat->Value,(∀t,Xh (dJ t))/\GoE YP B c0 Zd 1 (QC 40 36 (([1,2,5,6]:List Nat).zip (aj rf plan c s)) dJ ak) (Q9 (Ja rf plan c s)) (2+(Ja rf plan c s).length) []
def P1(rf:Qc)(plan:List Int)(c s i:Int):List Value:=[Qk 1 (X7 plan),pA 2 0,YI c,YI s,YI i,YI s,Qk 1 (X7 plan),YI (↑plan.length:Int),.bool true]
def YZ(rf:Qc)(plan:List Int)(c s i:Int):List Obj:=[Obj.cells #[Qk 1 (Xp rf.Qa),YI rf.Qh,YI rf.Qb] 24]
def P2:List Item:=([.code [1,1,0,1,0,0,1,0,0,1,0,0],.inLoop [1,1,0,1,0,0,1,0,0,1,0,0],.inBlock 2,.inBlock 1,.code [1,1,0,1,0,0,1,1],.inLoop [1,1,0,1,0,0],.inBlock 0,.code [1,1,1]]).map (it (Q8 YP 40))
def Gy(B:Lo)(c0:CF)(rf:Qc)(plan:List Int)(c s i:Int):Prop:=∃dJ:Nat->Value,(∀t,Xh (dJ t))/\GoE YP B c0 Zd 1 (QC 40 36 (([1,2,5,6,7,8,9,10,11]:List Nat).zip (P1 rf plan c s i)) dJ P2) (Q9 (YZ rf plan c s i)) (2+(YZ rf plan c s i).length) []
theorem Gw(B:Lo)(rf:Qc)(plan:List Int)(c s:Int)(Ql:Nat->Value):landM (Qn YP (Q0 YP) J0 B 11 1 (QC 40 36 (([1,2,5,6]:List Nat).zip (aj rf plan c s)) Ql ak) (Q9 (Ja rf plan c s)) (2+(Ja rf plan c s).length)
 [(3,Wj)] 0 [] []) [1,2,5,6,7,8,9,10,11] [(2,KS.auto)] []=some ⟨40,36,P2,[],.run,none,P1 rf plan (c) (s) (0),YZ rf plan (c) (s) (0),
 [XB s (↑plan.length:Int)=true]⟩:=by kernel_rfl
theorem Gv(B:Lo)(rf:Qc)(plan:List Int)(c s:Int)(Ql:Nat->Value):Xv (Qn YP (Q0 YP) J0 B 9 1 (QC 40 36 (([1,2,5,6]:List Nat).zip (aj rf plan c s)) Ql ak) (Q9 (Ja rf plan c s)) (2+(Ja rf plan c s).length)
 [(3,WC)] 0 [] []) []=some (YI c,
 [XB s (↑plan.length:Int)=false]):=by kernel_rfl
def lB(B:Lo)(rf:Qc)(plan:List Int)(c s i:Int)(Ql:Nat->Value):List Prop:=[s=(↑s.toNat:Int)/\Lb s<Ld plan/\Lh (Qe Qy plan) (Lb s*TypeInfo.size Try.t3) (Lb s*TypeInfo.size Try.t3+TypeInfo.size Try.t3)=#[YI (plan.getD s.toNat La)],XB i (↑rf.Qa.length:Int)=true]++([]:List Prop)
def vx(rf:Qc)(plan:List Int)(c s i:Int)(Ql:Nat->Value):QA:=[(4,Wj),(7,Qf.tidx s.toNat #[YI (plan.getD s.toNat La)])]
theorem Gu(B:Lo)(rf:Qc)(plan:List Int)(c s i:Int)(Ql:Nat->Value):let f:=YZ rf plan c s i;let e:=Lb i;let d:=rf.Qa;let a:=d.getD e La;let b:=c+a.XF;landM (Qn YP (Q0 YP) J0 B 14 1 (QC 40 36 (([1,2,5,6,7,8,9,10,11]:List Nat).zip (P1 rf plan c s i)) Ql P2) (Q9 f) (2+f.length)
 (vx rf plan c s i Ql++[(10,Qf.pure (.bool true) []),(15,Qf.tidx e #[YI a.count,YI a.room,YI a.UR,YI a.US,YI a.QI,YI a.Xw,YI a.VB,YI a.VC,YI a.Vr,YI a.Vs,YI a.goal,YI a.XF]),(18,Zu b),(21,Zu (i+1))]) 0 [] []) [1,2,5,6,7,8,9,10,11] [(2,KS.auto)] []=some ⟨40,36,P2,[],.run,none,P1 rf plan b (s) (i+1),YZ rf plan b (s) (i+1),
 [wq (i+1)=i+1,wq b=c+a.XF,i=(↑e:Int)/\Lb i<Ld d/\Lh (Qe Qt d) (Lb i*TypeInfo.size Try.t54) (Lb i*TypeInfo.size Try.t54+TypeInfo.size Try.t54)=#[YI a.count,YI a.room,YI a.UR,YI a.US,YI a.QI,YI a.Xw,YI a.VB,YI a.VC,YI a.Vr,YI a.Vs,YI a.goal,YI a.XF],Qz []/\Qv YP J0 47 #[YI (plan.getD s.toNat La),YI i] (.bool true)]++lB B rf plan c s i Ql⟩:=by intro f e d a b;kernel_rfl
theorem Gt(B:Lo)(rf:Qc)(plan:List Int)(c s i:Int)(Ql:Nat->Value):let a:=YZ rf plan c s i;landM (Qn YP (Q0 YP) J0 B 14 1 (QC 40 36 (([1,2,5,6,7,8,9,10,11]:List Nat).zip (P1 rf plan c s i)) Ql P2) (Q9 a) (2+a.length)
 (vx rf plan c s i Ql++[(10,Qf.pure (.bool false) []),(12,Zu (i+1))]) 0 [] []) [1,2,5,6,7,8,9,10,11] [(2,KS.auto)] []=some ⟨40,36,P2,[],.run,none,P1 rf plan (c) (s) (i+1),YZ rf plan (c) (s) (i+1),
 [wq (i+1)=i+1,Qz []/\Qv YP J0 47 #[YI (plan.getD s.toNat La),YI i] (.bool false)]++lB B rf plan c s i Ql⟩:=by intro a;kernel_rfl
theorem Gs(B:Lo)(rf:Qc)(plan:List Int)(c s i:Int)(Ql:Nat->Value):let a:=YZ rf plan c s i;landM (Qn YP (Q0 YP) J0 B 8 1 (QC 40 36 (([1,2,5,6,7,8,9,10,11]:List Nat).zip (P1 rf plan c s i)) Ql P2) (Q9 a) (2+a.length)
 [(4,WC),(6,Zu (s+1))] 0 [] []) [1,2,5,6] [(2,KS.auto)] []=some ⟨40,36,ak,[],.run,none,aj rf plan (c) (s+1),Ja rf plan (c) (s+1),
 [wq (s+1)=s+1,XB i (↑rf.Qa.length:Int)=false]⟩:=by intro a;kernel_rfl
theorem Gr(B:Lo)(rf:Qc)(plan:List Int):landM (Qn YP (Q0 YP) J0 B 9 1 (Qu YP 40 36 (([.agg (Q1 rf).toArray,X7 plan]).map (Q4 0 4))) Zd 1
 [] 0 [] []) [1,2,5,6] [(1,KS.auto)] []=some ⟨40,36,ak,[],.run,none,aj rf plan (0) (0),Ja rf plan (0) (0),
 []⟩:=by kernel_rfl
set_option maxHeartbeats 4000000 in
theorem Gx(rf:Qc)(plan:List Int)(hr:X4 rf=true)(hp:XJ rf plan=true){B:Lo}(hJ:∀w,B.has w->J0 w){c0:CF}:∀m:Nat,(∀(c s:Int),100*(rf.Qb-s).toNat=m->∀(s0:0<=s) (s1:s<=rf.Qb) (ec:c=ZD rf.Qa plan s.toNat),Gz B c0 rf plan c s->EndsT YP B c0 (YI (Xk rf plan)))/\(∀(c s i:Int),100*(rf.Qb-s).toNat-50+(rf.Qa.length-i.toNat)=m->∀(s0:0<=s) (s1:s<rf.Qb) (i0:0<=i) (i1:i<=rf.Qa.length) (ec:c=ZD rf.Qa plan s.toNat+ct rf.Qa (plan.getD s.toNat 0) i.toNat),Gy B c0 rf plan c s i->EndsT YP B c0 (YI (Xk rf plan))):=by
 intro m0;induction m0 using LB with
 |_ m0 ih0=>
  refine⟨?_, ?_⟩
  ·intro c s Jw s0 s1 ec ⟨Ql,Wl,X0⟩;have Zi:=Q2 (Qw hr).1;have hpf:=(Xz hp).1;have Zi:=Q2 (Qw hr).1;have hpf:=(Xz hp).1;by_cases q0:(s:Int)<((↑plan.length:Int))
   ·exact((ih0 _ (by omega)).2 (c) (s) (0) rfl ‹_› (by omega) (by omega) (by omega) (by(rw[ec];exact(Int.add_zero _).symm))
     (X0.lM (Gw B rf plan c s Ql)
     ⟨(Xs q0),trivial⟩)).cR
   ·exact(GoE.eT X0 (Gv B rf plan c s Ql)
     ⟨(nL q0),trivial⟩).cast (by(rw[ec,show s=rf.Qb by omega];rfl))
  ·intro c s i Jw s0 s1 i0 i1 ec ⟨Ql,Wl,X0⟩;have Zi:=Q2 (Qw hr).1;have hpf:=(Xz hp).1;have Zi:=Q2 (Qw hr).1;have hpf:=(Xz hp).1;have hwa:=bg hr (plan:=plan) s.toNat;have hws:=Z6 hr (p:=plan.getD s.toNat 0) i.toNat (by omega);have hpg:0<=plan.getD s.toNat La/\plan.getD s.toNat La<=15:=Z1 hr hp s.toNat;have hnx:=BI (ps:=rf.Qa) (plan:=plan) s0;by_cases q0:(i:Int)<((↑rf.Qa.length:Int))
   ·have VO:Qz (lB B rf plan c s i Ql):=by
     have hwo:=Zy hr (k:=i.toNat) (by omega);exact⟨(iX (lX 1)),⟨(Xs q0),trivial⟩⟩
    cases q1:hasB (plan.getD s.toNat La) i with
    |true=>
     have hwo:=Zy hr (k:=i.toNat) (by omega);have hyes:=KL (ps:=rf.Qa) (p:=plan.getD s.toNat 0) i0 ‹hasB _ i=true›;exact((ih0 _ (by omega)).2 (c+Qd.XF (rf.Qa.getD i.toNat La)) (s) (i+1) rfl ‹_› ‹_› (by omega) (by omega) (by omega)
      (X0.lM (Gu B rf plan c s i Ql)
      ⟨wI,⟨wI,⟨(iX (lX 12)),⟨⟨trivial,(dB (YN (plan.getD s.toNat La) (i) (by omega) (by omega)) q1)⟩,VO⟩⟩⟩⟩)).cR
    |false=>
     have hwo:=Zy hr (k:=i.toNat) (by omega);have hno:=dm (ps:=rf.Qa) (p:=plan.getD s.toNat 0) i0 ‹hasB _ i=false›;exact((ih0 _ (by omega)).2 (c) (s) (i+1) rfl ‹_› ‹_› (by omega) (by omega) (by omega)
      (X0.lM (Gt B rf plan c s i Ql)
      ⟨wI,⟨⟨trivial,(dB (YN (plan.getD s.toNat La) (i) (by omega) (by omega)) q1)⟩,VO⟩⟩)).cR
   ·exact((ih0 _ (by omega)).1 (c) (s+1) rfl (by omega) (by omega) (by(rw[ec,hnx,show i.toNat=rf.Qa.length by omega]))
     (X0.lM (Gs B rf plan c s i Ql)
     ⟨wI,⟨(nL q0),trivial⟩⟩)).cR
set_option maxHeartbeats 4000000 in
theorem Nl(rf:Qc)(plan:List Int)(hr:X4 rf=true)(hp:XJ rf plan=true){B:Lo}(hJ:∀w,B.has w->J0 w):EndsT YP B (Qu YP 40 36 (([.agg (Q1 rf).toArray,X7 plan]).map (Q4 0 4))) (YI (Xk rf plan)):=by
 have Zi:=Q2 (Qw hr).1;have hpf:=(Xz hp).1;exact((Gx rf plan hr hp hJ _).1 (0) (0) rfl (by omega) (by omega) (by rfl)
  (GoE.start.lM (Gr B rf plan)
  trivial)).cR
theorem G0(rf:Qc)(plan:List Int)(hr:X4 rf=true)(hp:XJ rf plan=true):Qv YP J0 40 #[.agg (Q1 rf).toArray,X7 plan] (YI (Xk rf plan)):=
 Xd (ts:=[.agg (Q1 rf).toArray,X7 plan]) Zc (c0:=Qu YP 40 36 (([.agg (Q1 rf).toArray,X7 plan]).map (Q4 0 4))) (by kernel_rfl) (by kernel_rfl) fun B hJ=>Nl rf plan hr hp hJ
theorem ky{rf:Qc}{plan:List Int}{k:Nat}(h:rf.Qb=k):ZD rf.Qa plan k=Xk rf plan:=by
 unfold Xk;rw[h];rfl
theorem jQ{ps:List Qd}{plan:List Int}{e i:Int}{s:Nat}(h:e=ZD ps plan s+ct ps (plan.getD s 0) i.toNat)(h0:0<=i)(hi:i<=ps.length)(hn:¬i<ps.length):e=ZD ps plan (s+1):=by
 rw[h,show i.toNat=ps.length by omega];rfl
def Jo(x_:Qd):Array Value:=#[YI x_.count,YI x_.room,YI x_.UR,YI x_.US,YI x_.QI,YI x_.Xw,YI x_.VB,YI x_.VC,YI x_.Vr,YI x_.Vs,YI x_.goal,YI x_.XF]
def Ht(rf:Qc)(plan:List Int):Array Value:=let h:=rf.Qh;let g:=plan.getD 3 0;let f:=plan.getD 2 0;let e:=plan.getD 1 0;let d:=plan.getD 0 0;let b:=rf.Qb;let a:=rf.Qa;let c:=Xo a.length (Qe Qt a);#[.agg #[Qk 0 c,YI h,YI b,YI d,YI e,YI f,YI g],pA 1 0,YI 0,pA 2 0,YI 2,.tuple #[],pA 1 0,pA 1 2,YI b,YI 2,.bool true,YI 2,.agg #[Qk 0 c,YI h,YI b,YI d,YI e,YI f,YI g],YI 2,Value.func (Fn.func 112) #[] #[Qk 11 (ZU 0 #[Xo a.length (Qe Qt a),YI h,YI b,YI d,YI e,YI f,YI g]),Qk 11 (ZU 0 #[YI 2])],.tuple #[],.tuple #[],.tuple #[],.tuple #[],.tuple #[],.tuple #[],.tuple #[],.tuple #[],.tuple #[],.tuple #[],YI 2,.tuple #[]]
def Hr(rf:Qc)(plan:List Int):Array Value:=let h:=rf.Qh;let g:=plan.getD 3 0;let f:=plan.getD 2 0;let e:=plan.getD 1 0;let d:=plan.getD 0 0;let b:=rf.Qb;let a:=rf.Qa;let c:=Xo a.length (Qe Qt a);#[.agg #[Qk 0 c,YI h,YI b,YI d,YI e,YI f,YI g],pA 1 0,YI 0,pA 2 0,YI 3,.tuple #[],pA 1 0,pA 1 2,YI b,YI 3,.bool true,YI 3,.agg #[Qk 0 c,YI h,YI b,YI d,YI e,YI f,YI g],YI 3,Value.func (Fn.func 112) #[] #[Qk 15 (ZU 0 #[Xo a.length (Qe Qt a),YI h,YI b,YI d,YI e,YI f,YI g]),Qk 15 (ZU 0 #[YI 3])],.tuple #[],.tuple #[],.tuple #[],.tuple #[],.tuple #[],.tuple #[],.tuple #[],.tuple #[],.tuple #[],.tuple #[],YI 3,.tuple #[]]
def Hq(rf:Qc)(plan:List Int):Array Value:=let h:=rf.Qh;let g:=plan.getD 3 0;let f:=plan.getD 2 0;let e:=plan.getD 1 0;let d:=plan.getD 0 0;let b:=rf.Qb;let a:=rf.Qa;let c:=Xo a.length (Qe Qt a);#[.agg #[Qk 0 c,YI h,YI b,YI d,YI e,YI f,YI g],pA 1 0,YI 0,pA 2 0,YI 1,.tuple #[],pA 1 0,pA 1 2,YI b,YI 1,.bool true,YI 1,.agg #[Qk 0 c,YI h,YI b,YI d,YI e,YI f,YI g],YI 1,Value.func (Fn.func 112) #[] #[Qk 7 (ZU 0 #[Xo a.length (Qe Qt a),YI h,YI b,YI d,YI e,YI f,YI g]),Qk 7 (ZU 0 #[YI 1])],.tuple #[],.tuple #[],.tuple #[],.tuple #[],.tuple #[],.tuple #[],.tuple #[],.tuple #[],.tuple #[],.tuple #[],YI 1,.tuple #[]]
def Hp(rf:Qc)(plan:List Int):Array Value:=let h:=rf.Qh;let g:=plan.getD 3 0;let f:=plan.getD 2 0;let e:=plan.getD 1 0;let d:=plan.getD 0 0;let b:=rf.Qb;let a:=rf.Qa;let c:=Xo a.length (Qe Qt a);#[.agg #[Qk 0 c,YI h,YI b,YI d,YI e,YI f,YI g],pA 1 0,YI 0,pA 2 0,YI 0,.tuple #[],pA 1 0,pA 1 2,YI b,YI 0,.bool true,YI 0,.agg #[Qk 0 c,YI h,YI b,YI d,YI e,YI f,YI g],YI 0,Value.func (Fn.func 112) #[] #[Qk 3 (ZU 0 #[Xo a.length (Qe Qt a),YI h,YI b,YI d,YI e,YI f,YI g]),Qk 3 (ZU 0 #[YI 0])],.tuple #[],.tuple #[],.tuple #[],.tuple #[],.tuple #[],.tuple #[],.tuple #[],.tuple #[],.tuple #[],.tuple #[],.tuple #[],.tuple #[]]
def eH(rf:Qc)(plan:List Int):Array Value:=#[Qk 0 (Xp rf.Qa),YI rf.Qh,YI rf.Qb,YI (plan.getD 0 0),YI (plan.getD 1 0),YI (plan.getD 2 0),YI (plan.getD 3 0)]
def P7(rf:Qc)(plan:List Int):Value:=(ZU 0 #[Xp rf.Qa,YI rf.Qh,YI rf.Qb,YI (plan.getD 0 0),YI (plan.getD 1 0),YI (plan.getD 2 0),YI (plan.getD 3 0)])
def VK(rf:Qc)(plan:List Int):Array Value:=#[Xp rf.Qa,YI rf.Qh,YI rf.Qb,YI (plan.getD 0 0),YI (plan.getD 1 0),YI (plan.getD 2 0),YI (plan.getD 3 0)]
def Jn(rf:Qc)(e i:Int):Array Value:=#[YI (e+Qd.XF (rf.Qa.getD i.toNat La))]
def ZM(rf:Qc)(plan:List Int):Obj:=Obj.loop {state:=LoopState.ready,pending:=none,fn:=67,tmps:=#[.agg #[Qk 0 (Xp rf.Qa),YI rf.Qh,YI rf.Qb,YI (plan.getD 0 0),YI (plan.getD 1 0),YI (plan.getD 2 0),YI (plan.getD 3 0)],pA 1 0,YI 0,pA 2 0,YI 0,.tuple #[],pA 1 0,pA 1 2,YI rf.Qb,YI 0,.bool true,YI 0,.agg #[Qk 0 (Xp rf.Qa),YI rf.Qh,YI rf.Qb,YI (plan.getD 0 0),YI (plan.getD 1 0),YI (plan.getD 2 0),YI (plan.getD 3 0)],YI 0,Value.func (Fn.func 112) #[] #[Qk 3 (ZU 0 #[Xp rf.Qa,YI rf.Qh,YI rf.Qb,YI (plan.getD 0 0),YI (plan.getD 1 0),YI (plan.getD 2 0),YI (plan.getD 3 0)]),Qk 3 (ZU 0 #[YI 0])],.tuple #[],.tuple #[],.tuple #[],.tuple #[],.tuple #[],.tuple #[],.tuple #[],.tuple #[],.tuple #[],.tuple #[],.tuple #[],.tuple #[]],params:=#[15],assign:=UD (Q8 YP 67) [1,1,0,1,0,0,1,1,0,0,1,1,0,0],body:=UD (Q8 YP 67) [1,1,0,1,0,0,1,1,0,0,1,1,0,1],defers:=4}
def W9(rf:Qc)(plan:List Int):Obj:=Obj.loop {state:=LoopState.ready,pending:=none,fn:=67,tmps:=#[.agg #[Qk 0 (Xp rf.Qa),YI rf.Qh,YI rf.Qb,YI (plan.getD 0 0),YI (plan.getD 1 0),YI (plan.getD 2 0),YI (plan.getD 3 0)],pA 1 0,YI 0,pA 2 0,YI 1,.tuple #[],pA 1 0,pA 1 2,YI rf.Qb,YI 1,.bool true,YI 1,.agg #[Qk 0 (Xp rf.Qa),YI rf.Qh,YI rf.Qb,YI (plan.getD 0 0),YI (plan.getD 1 0),YI (plan.getD 2 0),YI (plan.getD 3 0)],YI 1,Value.func (Fn.func 112) #[] #[Qk 7 (ZU 0 #[Xp rf.Qa,YI rf.Qh,YI rf.Qb,YI (plan.getD 0 0),YI (plan.getD 1 0),YI (plan.getD 2 0),YI (plan.getD 3 0)]),Qk 7 (ZU 0 #[YI 1])],.tuple #[],.tuple #[],.tuple #[],.tuple #[],.tuple #[],.tuple #[],.tuple #[],.tuple #[],.tuple #[],.tuple #[],YI 1,.tuple #[]],params:=#[15],assign:=UD (Q8 YP 67) [1,1,0,1,0,0,1,1,0,0,1,1,0,0],body:=UD (Q8 YP 67) [1,1,0,1,0,0,1,1,0,0,1,1,0,1],defers:=8}
def VL(rf:Qc)(plan:List Int):Obj:=Obj.loop {state:=LoopState.ready,pending:=none,fn:=67,tmps:=#[.agg #[Qk 0 (Xp rf.Qa),YI rf.Qh,YI rf.Qb,YI (plan.getD 0 0),YI (plan.getD 1 0),YI (plan.getD 2 0),YI (plan.getD 3 0)],pA 1 0,YI 0,pA 2 0,YI 2,.tuple #[],pA 1 0,pA 1 2,YI rf.Qb,YI 2,.bool true,YI 2,.agg #[Qk 0 (Xp rf.Qa),YI rf.Qh,YI rf.Qb,YI (plan.getD 0 0),YI (plan.getD 1 0),YI (plan.getD 2 0),YI (plan.getD 3 0)],YI 2,Value.func (Fn.func 112) #[] #[Qk 11 (ZU 0 #[Xp rf.Qa,YI rf.Qh,YI rf.Qb,YI (plan.getD 0 0),YI (plan.getD 1 0),YI (plan.getD 2 0),YI (plan.getD 3 0)]),Qk 11 (ZU 0 #[YI 2])],.tuple #[],.tuple #[],.tuple #[],.tuple #[],.tuple #[],.tuple #[],.tuple #[],.tuple #[],.tuple #[],.tuple #[],YI 2,.tuple #[]],params:=#[15],assign:=UD (Q8 YP 67) [1,1,0,1,0,0,1,1,0,0,1,1,0,0],body:=UD (Q8 YP 67) [1,1,0,1,0,0,1,1,0,0,1,1,0,1],defers:=12}
def Ye(rf:Qc)(plan:List Int):Obj:=Obj.loop {state:=LoopState.ready,pending:=none,fn:=67,tmps:=#[.agg #[Qk 0 (Xp rf.Qa),YI rf.Qh,YI rf.Qb,YI (plan.getD 0 0),YI (plan.getD 1 0),YI (plan.getD 2 0),YI (plan.getD 3 0)],pA 1 0,YI 0,pA 2 0,YI 3,.tuple #[],pA 1 0,pA 1 2,YI rf.Qb,YI 3,.bool true,YI 3,.agg #[Qk 0 (Xp rf.Qa),YI rf.Qh,YI rf.Qb,YI (plan.getD 0 0),YI (plan.getD 1 0),YI (plan.getD 2 0),YI (plan.getD 3 0)],YI 3,Value.func (Fn.func 112) #[] #[Qk 15 (ZU 0 #[Xp rf.Qa,YI rf.Qh,YI rf.Qb,YI (plan.getD 0 0),YI (plan.getD 1 0),YI (plan.getD 2 0),YI (plan.getD 3 0)]),Qk 15 (ZU 0 #[YI 3])],.tuple #[],.tuple #[],.tuple #[],.tuple #[],.tuple #[],.tuple #[],.tuple #[],.tuple #[],.tuple #[],.tuple #[],YI 3,.tuple #[]],params:=#[15],assign:=UD (Q8 YP 67) [1,1,0,1,0,0,1,1,0,0,1,1,0,0],body:=UD (Q8 YP 67) [1,1,0,1,0,0,1,1,0,0,1,1,0,1],defers:=16}
def Yd(rf:Qc)(plan:List Int):Obj:=Obj.loop {state:=LoopState.exhausted,pending:=none,fn:=67,tmps:=#[.agg #[Qk 0 (Xp rf.Qa),YI rf.Qh,YI rf.Qb,YI (plan.getD 0 0),YI (plan.getD 1 0),YI (plan.getD 2 0),YI (plan.getD 3 0)],pA 1 0,YI 0,pA 2 0,YI 0,.tuple #[],pA 1 0,pA 1 2,YI rf.Qb,YI 0,.bool true,YI 0,.agg #[Qk 0 (Xp rf.Qa),YI rf.Qh,YI rf.Qb,YI (plan.getD 0 0),YI (plan.getD 1 0),YI (plan.getD 2 0),YI (plan.getD 3 0)],YI 0,Value.func (Fn.func 112) #[] #[Qk 3 (ZU 0 #[Xp rf.Qa,YI rf.Qh,YI rf.Qb,YI (plan.getD 0 0),YI (plan.getD 1 0),YI (plan.getD 2 0),YI (plan.getD 3 0)]),Qk 3 (ZU 0 #[YI 0])],.tuple #[],.tuple #[],.tuple #[],.tuple #[],.tuple #[],.tuple #[],.tuple #[],.tuple #[],.tuple #[],.tuple #[],.tuple #[],.tuple #[]],params:=#[15],assign:=UD (Q8 YP 67) [1,1,0,1,0,0,1,1,0,0,1,1,0,0],body:=UD (Q8 YP 67) [1,1,0,1,0,0,1,1,0,0,1,1,0,1],defers:=4}
def Sr(rf:Qc)(plan:List Int):Obj:=Obj.loop {state:=LoopState.exhausted,pending:=none,fn:=67,tmps:=#[.agg #[Qk 0 (Xp rf.Qa),YI rf.Qh,YI rf.Qb,YI (plan.getD 0 0),YI (plan.getD 1 0),YI (plan.getD 2 0),YI (plan.getD 3 0)],pA 1 0,YI 0,pA 2 0,YI 1,.tuple #[],pA 1 0,pA 1 2,YI rf.Qb,YI 1,.bool true,YI 1,.agg #[Qk 0 (Xp rf.Qa),YI rf.Qh,YI rf.Qb,YI (plan.getD 0 0),YI (plan.getD 1 0),YI (plan.getD 2 0),YI (plan.getD 3 0)],YI 1,Value.func (Fn.func 112) #[] #[Qk 7 (ZU 0 #[Xp rf.Qa,YI rf.Qh,YI rf.Qb,YI (plan.getD 0 0),YI (plan.getD 1 0),YI (plan.getD 2 0),YI (plan.getD 3 0)]),Qk 7 (ZU 0 #[YI 1])],.tuple #[],.tuple #[],.tuple #[],.tuple #[],.tuple #[],.tuple #[],.tuple #[],.tuple #[],.tuple #[],.tuple #[],YI 1,.tuple #[]],params:=#[15],assign:=UD (Q8 YP 67) [1,1,0,1,0,0,1,1,0,0,1,1,0,0],body:=UD (Q8 YP 67) [1,1,0,1,0,0,1,1,0,0,1,1,0,1],defers:=8}
def mC(rf:Qc)(plan:List Int):Obj:=Obj.loop {state:=LoopState.exhausted,pending:=none,fn:=67,tmps:=#[.agg #[Qk 0 (Xp rf.Qa),YI rf.Qh,YI rf.Qb,YI (plan.getD 0 0),YI (plan.getD 1 0),YI (plan.getD 2 0),YI (plan.getD 3 0)],pA 1 0,YI 0,pA 2 0,YI 2,.tuple #[],pA 1 0,pA 1 2,YI rf.Qb,YI 2,.bool true,YI 2,.agg #[Qk 0 (Xp rf.Qa),YI rf.Qh,YI rf.Qb,YI (plan.getD 0 0),YI (plan.getD 1 0),YI (plan.getD 2 0),YI (plan.getD 3 0)],YI 2,Value.func (Fn.func 112) #[] #[Qk 11 (ZU 0 #[Xp rf.Qa,YI rf.Qh,YI rf.Qb,YI (plan.getD 0 0),YI (plan.getD 1 0),YI (plan.getD 2 0),YI (plan.getD 3 0)]),Qk 11 (ZU 0 #[YI 2])],.tuple #[],.tuple #[],.tuple #[],.tuple #[],.tuple #[],.tuple #[],.tuple #[],.tuple #[],.tuple #[],.tuple #[],YI 2,.tuple #[]],params:=#[15],assign:=UD (Q8 YP 67) [1,1,0,1,0,0,1,1,0,0,1,1,0,0],body:=UD (Q8 YP 67) [1,1,0,1,0,0,1,1,0,0,1,1,0,1],defers:=12}
def eS(rf:Qc)(plan:List Int):Obj:=Obj.loop {state:=LoopState.ready,pending:=none,fn:=67,tmps:=(Ht rf plan),params:=#[15],assign:=UD (Q8 YP 67) [1,1,0,1,0,0,1,1,0,0,1,1,0,0],body:=UD (Q8 YP 67) [1,1,0,1,0,0,1,1,0,0,1,1,0,1],defers:=12}
def eQ(rf:Qc)(plan:List Int):Obj:=Obj.loop {state:=LoopState.ready,pending:=none,fn:=67,tmps:=(Hr rf plan),params:=#[15],assign:=UD (Q8 YP 67) [1,1,0,1,0,0,1,1,0,0,1,1,0,0],body:=UD (Q8 YP 67) [1,1,0,1,0,0,1,1,0,0,1,1,0,1],defers:=16}
def eP(rf:Qc)(plan:List Int):Obj:=Obj.loop {state:=LoopState.ready,pending:=none,fn:=67,tmps:=(Hp rf plan),params:=#[15],assign:=UD (Q8 YP 67) [1,1,0,1,0,0,1,1,0,0,1,1,0,0],body:=UD (Q8 YP 67) [1,1,0,1,0,0,1,1,0,0,1,1,0,1],defers:=4}
def bR(rf:Qc)(plan:List Int):Obj:=Obj.loop {state:=LoopState.ready,pending:=none,fn:=67,tmps:=(Hq rf plan),params:=#[15],assign:=UD (Q8 YP 67) [1,1,0,1,0,0,1,1,0,0,1,1,0,0],body:=UD (Q8 YP 67) [1,1,0,1,0,0,1,1,0,0,1,1,0,1],defers:=8}
def wc(B:Lo)(rf:Qc)(plan:List Int):List Prop:=[XB 0 rf.Qb=true]++([]:List Prop)
def vW(rf:Qc)(plan:List Int):QA:=[(8,Wj),(13,Qf.call (Le 3) (OO.ret (Value.func (Fn.func 112) #[] #[Qk 3 (P7 rf plan),Qk 3 (ZU 0 #[YI 0])])) ([]++(3,QV)::QL 4 []) 4 []),(14,Qf.call (Le 6) (OO.ret (.tuple #[])) ([(5,(eP rf plan)),(2,Obj.cells #[YI (ZD rf.Qa plan 1)] 3)]++(6,QV)::QL 7 []) 7 [5,2])]
def aJ(rf:Qc)(plan:List Int):Qm:=[(2,Obj.cells #[YI 0] 3),(1,Obj.cells #[Qk 0 (Xp rf.Qa),YI rf.Qh,YI rf.Qb,YI (plan.getD 0 0),YI (plan.getD 1 0),YI (plan.getD 2 0),YI (plan.getD 3 0)] 84),(0,Obj.coro none)]
def eO(rf:Qc)(plan:List Int):CF:=⟨91,ofList 6 [.agg #[Qk 0 (Xp rf.Qa),YI rf.Qh,YI rf.Qb,YI (plan.getD 0 0),YI (plan.getD 1 0),YI (plan.getD 2 0),YI (plan.getD 3 0)],YI 0],[Item.code (Q8 YP 91)],[],.run,none⟩
theorem H6(B:Lo)(rf:Qc)(plan:List Int):let a:=rf.Qa;CE.finK 3 (Qn YP (Q0 YP) J0 B 6 3 (eO rf plan) (aJ rf plan) 3
 [] 0 [] []) [] [] [{k:=3,rs:=[0],cs:=#[Xo a.length (Qe Qt a),YI rf.Qh,YI rf.Qb,YI (plan.getD 0 0),YI (plan.getD 1 0),YI (plan.getD 2 0),YI (plan.getD 3 0)]},{k:=4,rs:=[],cs:=#[YI 0]}]=some (OO.ret (Value.func (Fn.func 112) #[] #[Qk 3 (ZU 0 #[Xo a.length (Qe Qt a),YI rf.Qh,YI rf.Qb,YI (plan.getD 0 0),YI (plan.getD 1 0),YI (plan.getD 2 0),YI (plan.getD 3 0)]),Qk 3 (ZU 0 #[YI 0])]),[],[],
 [X1 (Fz.rs {k:=3,rs:=[0],cs:=(VK rf plan)}) (eH rf plan) (Fz.cs {k:=3,rs:=[0],cs:=(VK rf plan)}),X1 (Fz.rs {k:=4,rs:=[],cs:=#[YI 0]}) #[YI 0] (Fz.cs {k:=4,rs:=[],cs:=#[YI 0]})]):=by intro a;kernel_rfl
def wb(B:Lo)(rf:Qc)(plan:List Int):List Prop:=[FJ YP B (eO rf plan) (aJ rf plan) 3 (OO.ret (Value.func (Fn.func 112) #[] #[Qk 3 (P7 rf plan),Qk 3 (ZU 0 #[YI 0])])) (([]++((3,QV)::QL (3+1) []))++aJ rf plan) 4 (Le 3) []]++wc B rf plan
def U2(rf:Qc)(plan:List Int):Qm:=[(5,(ZM rf plan)),(4,Obj.deferred (some [])),(3,Obj.coro none),(2,Obj.cells #[YI 0] 3),(1,Obj.cells #[Qk 0 (Xp rf.Qa),YI rf.Qh,YI rf.Qb,YI (plan.getD 0 0),YI (plan.getD 1 0),YI (plan.getD 2 0),YI (plan.getD 3 0)] 84),(0,Obj.coro none)]
def Sq(rf:Qc)(plan:List Int):CF:=⟨112,ofList 27 [Value.func (Fn.yield 5) #[] #[],Qk 3 (ZU 0 #[Xp rf.Qa,YI rf.Qh,YI rf.Qb,YI (plan.getD 0 0),YI (plan.getD 1 0),YI (plan.getD 2 0),YI (plan.getD 3 0)]),Qk 3 (ZU 0 #[YI 0])],[Item.code (Q8 YP 112)],[],.run,none⟩
def Uy(rf:Qc)(plan:List Int)(e i:Int):List Value:=let a:=rf.Qa;[Value.func (Fn.yield 5) #[] #[],Qk 3 (ZU 0 #[Xo a.length (Qe Qt a),YI rf.Qh,YI rf.Qb,YI (plan.getD 0 0),YI (plan.getD 1 0),YI (plan.getD 2 0),YI (plan.getD 3 0)]),Qk 3 (ZU 0 #[YI 0]),YI (↑a.length:Int),YI i]
def Ux(rf:Qc)(plan:List Int)(e i:Int):List Obj:=[(ZM rf plan),.cells #[YI e] 3 (0,0)]
def Vw(rf:Qc)(plan:List Int)(e i:Int):List Obj:=[]
def Uz:List Item:=([.code [1,0,0],.inLoop [1,0,0],.inBlock 0]).map (it (Q8 YP 112))
def mB(B:Lo)(rf:Qc)(plan:List Int)(e i:Int)(Ql:Nat->Value):List Prop:=let b:=Tri.set 14 Tri.lf 16 (YI i);let a:=Qj [plan.getD 0 0,plan.getD 1 0,plan.getD 2 0,plan.getD 3 0] 0;let d:=YI a;let c:=YI (↑(ZT a i):Int);[Yr YP BinOp.and 3 (Xx {len:=16000,tr:=Tri.set 14 Tri.lf 17 c} 17) (YI 1) (YI (↑(VH (↑(ZT a i):Int) 1):Int)),Yr YP BinOp.shr 3 (Xx {len:=16000,tr:=Tri.set 14 b 15 d} 15) (Xx {len:=16000,tr:=Tri.set 14 b 15 d} 16) c,0=(↑0:Int)/\0<4/\Lh (VK rf plan) (3+0*TypeInfo.size Try.t3) (3+0*TypeInfo.size Try.t3+TypeInfo.size Try.t3)=#[YI a],XB i (↑rf.Qa.length:Int)=true]++([]:List Prop)
def vV(rf:Qc)(plan:List Int)(e i:Int)(Ql:Nat->Value):QA:=let a:=Qj [plan.getD 0 0,plan.getD 1 0,plan.getD 2 0,plan.getD 3 0] 0;[(0,Wj),(5,Qf.tarr 0 #[YI a]),(8,Qf.bin (YI (↑(ZT a i):Int))),(9,Qf.bin (YI (↑(VH (↑(ZT a i):Int) 1):Int)))]
def aI(rf:Qc)(plan:List Int)(e i:Int)(Ql:Nat->Value):Qm:=[(5,(ZM rf plan)),(2,Obj.cells #[YI e] 3),(6,Obj.coro none),(5,(ZM rf plan)),(4,Obj.deferred (some [])),(3,Obj.coro none),(2,Obj.cells #[YI 0] 3),(1,Obj.cells #[Qk 0 (Xp rf.Qa),YI rf.Qh,YI rf.Qb,YI (plan.getD 0 0),YI (plan.getD 1 0),YI (plan.getD 2 0),YI (plan.getD 3 0)] 84),(0,Obj.coro none)]
def eN(rf:Qc)(plan:List Int)(e i:Int)(Ql:Nat->Value):CF:=⟨67,ofList 27 [.agg #[Qk 0 (Xp rf.Qa),YI rf.Qh,YI rf.Qb,YI (plan.getD 0 0),YI (plan.getD 1 0),YI (plan.getD 2 0),YI (plan.getD 3 0)],pA 1 0,YI 0,pA 2 0,YI 0,.tuple #[],pA 1 0,pA 1 2,YI rf.Qb,YI 0,.bool true,YI 0,.agg #[Qk 0 (Xp rf.Qa),YI rf.Qh,YI rf.Qb,YI (plan.getD 0 0),YI (plan.getD 1 0),YI (plan.getD 2 0),YI (plan.getD 3 0)],YI 0,Value.func (Fn.func 112) #[] #[Qk 3 (ZU 0 #[Xp rf.Qa,YI rf.Qh,YI rf.Qb,YI (plan.getD 0 0),YI (plan.getD 1 0),YI (plan.getD 2 0),YI (plan.getD 3 0)]),Qk 3 (ZU 0 #[YI 0])],YI i,.tuple #[],.tuple #[],.tuple #[],.tuple #[],.tuple #[],.tuple #[],.tuple #[],.tuple #[],.tuple #[],.tuple #[],.tuple #[]],[Item.code (UD (Q8 YP 67) [1,1,0,1,0,0,1,1,0,0,1,1,0,0]),Item.beginRound,Item.code (UD (Q8 YP 67) [1,1,0,1,0,0,1,1,0,0,1,1,0,1])],[],.run,some 5⟩
theorem H4(B:Lo)(rf:Qc)(plan:List Int)(e i:Int)(Ql:Nat->Value):let d:=Lb i;let c:=rf.Qa;let a:=c.getD d La;let b:=e+a.XF;CE.finK 7 (Qn YP (Q0 YP) J0 B 6 7 (eN rf plan e i Ql) (aI rf plan e i Ql) 7
 [(6,Qf.tidx d (Jo a)),(9,Zu b)] 0 [] []) [(5,KS.auto),(2,KS.auto)] [] []=some (OO.ret (.bool true),[(5,(ZM rf plan)),(2,Obj.cells #[YI b] 3)],[],
 [wq b=e+a.XF,i=(↑d:Int)/\Lb i<Ld c/\Lh (Qe Qt c) (Lb i*TypeInfo.size Try.t54) (Lb i*TypeInfo.size Try.t54+TypeInfo.size Try.t54)=(Jo a)]):=by intro d c a b;kernel_rfl
theorem H3(B:Lo)(rf:Qc)(plan:List Int)(e i:Int)(Ql:Nat->Value):let c:=Vw rf plan e i;let b:=OO.ret (.bool true);let a:=e+Qd.XF (rf.Qa.getD i.toNat La);CE.landA 6 (Qn YP (Q0 YP) J0 B 16 6 (XU (none) 112 27 (([0,1,2,8,9]:List Nat).zip (Uy rf plan e i)) Ql Uz) (X9 (U2 rf plan) 6 (([5,2]:List Nat).zip (Ux rf plan e i)) c) (6+1+c.length)
 (vV rf plan e i Ql++[(10,Wj),(14,Qf.call (Le 7) b ([(5,(eP rf plan)),(2,Obj.cells (Jn rf e i) 3)]++(7,QV)::QL 8 []) 8 [5,2]),(17,Zu (i+1))]) 0 [] []) [0,1,2,8,9] [(5,KS.auto),(2,KS.auto)] [] []=some ⟨112,27,Uz,[],.run,none,Uy rf plan a (i+1),([5,2]:List Nat).zip (Ux rf plan a (i+1)),Vw rf plan a (i+1),
 [wq (i+1)=i+1,FJ YP B (eN rf plan e i Ql) (aI rf plan e i Ql) 7 b (([(5,(eP rf plan)),(2,Obj.cells (Jn rf e i) 3)]++((7,QV)::QL (7+1) []))++aI rf plan e i Ql) 8 (Le 7) [5,2],TO (↑(VH (↑(ZT (Qj [plan.getD 0 0,plan.getD 1 0,plan.getD 2 0,plan.getD 3 0] 0) i):Int) 1):Int) 1=true]++mB B rf plan e i Ql⟩:=by intro c b a;kernel_rfl
theorem Hz(B:Lo)(rf:Qc)(plan:List Int)(e i:Int)(Ql:Nat->Value):let a:=Vw rf plan e i;CE.landA 6 (Qn YP (Q0 YP) J0 B 16 6 (XU (none) 112 27 (([0,1,2,8,9]:List Nat).zip (Uy rf plan e i)) Ql Uz) (X9 (U2 rf plan) 6 (([5,2]:List Nat).zip (Ux rf plan e i)) a) (6+1+a.length)
 (vV rf plan e i Ql++[(10,WC),(17,Zu (i+1))]) 0 [] []) [0,1,2,8,9] [(5,KS.auto),(2,KS.auto)] [] []=some ⟨112,27,Uz,[],.run,none,Uy rf plan (e) (i+1),([5,2]:List Nat).zip (Ux rf plan (e) (i+1)),Vw rf plan (e) (i+1),
 [wq (i+1)=i+1,TO (↑(VH (↑(ZT (Qj [plan.getD 0 0,plan.getD 1 0,plan.getD 2 0,plan.getD 3 0] 0) i):Int) 1):Int) 1=false]++mB B rf plan e i Ql⟩:=by intro a;kernel_rfl
theorem Hy(B:Lo)(rf:Qc)(plan:List Int)(e i:Int)(Ql:Nat->Value):let a:=Vw rf plan e i;CE.finK 6 (Qn YP (Q0 YP) J0 B 7 6 (XU (none) 112 27 (([0,1,2,8,9]:List Nat).zip (Uy rf plan e i)) Ql Uz) (X9 (U2 rf plan) 6 (([5,2]:List Nat).zip (Ux rf plan e i)) a) (6+1+a.length)
 [(0,WC)] 0 [] []) [(5,KS.auto),(2,KS.auto)] [] []=some (OO.ret (.tuple #[]),[(5,(ZM rf plan)),(2,Obj.cells #[YI e] 3)],[],
 [XB i (↑rf.Qa.length:Int)=false]):=by intro a;kernel_rfl
set_option maxHeartbeats 4000000 in
theorem wi(rf:Qc)(plan:List Int)(hr:X4 rf=true)(hs:1<=rf.Qb/\rf.Qb<=4)(hl:plan.length<=4)(hp:∀j:Nat,0<=plan.getD j 0/\plan.getD j 0<=1000000)(q0:(0:Int)<rf.Qb){B:Lo}(hJ:∀w,B.has w->J0 w):∀m:Nat,(∀(e i:Int),rf.Qa.length-i.toNat=m->∀(i0:0<=i) (i1:i<=rf.Qa.length) (ee:e=ZD rf.Qa plan 0+ct rf.Qa (plan.getD 0 0) i.toNat),(∃Ql:Nat->Value,(∀t,Xh (Ql t))/\GoE YP B (Sq rf plan) (U2 rf plan) 6 (XU (none) 112 27 (([0,1,2,8,9]:List Nat).zip (Uy rf plan e i)) Ql Uz) (X9 (U2 rf plan) 6 (([5,2]:List Nat).zip (Ux rf plan e i)) (Vw rf plan e i)) (6+1+(Vw rf plan e i).length) ([5,2]:List Nat))->FinK YP B (Sq rf plan) (U2 rf plan) 6 (.ret (.tuple #[])) (([5,2]:List Nat).zip ([(ZM rf plan),.cells #[YI (ZD rf.Qa plan 1)] 3 (0,0)])) ([]) ([5,2]:List Nat)):=by
 intro m0;induction m0 using LB with
 |_ m0 ih0=>
  intro e i Jw i0 i1 ee ⟨Ql,Wl,X0⟩;have Zi:=Q2 (Qw hr).1;have Zi:=Q2 (Qw hr).1;have hpk:=hp 0;have hse:=u5 (k:=0) hl;have JF:=cA (n:=Qj [plan.getD 0 0,plan.getD 1 0,plan.getD 2 0,plan.getD 3 0] 0) (k:=i) (by omega);have hwa:=bg hr (plan:=plan) 0;by_cases q1:(i:Int)<((↑rf.Qa.length:Int))
  ·have YF:Qz (mB B rf plan e i Ql):=by
    have hws:=Z6 hr (p:=plan.getD 0 0) i.toNat (by omega);have hwo:=Zy hr (k:=i.toNat) (by omega);exact⟨(cq (by omega) (by omega) (by omega) (by omega)),⟨(cn (by omega) (by omega) (by omega)),⟨⟨by omega,by omega,bf (fs:=[plan.getD 0 0,plan.getD 1 0,plan.getD 2 0,plan.getD 3 0]) rfl (LO (m:=4) (by omega) rfl)⟩,⟨(Xs q1),trivial⟩⟩⟩⟩
   by_cases q2:((↑(VH (↑(ZT (Qj [plan.getD 0 0,plan.getD 1 0,plan.getD 2 0,plan.getD 3 0] 0) i):Int) 1):Int):Int)=(1)
   ·have rj2:FJ YP B (eN rf plan e i Ql) (aI rf plan e i Ql) 7 (OO.ret (.bool true)) (([(5,(ZM rf plan)),(2,Obj.cells #[YI (e+Qd.XF (rf.Qa.getD i.toNat La))] 3)]++((7,QV)::QL (7+1) []))++aI rf plan e i Ql) 8 (Le 7) [5,2]:=by
     have hws:=Z6 hr (p:=plan.getD 0 0) i.toNat (by omega);have hwo:=Zy hr (k:=i.toNat) (by omega);have hyes:=KL (ps:=rf.Qa) (p:=plan.getD 0 0) i0 (by rw[<-V2,<-hse];exact decide_eq_true (by assumption));exact FinK.fjB (GoE.fK ((GoE.refl (P:=YP) (B:=B) (c0:=eN rf plan e i Ql) uA).widen (Wf:=((([(5,KS.auto),(2,KS.auto)]):List (Nat×KS)).map (·.1))) (by simp) wO) (H4 B rf plan e i Ql)
      ⟨wI,⟨(iX (lX 12)),trivial⟩⟩) (ex:=[]) (by kernel_rfl) (Zb _)
    have hws:=Z6 hr (p:=plan.getD 0 0) i.toNat (by omega);have hwo:=Zy hr (k:=i.toNat) (by omega);have hyes:=KL (ps:=rf.Qa) (p:=plan.getD 0 0) i0 (by rw[<-V2,<-hse];exact decide_eq_true (by assumption));exact((ih0 _ (by omega)) (e+Qd.XF (rf.Qa.getD i.toNat La)) (i+1) rfl (by omega) (by omega) (by omega)
     (GoE.lA X0 (H3 B rf plan e i Ql)
     ⟨wI,⟨rj2,⟨(TI q2),YF⟩⟩⟩ (by kernel_rfl) (by kernel_rfl) (fun l hl=>by cases hl <;> decide))).cast (by rfl) (by rfl) (by rfl)
   ·have hws:=Z6 hr (p:=plan.getD 0 0) i.toNat (by omega);have hwo:=Zy hr (k:=i.toNat) (by omega);have hno:=dm (ps:=rf.Qa) (p:=plan.getD 0 0) i0 (by rw[<-V2,<-hse];exact decide_eq_false (by assumption));exact((ih0 _ (by omega)) (e) (i+1) rfl (by omega) (by omega) (by omega)
     (GoE.lA X0 (Hz B rf plan e i Ql)
     ⟨wI,⟨(TJ q2),YF⟩⟩ (by kernel_rfl) (by kernel_rfl) (fun l hl=>by cases hl <;> decide))).cast (by rfl) (by rfl) (by rfl)
  ·have hws:=Z6 hr (p:=plan.getD 0 0) i.toNat (by omega);exact(GoE.fK X0 (Hy B rf plan e i Ql)
    ⟨(nL q1),trivial⟩).cast (by rfl) (by(rw[jQ ee i0 i1 (by assumption)];rfl)) (by rfl)

theorem H5(B:Lo)(rf:Qc)(plan:List Int):CE.landA 6 (Qn YP (Q0 YP) J0 B 4 6 (Sq rf plan) (U2 rf plan) 6
 [] 0 [] []) [0,1,2,8,9] [(5,KS.auto),(2,KS.auto)] [] []=some ⟨112,27,Uz,[],.run,none,Uy rf plan (0) (0),([5,2]:List Nat).zip (Ux rf plan (0) (0)),Vw rf plan (0) (0),
 []⟩:=by kernel_rfl
def mA(B:Lo)(rf:Qc)(plan:List Int):List Prop:=[FJ YP B (Sq rf plan) (U2 rf plan) 6 (OO.ret (.tuple #[])) (([(5,(eP rf plan)),(2,Obj.cells #[YI (ZD rf.Qa plan 1)] 3)]++((6,QV)::QL (6+1) []))++U2 rf plan) 7 (Le 6) [5,2]]++wb B rf plan
def wa(B:Lo)(rf:Qc)(plan:List Int):List Prop:=[XB 1 rf.Qb=true]++mA B rf plan
def vU(rf:Qc)(plan:List Int):QA:=vW rf plan++[(16,Wj),(21,Qf.call (Le 7) (OO.ret (Value.func (Fn.func 112) #[] #[Qk 7 (P7 rf plan),Qk 7 (ZU 0 #[YI 1])])) ([]++(7,QV)::QL 8 []) 8 []),(22,Qf.call (Le 10) (OO.ret (.tuple #[])) ([(9,(bR rf plan)),(2,Obj.cells #[YI (ZD rf.Qa plan 2)] 3)]++(10,QV)::QL 11 []) 11 [9,2])]
def aH(rf:Qc)(plan:List Int):Qm:=[(5,(Yd rf plan)),(2,Obj.cells #[YI (ZD rf.Qa plan 1)] 3),(6,Obj.coro none),(5,(ZM rf plan)),(4,Obj.deferred (some [])),(3,Obj.coro none),(2,Obj.cells #[YI 0] 3),(1,Obj.cells #[Qk 0 (Xp rf.Qa),YI rf.Qh,YI rf.Qb,YI (plan.getD 0 0),YI (plan.getD 1 0),YI (plan.getD 2 0),YI (plan.getD 3 0)] 84),(0,Obj.coro none)]
def eM(rf:Qc)(plan:List Int):CF:=⟨91,ofList 6 [.agg #[Qk 0 (Xp rf.Qa),YI rf.Qh,YI rf.Qb,YI (plan.getD 0 0),YI (plan.getD 1 0),YI (plan.getD 2 0),YI (plan.getD 3 0)],YI 1],[Item.code (Q8 YP 91)],[],.run,none⟩
theorem Hx(B:Lo)(rf:Qc)(plan:List Int):let a:=rf.Qa;CE.finK 7 (Qn YP (Q0 YP) J0 B 6 7 (eM rf plan) (aH rf plan) 7
 [] 0 [] []) [] [] [{k:=7,rs:=[0],cs:=#[Xo a.length (Qe Qt a),YI rf.Qh,YI rf.Qb,YI (plan.getD 0 0),YI (plan.getD 1 0),YI (plan.getD 2 0),YI (plan.getD 3 0)]},{k:=8,rs:=[],cs:=#[YI 1]}]=some (OO.ret (Value.func (Fn.func 112) #[] #[Qk 7 (ZU 0 #[Xo a.length (Qe Qt a),YI rf.Qh,YI rf.Qb,YI (plan.getD 0 0),YI (plan.getD 1 0),YI (plan.getD 2 0),YI (plan.getD 3 0)]),Qk 7 (ZU 0 #[YI 1])]),[],[],
 [X1 (Fz.rs {k:=7,rs:=[0],cs:=(VK rf plan)}) (eH rf plan) (Fz.cs {k:=7,rs:=[0],cs:=(VK rf plan)}),X1 (Fz.rs {k:=8,rs:=[],cs:=#[YI 1]}) #[YI 1] (Fz.cs {k:=8,rs:=[],cs:=#[YI 1]})]):=by intro a;kernel_rfl
def vZ(B:Lo)(rf:Qc)(plan:List Int):List Prop:=[FJ YP B (eM rf plan) (aH rf plan) 7 (OO.ret (Value.func (Fn.func 112) #[] #[Qk 7 (P7 rf plan),Qk 7 (ZU 0 #[YI 1])])) (([]++((7,QV)::QL (7+1) []))++aH rf plan) 8 (Le 7) []]++wa B rf plan
def U1(rf:Qc)(plan:List Int):Qm:=[(9,(W9 rf plan)),(8,Obj.deferred (some [])),(7,Obj.coro none),(5,(Yd rf plan)),(2,Obj.cells #[YI (ZD rf.Qa plan 1)] 3),(6,Obj.coro none),(5,(ZM rf plan)),(4,Obj.deferred (some [])),(3,Obj.coro none),(2,Obj.cells #[YI 0] 3),(1,Obj.cells #[Qk 0 (Xp rf.Qa),YI rf.Qh,YI rf.Qb,YI (plan.getD 0 0),YI (plan.getD 1 0),YI (plan.getD 2 0),YI (plan.getD 3 0)] 84),(0,Obj.coro none)]
def Sp(rf:Qc)(plan:List Int):CF:=⟨112,ofList 27 [Value.func (Fn.yield 9) #[] #[],Qk 7 (ZU 0 #[Xp rf.Qa,YI rf.Qh,YI rf.Qb,YI (plan.getD 0 0),YI (plan.getD 1 0),YI (plan.getD 2 0),YI (plan.getD 3 0)]),Qk 7 (ZU 0 #[YI 1])],[Item.code (Q8 YP 112)],[],.run,none⟩
def Uv(rf:Qc)(plan:List Int)(e i:Int):List Value:=let a:=rf.Qa;[Value.func (Fn.yield 9) #[] #[],Qk 7 (ZU 0 #[Xo a.length (Qe Qt a),YI rf.Qh,YI rf.Qb,YI (plan.getD 0 0),YI (plan.getD 1 0),YI (plan.getD 2 0),YI (plan.getD 3 0)]),Qk 7 (ZU 0 #[YI 1]),YI (↑a.length:Int),YI i]
def Uu(rf:Qc)(plan:List Int)(e i:Int):List Obj:=[(W9 rf plan),.cells #[YI e] 3 (0,0)]
def Vv(rf:Qc)(plan:List Int)(e i:Int):List Obj:=[]
def Uw:List Item:=([.code [1,0,0],.inLoop [1,0,0],.inBlock 0]).map (it (Q8 YP 112))
def m9(B:Lo)(rf:Qc)(plan:List Int)(e i:Int)(Ql:Nat->Value):List Prop:=let b:=Tri.set 14 Tri.lf 16 (YI i);let a:=Qj [plan.getD 0 0,plan.getD 1 0,plan.getD 2 0,plan.getD 3 0] 1;let d:=YI a;let c:=YI (↑(ZT a i):Int);[Yr YP BinOp.and 3 (Xx {len:=16000,tr:=Tri.set 14 Tri.lf 17 c} 17) (YI 1) (YI (↑(VH (↑(ZT a i):Int) 1):Int)),Yr YP BinOp.shr 3 (Xx {len:=16000,tr:=Tri.set 14 b 15 d} 15) (Xx {len:=16000,tr:=Tri.set 14 b 15 d} 16) c,1=(↑1:Int)/\1<4/\Lh (VK rf plan) (3+1*TypeInfo.size Try.t3) (3+1*TypeInfo.size Try.t3+TypeInfo.size Try.t3)=#[YI a],XB i (↑rf.Qa.length:Int)=true]++([]:List Prop)
def vT(rf:Qc)(plan:List Int)(e i:Int)(Ql:Nat->Value):QA:=let a:=Qj [plan.getD 0 0,plan.getD 1 0,plan.getD 2 0,plan.getD 3 0] 1;[(0,Wj),(5,Qf.tarr 1 #[YI a]),(8,Qf.bin (YI (↑(ZT a i):Int))),(9,Qf.bin (YI (↑(VH (↑(ZT a i):Int) 1):Int)))]
def aG(rf:Qc)(plan:List Int)(e i:Int)(Ql:Nat->Value):Qm:=[(9,(W9 rf plan)),(2,Obj.cells #[YI e] 3),(10,Obj.coro none),(9,(W9 rf plan)),(8,Obj.deferred (some [])),(7,Obj.coro none),(5,(Yd rf plan)),(2,Obj.cells #[YI (ZD rf.Qa plan 1)] 3),(6,Obj.coro none),(5,(ZM rf plan)),(4,Obj.deferred (some [])),(3,Obj.coro none),(2,Obj.cells #[YI 0] 3),(1,Obj.cells #[Qk 0 (Xp rf.Qa),YI rf.Qh,YI rf.Qb,YI (plan.getD 0 0),YI (plan.getD 1 0),YI (plan.getD 2 0),YI (plan.getD 3 0)] 84),(0,Obj.coro none)]
def eL(rf:Qc)(plan:List Int)(e i:Int)(Ql:Nat->Value):CF:=⟨67,ofList 27 [.agg #[Qk 0 (Xp rf.Qa),YI rf.Qh,YI rf.Qb,YI (plan.getD 0 0),YI (plan.getD 1 0),YI (plan.getD 2 0),YI (plan.getD 3 0)],pA 1 0,YI 0,pA 2 0,YI 1,.tuple #[],pA 1 0,pA 1 2,YI rf.Qb,YI 1,.bool true,YI 1,.agg #[Qk 0 (Xp rf.Qa),YI rf.Qh,YI rf.Qb,YI (plan.getD 0 0),YI (plan.getD 1 0),YI (plan.getD 2 0),YI (plan.getD 3 0)],YI 1,Value.func (Fn.func 112) #[] #[Qk 7 (ZU 0 #[Xp rf.Qa,YI rf.Qh,YI rf.Qb,YI (plan.getD 0 0),YI (plan.getD 1 0),YI (plan.getD 2 0),YI (plan.getD 3 0)]),Qk 7 (ZU 0 #[YI 1])],YI i,.tuple #[],.tuple #[],.tuple #[],.tuple #[],.tuple #[],.tuple #[],.tuple #[],.tuple #[],.tuple #[],YI 1,.tuple #[]],[Item.code (UD (Q8 YP 67) [1,1,0,1,0,0,1,1,0,0,1,1,0,0]),Item.beginRound,Item.code (UD (Q8 YP 67) [1,1,0,1,0,0,1,1,0,0,1,1,0,1])],[],.run,some 9⟩
theorem Hv(B:Lo)(rf:Qc)(plan:List Int)(e i:Int)(Ql:Nat->Value):let d:=Lb i;let c:=rf.Qa;let a:=c.getD d La;let b:=e+a.XF;CE.finK 11 (Qn YP (Q0 YP) J0 B 6 11 (eL rf plan e i Ql) (aG rf plan e i Ql) 11
 [(6,Qf.tidx d (Jo a)),(9,Zu b)] 0 [] []) [(9,KS.auto),(2,KS.auto)] [] []=some (OO.ret (.bool true),[(9,(W9 rf plan)),(2,Obj.cells #[YI b] 3)],[],
 [wq b=e+a.XF,i=(↑d:Int)/\Lb i<Ld c/\Lh (Qe Qt c) (Lb i*TypeInfo.size Try.t54) (Lb i*TypeInfo.size Try.t54+TypeInfo.size Try.t54)=(Jo a)]):=by intro d c a b;kernel_rfl
theorem Hu(B:Lo)(rf:Qc)(plan:List Int)(e i:Int)(Ql:Nat->Value):let c:=Vv rf plan e i;let b:=OO.ret (.bool true);let a:=e+Qd.XF (rf.Qa.getD i.toNat La);CE.landA 10 (Qn YP (Q0 YP) J0 B 16 10 (XU (none) 112 27 (([0,1,2,8,9]:List Nat).zip (Uv rf plan e i)) Ql Uw) (X9 (U1 rf plan) 10 (([9,2]:List Nat).zip (Uu rf plan e i)) c) (10+1+c.length)
 (vT rf plan e i Ql++[(10,Wj),(14,Qf.call (Le 11) b ([(9,(bR rf plan)),(2,Obj.cells (Jn rf e i) 3)]++(11,QV)::QL 12 []) 12 [9,2]),(17,Zu (i+1))]) 0 [] []) [0,1,2,8,9] [(9,KS.auto),(2,KS.auto)] [] []=some ⟨112,27,Uw,[],.run,none,Uv rf plan a (i+1),([9,2]:List Nat).zip (Uu rf plan a (i+1)),Vv rf plan a (i+1),
 [wq (i+1)=i+1,FJ YP B (eL rf plan e i Ql) (aG rf plan e i Ql) 11 b (([(9,(bR rf plan)),(2,Obj.cells (Jn rf e i) 3)]++((11,QV)::QL (11+1) []))++aG rf plan e i Ql) 12 (Le 11) [9,2],TO (↑(VH (↑(ZT (Qj [plan.getD 0 0,plan.getD 1 0,plan.getD 2 0,plan.getD 3 0] 1) i):Int) 1):Int) 1=true]++m9 B rf plan e i Ql⟩:=by intro c b a;kernel_rfl
theorem Dw(B:Lo)(rf:Qc)(plan:List Int)(e i:Int)(Ql:Nat->Value):let a:=Vv rf plan e i;CE.landA 10 (Qn YP (Q0 YP) J0 B 16 10 (XU (none) 112 27 (([0,1,2,8,9]:List Nat).zip (Uv rf plan e i)) Ql Uw) (X9 (U1 rf plan) 10 (([9,2]:List Nat).zip (Uu rf plan e i)) a) (10+1+a.length)
 (vT rf plan e i Ql++[(10,WC),(17,Zu (i+1))]) 0 [] []) [0,1,2,8,9] [(9,KS.auto),(2,KS.auto)] [] []=some ⟨112,27,Uw,[],.run,none,Uv rf plan (e) (i+1),([9,2]:List Nat).zip (Uu rf plan (e) (i+1)),Vv rf plan (e) (i+1),
 [wq (i+1)=i+1,TO (↑(VH (↑(ZT (Qj [plan.getD 0 0,plan.getD 1 0,plan.getD 2 0,plan.getD 3 0] 1) i):Int) 1):Int) 1=false]++m9 B rf plan e i Ql⟩:=by intro a;kernel_rfl
theorem Dv(B:Lo)(rf:Qc)(plan:List Int)(e i:Int)(Ql:Nat->Value):let a:=Vv rf plan e i;CE.finK 10 (Qn YP (Q0 YP) J0 B 7 10 (XU (none) 112 27 (([0,1,2,8,9]:List Nat).zip (Uv rf plan e i)) Ql Uw) (X9 (U1 rf plan) 10 (([9,2]:List Nat).zip (Uu rf plan e i)) a) (10+1+a.length)
 [(0,WC)] 0 [] []) [(9,KS.auto),(2,KS.auto)] [] []=some (OO.ret (.tuple #[]),[(9,(W9 rf plan)),(2,Obj.cells #[YI e] 3)],[],
 [XB i (↑rf.Qa.length:Int)=false]):=by intro a;kernel_rfl
set_option maxHeartbeats 4000000 in
theorem wh(rf:Qc)(plan:List Int)(hr:X4 rf=true)(hs:1<=rf.Qb/\rf.Qb<=4)(hl:plan.length<=4)(hp:∀j:Nat,0<=plan.getD j 0/\plan.getD j 0<=1000000)(q0:(0:Int)<rf.Qb)(q1:(1:Int)<rf.Qb){B:Lo}(hJ:∀w,B.has w->J0 w):∀m:Nat,(∀(e i:Int),rf.Qa.length-i.toNat=m->∀(i0:0<=i) (i1:i<=rf.Qa.length) (ee:e=ZD rf.Qa plan 1+ct rf.Qa (plan.getD 1 0) i.toNat),(∃Ql:Nat->Value,(∀t,Xh (Ql t))/\GoE YP B (Sp rf plan) (U1 rf plan) 10 (XU (none) 112 27 (([0,1,2,8,9]:List Nat).zip (Uv rf plan e i)) Ql Uw) (X9 (U1 rf plan) 10 (([9,2]:List Nat).zip (Uu rf plan e i)) (Vv rf plan e i)) (10+1+(Vv rf plan e i).length) ([9,2]:List Nat))->FinK YP B (Sp rf plan) (U1 rf plan) 10 (.ret (.tuple #[])) (([9,2]:List Nat).zip ([(W9 rf plan),.cells #[YI (ZD rf.Qa plan 2)] 3 (0,0)])) ([]) ([9,2]:List Nat)):=by
 intro m0;induction m0 using LB with
 |_ m0 ih0=>
  intro e i Jw i0 i1 ee ⟨Ql,Wl,X0⟩;have Zi:=Q2 (Qw hr).1;have Zi:=Q2 (Qw hr).1;have hpk:=hp 1;have hse:=u5 (k:=1) hl;have JF:=cA (n:=Qj [plan.getD 0 0,plan.getD 1 0,plan.getD 2 0,plan.getD 3 0] 1) (k:=i) (by omega);have hwa:=bg hr (plan:=plan) 1;by_cases q2:(i:Int)<((↑rf.Qa.length:Int))
  ·have hp6:Qz (m9 B rf plan e i Ql):=by
    have hws:=Z6 hr (p:=plan.getD 1 0) i.toNat (by omega);have hwo:=Zy hr (k:=i.toNat) (by omega);exact⟨(cq (by omega) (by omega) (by omega) (by omega)),⟨(cn (by omega) (by omega) (by omega)),⟨⟨by omega,by omega,bf (fs:=[plan.getD 0 0,plan.getD 1 0,plan.getD 2 0,plan.getD 3 0]) rfl (LO (m:=4) (by omega) rfl)⟩,⟨(Xs q2),trivial⟩⟩⟩⟩
   by_cases q3:((↑(VH (↑(ZT (Qj [plan.getD 0 0,plan.getD 1 0,plan.getD 2 0,plan.getD 3 0] 1) i):Int) 1):Int):Int)=(1)
   ·have rj4:FJ YP B (eL rf plan e i Ql) (aG rf plan e i Ql) 11 (OO.ret (.bool true)) (([(9,(W9 rf plan)),(2,Obj.cells #[YI (e+Qd.XF (rf.Qa.getD i.toNat La))] 3)]++((11,QV)::QL (11+1) []))++aG rf plan e i Ql) 12 (Le 11) [9,2]:=by
     have hws:=Z6 hr (p:=plan.getD 1 0) i.toNat (by omega);have hwo:=Zy hr (k:=i.toNat) (by omega);have hyes:=KL (ps:=rf.Qa) (p:=plan.getD 1 0) i0 (by rw[<-V2,<-hse];exact decide_eq_true (by assumption));exact FinK.fjB (GoE.fK ((GoE.refl (P:=YP) (B:=B) (c0:=eL rf plan e i Ql) uA).widen (Wf:=((([(9,KS.auto),(2,KS.auto)]):List (Nat×KS)).map (·.1))) (by simp) wO) (Hv B rf plan e i Ql)
      ⟨wI,⟨(iX (lX 12)),trivial⟩⟩) (ex:=[]) (by kernel_rfl) (Zb _)
    have hws:=Z6 hr (p:=plan.getD 1 0) i.toNat (by omega);have hwo:=Zy hr (k:=i.toNat) (by omega);have hyes:=KL (ps:=rf.Qa) (p:=plan.getD 1 0) i0 (by rw[<-V2,<-hse];exact decide_eq_true (by assumption));exact((ih0 _ (by omega)) (e+Qd.XF (rf.Qa.getD i.toNat La)) (i+1) rfl (by omega) (by omega) (by omega)
     (GoE.lA X0 (Hu B rf plan e i Ql)
     ⟨wI,⟨rj4,⟨(TI q3),hp6⟩⟩⟩ (by kernel_rfl) (by kernel_rfl) (fun l hl=>by cases hl <;> decide))).cast (by rfl) (by rfl) (by rfl)
   ·have hws:=Z6 hr (p:=plan.getD 1 0) i.toNat (by omega);have hwo:=Zy hr (k:=i.toNat) (by omega);have hno:=dm (ps:=rf.Qa) (p:=plan.getD 1 0) i0 (by rw[<-V2,<-hse];exact decide_eq_false (by assumption));exact((ih0 _ (by omega)) (e) (i+1) rfl (by omega) (by omega) (by omega)
     (GoE.lA X0 (Dw B rf plan e i Ql)
     ⟨wI,⟨(TJ q3),hp6⟩⟩ (by kernel_rfl) (by kernel_rfl) (fun l hl=>by cases hl <;> decide))).cast (by rfl) (by rfl) (by rfl)
  ·have hws:=Z6 hr (p:=plan.getD 1 0) i.toNat (by omega);exact(GoE.fK X0 (Dv B rf plan e i Ql)
    ⟨(nL q2),trivial⟩).cast (by rfl) (by(rw[jQ ee i0 i1 (by assumption)];rfl)) (by rfl)

theorem Hw(B:Lo)(rf:Qc)(plan:List Int):let a:=ZD rf.Qa plan 1;CE.landA 10 (Qn YP (Q0 YP) J0 B 4 10 (Sp rf plan) (U1 rf plan) 10
 [] 0 [] []) [0,1,2,8,9] [(9,KS.auto),(2,KS.auto)] [] []=some ⟨112,27,Uw,[],.run,none,Uv rf plan a (0),([9,2]:List Nat).zip (Uu rf plan a (0)),Vv rf plan a (0),
 []⟩:=by intro a;kernel_rfl
def m8(B:Lo)(rf:Qc)(plan:List Int):List Prop:=[FJ YP B (Sp rf plan) (U1 rf plan) 10 (OO.ret (.tuple #[])) (([(9,(bR rf plan)),(2,Obj.cells #[YI (ZD rf.Qa plan 2)] 3)]++((10,QV)::QL (10+1) []))++U1 rf plan) 11 (Le 10) [9,2]]++vZ B rf plan
def vY(B:Lo)(rf:Qc)(plan:List Int):List Prop:=[XB 2 rf.Qb=true]++m8 B rf plan
def vS(rf:Qc)(plan:List Int):QA:=vU rf plan++[(24,Wj),(29,Qf.call (Le 11) (OO.ret (Value.func (Fn.func 112) #[] #[Qk 11 (P7 rf plan),Qk 11 (ZU 0 #[YI 2])])) ([]++(11,QV)::QL 12 []) 12 []),(30,Qf.call (Le 14) (OO.ret (.tuple #[])) ([(13,(eS rf plan)),(2,Obj.cells #[YI (ZD rf.Qa plan 3)] 3)]++(14,QV)::QL 15 []) 15 [13,2])]
def aF(rf:Qc)(plan:List Int):Qm:=[(9,(Sr rf plan)),(2,Obj.cells #[YI (ZD rf.Qa plan 2)] 3),(10,Obj.coro none),(9,(W9 rf plan)),(8,Obj.deferred (some [])),(7,Obj.coro none),(5,(Yd rf plan)),(2,Obj.cells #[YI (ZD rf.Qa plan 1)] 3),(6,Obj.coro none),(5,(ZM rf plan)),(4,Obj.deferred (some [])),(3,Obj.coro none),(2,Obj.cells #[YI 0] 3),(1,Obj.cells #[Qk 0 (Xp rf.Qa),YI rf.Qh,YI rf.Qb,YI (plan.getD 0 0),YI (plan.getD 1 0),YI (plan.getD 2 0),YI (plan.getD 3 0)] 84),(0,Obj.coro none)]
def eK(rf:Qc)(plan:List Int):CF:=⟨91,ofList 6 [.agg #[Qk 0 (Xp rf.Qa),YI rf.Qh,YI rf.Qb,YI (plan.getD 0 0),YI (plan.getD 1 0),YI (plan.getD 2 0),YI (plan.getD 3 0)],YI 2],[Item.code (Q8 YP 91)],[],.run,none⟩
theorem Du(B:Lo)(rf:Qc)(plan:List Int):let a:=rf.Qa;CE.finK 11 (Qn YP (Q0 YP) J0 B 6 11 (eK rf plan) (aF rf plan) 11
 [] 0 [] []) [] [] [{k:=11,rs:=[0],cs:=#[Xo a.length (Qe Qt a),YI rf.Qh,YI rf.Qb,YI (plan.getD 0 0),YI (plan.getD 1 0),YI (plan.getD 2 0),YI (plan.getD 3 0)]},{k:=12,rs:=[],cs:=#[YI 2]}]=some (OO.ret (Value.func (Fn.func 112) #[] #[Qk 11 (ZU 0 #[Xo a.length (Qe Qt a),YI rf.Qh,YI rf.Qb,YI (plan.getD 0 0),YI (plan.getD 1 0),YI (plan.getD 2 0),YI (plan.getD 3 0)]),Qk 11 (ZU 0 #[YI 2])]),[],[],
 [X1 (Fz.rs {k:=11,rs:=[0],cs:=(VK rf plan)}) (eH rf plan) (Fz.cs {k:=11,rs:=[0],cs:=(VK rf plan)}),X1 (Fz.rs {k:=12,rs:=[],cs:=#[YI 2]}) #[YI 2] (Fz.cs {k:=12,rs:=[],cs:=#[YI 2]})]):=by intro a;kernel_rfl
def vX(B:Lo)(rf:Qc)(plan:List Int):List Prop:=[FJ YP B (eK rf plan) (aF rf plan) 11 (OO.ret (Value.func (Fn.func 112) #[] #[Qk 11 (P7 rf plan),Qk 11 (ZU 0 #[YI 2])])) (([]++((11,QV)::QL (11+1) []))++aF rf plan) 12 (Le 11) []]++vY B rf plan
def U0(rf:Qc)(plan:List Int):Qm:=[(13,(VL rf plan)),(12,Obj.deferred (some [])),(11,Obj.coro none),(9,(Sr rf plan)),(2,Obj.cells #[YI (ZD rf.Qa plan 2)] 3),(10,Obj.coro none),(9,(W9 rf plan)),(8,Obj.deferred (some [])),(7,Obj.coro none),(5,(Yd rf plan)),(2,Obj.cells #[YI (ZD rf.Qa plan 1)] 3),(6,Obj.coro none),(5,(ZM rf plan)),(4,Obj.deferred (some [])),(3,Obj.coro none),(2,Obj.cells #[YI 0] 3),(1,Obj.cells #[Qk 0 (Xp rf.Qa),YI rf.Qh,YI rf.Qb,YI (plan.getD 0 0),YI (plan.getD 1 0),YI (plan.getD 2 0),YI (plan.getD 3 0)] 84),(0,Obj.coro none)]
def So(rf:Qc)(plan:List Int):CF:=⟨112,ofList 27 [Value.func (Fn.yield 13) #[] #[],Qk 11 (ZU 0 #[Xp rf.Qa,YI rf.Qh,YI rf.Qb,YI (plan.getD 0 0),YI (plan.getD 1 0),YI (plan.getD 2 0),YI (plan.getD 3 0)]),Qk 11 (ZU 0 #[YI 2])],[Item.code (Q8 YP 112)],[],.run,none⟩
def Us(rf:Qc)(plan:List Int)(e i:Int):List Value:=let a:=rf.Qa;[Value.func (Fn.yield 13) #[] #[],Qk 11 (ZU 0 #[Xo a.length (Qe Qt a),YI rf.Qh,YI rf.Qb,YI (plan.getD 0 0),YI (plan.getD 1 0),YI (plan.getD 2 0),YI (plan.getD 3 0)]),Qk 11 (ZU 0 #[YI 2]),YI (↑a.length:Int),YI i]
def Ur(rf:Qc)(plan:List Int)(e i:Int):List Obj:=[(VL rf plan),.cells #[YI e] 3 (0,0)]
def Vu(rf:Qc)(plan:List Int)(e i:Int):List Obj:=[]
def Ut:List Item:=([.code [1,0,0],.inLoop [1,0,0],.inBlock 0]).map (it (Q8 YP 112))
def hQ(B:Lo)(rf:Qc)(plan:List Int)(e i:Int)(Ql:Nat->Value):List Prop:=let b:=Tri.set 14 Tri.lf 16 (YI i);let a:=Qj [plan.getD 0 0,plan.getD 1 0,plan.getD 2 0,plan.getD 3 0] 2;let d:=YI a;let c:=YI (↑(ZT a i):Int);[Yr YP BinOp.and 3 (Xx {len:=16000,tr:=Tri.set 14 Tri.lf 17 c} 17) (YI 1) (YI (↑(VH (↑(ZT a i):Int) 1):Int)),Yr YP BinOp.shr 3 (Xx {len:=16000,tr:=Tri.set 14 b 15 d} 15) (Xx {len:=16000,tr:=Tri.set 14 b 15 d} 16) c,2=(↑2:Int)/\2<4/\Lh (VK rf plan) (3+2*TypeInfo.size Try.t3) (3+2*TypeInfo.size Try.t3+TypeInfo.size Try.t3)=#[YI a],XB i (↑rf.Qa.length:Int)=true]++([]:List Prop)
def qI(rf:Qc)(plan:List Int)(e i:Int)(Ql:Nat->Value):QA:=let a:=Qj [plan.getD 0 0,plan.getD 1 0,plan.getD 2 0,plan.getD 3 0] 2;[(0,Wj),(5,Qf.tarr 2 #[YI a]),(8,Qf.bin (YI (↑(ZT a i):Int))),(9,Qf.bin (YI (↑(VH (↑(ZT a i):Int) 1):Int)))]
def aE(rf:Qc)(plan:List Int)(e i:Int)(Ql:Nat->Value):Qm:=[(13,(VL rf plan)),(2,Obj.cells #[YI e] 3),(14,Obj.coro none),(13,(VL rf plan)),(12,Obj.deferred (some [])),(11,Obj.coro none),(9,(Sr rf plan)),(2,Obj.cells #[YI (ZD rf.Qa plan 2)] 3),(10,Obj.coro none),(9,(W9 rf plan)),(8,Obj.deferred (some [])),(7,Obj.coro none),(5,(Yd rf plan)),(2,Obj.cells #[YI (ZD rf.Qa plan 1)] 3),(6,Obj.coro none),(5,(ZM rf plan)),(4,Obj.deferred (some [])),(3,Obj.coro none),(2,Obj.cells #[YI 0] 3),(1,Obj.cells #[Qk 0 (Xp rf.Qa),YI rf.Qh,YI rf.Qb,YI (plan.getD 0 0),YI (plan.getD 1 0),YI (plan.getD 2 0),YI (plan.getD 3 0)] 84),(0,Obj.coro none)]
def eJ(rf:Qc)(plan:List Int)(e i:Int)(Ql:Nat->Value):CF:=⟨67,ofList 27 [.agg #[Qk 0 (Xp rf.Qa),YI rf.Qh,YI rf.Qb,YI (plan.getD 0 0),YI (plan.getD 1 0),YI (plan.getD 2 0),YI (plan.getD 3 0)],pA 1 0,YI 0,pA 2 0,YI 2,.tuple #[],pA 1 0,pA 1 2,YI rf.Qb,YI 2,.bool true,YI 2,.agg #[Qk 0 (Xp rf.Qa),YI rf.Qh,YI rf.Qb,YI (plan.getD 0 0),YI (plan.getD 1 0),YI (plan.getD 2 0),YI (plan.getD 3 0)],YI 2,Value.func (Fn.func 112) #[] #[Qk 11 (ZU 0 #[Xp rf.Qa,YI rf.Qh,YI rf.Qb,YI (plan.getD 0 0),YI (plan.getD 1 0),YI (plan.getD 2 0),YI (plan.getD 3 0)]),Qk 11 (ZU 0 #[YI 2])],YI i,.tuple #[],.tuple #[],.tuple #[],.tuple #[],.tuple #[],.tuple #[],.tuple #[],.tuple #[],.tuple #[],YI 2,.tuple #[]],[Item.code (UD (Q8 YP 67) [1,1,0,1,0,0,1,1,0,0,1,1,0,0]),Item.beginRound,Item.code (UD (Q8 YP 67) [1,1,0,1,0,0,1,1,0,0,1,1,0,1])],[],.run,some 13⟩
theorem Ds(B:Lo)(rf:Qc)(plan:List Int)(e i:Int)(Ql:Nat->Value):let d:=Lb i;let c:=rf.Qa;let a:=c.getD d La;let b:=e+a.XF;CE.finK 15 (Qn YP (Q0 YP) J0 B 6 15 (eJ rf plan e i Ql) (aE rf plan e i Ql) 15
 [(6,Qf.tidx d (Jo a)),(9,Zu b)] 0 [] []) [(13,KS.auto),(2,KS.auto)] [] []=some (OO.ret (.bool true),[(13,(VL rf plan)),(2,Obj.cells #[YI b] 3)],[],
 [wq b=e+a.XF,i=(↑d:Int)/\Lb i<Ld c/\Lh (Qe Qt c) (Lb i*TypeInfo.size Try.t54) (Lb i*TypeInfo.size Try.t54+TypeInfo.size Try.t54)=(Jo a)]):=by intro d c a b;kernel_rfl
theorem Dr(B:Lo)(rf:Qc)(plan:List Int)(e i:Int)(Ql:Nat->Value):let c:=Vu rf plan e i;let b:=OO.ret (.bool true);let a:=e+Qd.XF (rf.Qa.getD i.toNat La);CE.landA 14 (Qn YP (Q0 YP) J0 B 16 14 (XU (none) 112 27 (([0,1,2,8,9]:List Nat).zip (Us rf plan e i)) Ql Ut) (X9 (U0 rf plan) 14 (([13,2]:List Nat).zip (Ur rf plan e i)) c) (14+1+c.length)
 (qI rf plan e i Ql++[(10,Wj),(14,Qf.call (Le 15) b ([(13,(eS rf plan)),(2,Obj.cells (Jn rf e i) 3)]++(15,QV)::QL 16 []) 16 [13,2]),(17,Zu (i+1))]) 0 [] []) [0,1,2,8,9] [(13,KS.auto),(2,KS.auto)] [] []=some ⟨112,27,Ut,[],.run,none,Us rf plan a (i+1),([13,2]:List Nat).zip (Ur rf plan a (i+1)),Vu rf plan a (i+1),
 [wq (i+1)=i+1,FJ YP B (eJ rf plan e i Ql) (aE rf plan e i Ql) 15 b (([(13,(eS rf plan)),(2,Obj.cells (Jn rf e i) 3)]++((15,QV)::QL (15+1) []))++aE rf plan e i Ql) 16 (Le 15) [13,2],TO (↑(VH (↑(ZT (Qj [plan.getD 0 0,plan.getD 1 0,plan.getD 2 0,plan.getD 3 0] 2) i):Int) 1):Int) 1=true]++hQ B rf plan e i Ql⟩:=by intro c b a;kernel_rfl
theorem Dq(B:Lo)(rf:Qc)(plan:List Int)(e i:Int)(Ql:Nat->Value):let a:=Vu rf plan e i;CE.landA 14 (Qn YP (Q0 YP) J0 B 16 14 (XU (none) 112 27 (([0,1,2,8,9]:List Nat).zip (Us rf plan e i)) Ql Ut) (X9 (U0 rf plan) 14 (([13,2]:List Nat).zip (Ur rf plan e i)) a) (14+1+a.length)
 (qI rf plan e i Ql++[(10,WC),(17,Zu (i+1))]) 0 [] []) [0,1,2,8,9] [(13,KS.auto),(2,KS.auto)] [] []=some ⟨112,27,Ut,[],.run,none,Us rf plan (e) (i+1),([13,2]:List Nat).zip (Ur rf plan (e) (i+1)),Vu rf plan (e) (i+1),
 [wq (i+1)=i+1,TO (↑(VH (↑(ZT (Qj [plan.getD 0 0,plan.getD 1 0,plan.getD 2 0,plan.getD 3 0] 2) i):Int) 1):Int) 1=false]++hQ B rf plan e i Ql⟩:=by intro a;kernel_rfl
theorem Dp(B:Lo)(rf:Qc)(plan:List Int)(e i:Int)(Ql:Nat->Value):let a:=Vu rf plan e i;CE.finK 14 (Qn YP (Q0 YP) J0 B 7 14 (XU (none) 112 27 (([0,1,2,8,9]:List Nat).zip (Us rf plan e i)) Ql Ut) (X9 (U0 rf plan) 14 (([13,2]:List Nat).zip (Ur rf plan e i)) a) (14+1+a.length)
 [(0,WC)] 0 [] []) [(13,KS.auto),(2,KS.auto)] [] []=some (OO.ret (.tuple #[]),[(13,(VL rf plan)),(2,Obj.cells #[YI e] 3)],[],
 [XB i (↑rf.Qa.length:Int)=false]):=by intro a;kernel_rfl
set_option maxHeartbeats 4000000 in
theorem wg(rf:Qc)(plan:List Int)(hr:X4 rf=true)(hs:1<=rf.Qb/\rf.Qb<=4)(hl:plan.length<=4)(hp:∀j:Nat,0<=plan.getD j 0/\plan.getD j 0<=1000000)(q0:(0:Int)<rf.Qb)(q1:(1:Int)<rf.Qb)(q2:(2:Int)<rf.Qb){B:Lo}(hJ:∀w,B.has w->J0 w):∀m:Nat,(∀(e i:Int),rf.Qa.length-i.toNat=m->∀(i0:0<=i) (i1:i<=rf.Qa.length) (ee:e=ZD rf.Qa plan 2+ct rf.Qa (plan.getD 2 0) i.toNat),(∃Ql:Nat->Value,(∀t,Xh (Ql t))/\GoE YP B (So rf plan) (U0 rf plan) 14 (XU (none) 112 27 (([0,1,2,8,9]:List Nat).zip (Us rf plan e i)) Ql Ut) (X9 (U0 rf plan) 14 (([13,2]:List Nat).zip (Ur rf plan e i)) (Vu rf plan e i)) (14+1+(Vu rf plan e i).length) ([13,2]:List Nat))->FinK YP B (So rf plan) (U0 rf plan) 14 (.ret (.tuple #[])) (([13,2]:List Nat).zip ([(VL rf plan),.cells #[YI (ZD rf.Qa plan 3)] 3 (0,0)])) ([]) ([13,2]:List Nat)):=by
 intro m0;induction m0 using LB with
 |_ m0 ih0=>
  intro e i Jw i0 i1 ee ⟨Ql,Wl,X0⟩;have Zi:=Q2 (Qw hr).1;have Zi:=Q2 (Qw hr).1;have hpk:=hp 2;have hse:=u5 (k:=2) hl;have JF:=cA (n:=Qj [plan.getD 0 0,plan.getD 1 0,plan.getD 2 0,plan.getD 3 0] 2) (k:=i) (by omega);have hwa:=bg hr (plan:=plan) 2;by_cases q3:(i:Int)<((↑rf.Qa.length:Int))
  ·have hp10:Qz (hQ B rf plan e i Ql):=by
    have hws:=Z6 hr (p:=plan.getD 2 0) i.toNat (by omega);have hwo:=Zy hr (k:=i.toNat) (by omega);exact⟨(cq (by omega) (by omega) (by omega) (by omega)),⟨(cn (by omega) (by omega) (by omega)),⟨⟨by omega,by omega,bf (fs:=[plan.getD 0 0,plan.getD 1 0,plan.getD 2 0,plan.getD 3 0]) rfl (LO (m:=4) (by omega) rfl)⟩,⟨(Xs q3),trivial⟩⟩⟩⟩
   by_cases q4:((↑(VH (↑(ZT (Qj [plan.getD 0 0,plan.getD 1 0,plan.getD 2 0,plan.getD 3 0] 2) i):Int) 1):Int):Int)=(1)
   ·have rj6:FJ YP B (eJ rf plan e i Ql) (aE rf plan e i Ql) 15 (OO.ret (.bool true)) (([(13,(VL rf plan)),(2,Obj.cells #[YI (e+Qd.XF (rf.Qa.getD i.toNat La))] 3)]++((15,QV)::QL (15+1) []))++aE rf plan e i Ql) 16 (Le 15) [13,2]:=by
     have hws:=Z6 hr (p:=plan.getD 2 0) i.toNat (by omega);have hwo:=Zy hr (k:=i.toNat) (by omega);have hyes:=KL (ps:=rf.Qa) (p:=plan.getD 2 0) i0 (by rw[<-V2,<-hse];exact decide_eq_true (by assumption));exact FinK.fjB (GoE.fK ((GoE.refl (P:=YP) (B:=B) (c0:=eJ rf plan e i Ql) uA).widen (Wf:=((([(13,KS.auto),(2,KS.auto)]):List (Nat×KS)).map (·.1))) (by simp) wO) (Ds B rf plan e i Ql)
      ⟨wI,⟨(iX (lX 12)),trivial⟩⟩) (ex:=[]) (by kernel_rfl) (Zb _)
    have hws:=Z6 hr (p:=plan.getD 2 0) i.toNat (by omega);have hwo:=Zy hr (k:=i.toNat) (by omega);have hyes:=KL (ps:=rf.Qa) (p:=plan.getD 2 0) i0 (by rw[<-V2,<-hse];exact decide_eq_true (by assumption));exact((ih0 _ (by omega)) (e+Qd.XF (rf.Qa.getD i.toNat La)) (i+1) rfl (by omega) (by omega) (by omega)
     (GoE.lA X0 (Dr B rf plan e i Ql)
     ⟨wI,⟨rj6,⟨(TI q4),hp10⟩⟩⟩ (by kernel_rfl) (by kernel_rfl) (fun l hl=>by cases hl <;> decide))).cast (by rfl) (by rfl) (by rfl)
   ·have hws:=Z6 hr (p:=plan.getD 2 0) i.toNat (by omega);have hwo:=Zy hr (k:=i.toNat) (by omega);have hno:=dm (ps:=rf.Qa) (p:=plan.getD 2 0) i0 (by rw[<-V2,<-hse];exact decide_eq_false (by assumption));exact((ih0 _ (by omega)) (e) (i+1) rfl (by omega) (by omega) (by omega)
     (GoE.lA X0 (Dq B rf plan e i Ql)
     ⟨wI,⟨(TJ q4),hp10⟩⟩ (by kernel_rfl) (by kernel_rfl) (fun l hl=>by cases hl <;> decide))).cast (by rfl) (by rfl) (by rfl)
  ·have hws:=Z6 hr (p:=plan.getD 2 0) i.toNat (by omega);exact(GoE.fK X0 (Dp B rf plan e i Ql)
    ⟨(nL q3),trivial⟩).cast (by rfl) (by(rw[jQ ee i0 i1 (by assumption)];rfl)) (by rfl)

theorem Dt(B:Lo)(rf:Qc)(plan:List Int):let a:=ZD rf.Qa plan 2;CE.landA 14 (Qn YP (Q0 YP) J0 B 4 14 (So rf plan) (U0 rf plan) 14
 [] 0 [] []) [0,1,2,8,9] [(13,KS.auto),(2,KS.auto)] [] []=some ⟨112,27,Ut,[],.run,none,Us rf plan a (0),([13,2]:List Nat).zip (Ur rf plan a (0)),Vu rf plan a (0),
 []⟩:=by intro a;kernel_rfl
def hP(B:Lo)(rf:Qc)(plan:List Int):List Prop:=[FJ YP B (So rf plan) (U0 rf plan) 14 (OO.ret (.tuple #[])) (([(13,(eS rf plan)),(2,Obj.cells #[YI (ZD rf.Qa plan 3)] 3)]++((14,QV)::QL (14+1) []))++U0 rf plan) 15 (Le 14) [13,2]]++vX B rf plan
def aD(rf:Qc)(plan:List Int):Qm:=[(13,(mC rf plan)),(2,Obj.cells #[YI (ZD rf.Qa plan 3)] 3),(14,Obj.coro none),(13,(VL rf plan)),(12,Obj.deferred (some [])),(11,Obj.coro none),(9,(Sr rf plan)),(2,Obj.cells #[YI (ZD rf.Qa plan 2)] 3),(10,Obj.coro none),(9,(W9 rf plan)),(8,Obj.deferred (some [])),(7,Obj.coro none),(5,(Yd rf plan)),(2,Obj.cells #[YI (ZD rf.Qa plan 1)] 3),(6,Obj.coro none),(5,(ZM rf plan)),(4,Obj.deferred (some [])),(3,Obj.coro none),(2,Obj.cells #[YI 0] 3),(1,Obj.cells #[Qk 0 (Xp rf.Qa),YI rf.Qh,YI rf.Qb,YI (plan.getD 0 0),YI (plan.getD 1 0),YI (plan.getD 2 0),YI (plan.getD 3 0)] 84),(0,Obj.coro none)]
def eI(rf:Qc)(plan:List Int):CF:=⟨91,ofList 6 [.agg #[Qk 0 (Xp rf.Qa),YI rf.Qh,YI rf.Qb,YI (plan.getD 0 0),YI (plan.getD 1 0),YI (plan.getD 2 0),YI (plan.getD 3 0)],YI 3],[Item.code (Q8 YP 91)],[],.run,none⟩
theorem Dn(B:Lo)(rf:Qc)(plan:List Int):let a:=rf.Qa;CE.finK 15 (Qn YP (Q0 YP) J0 B 6 15 (eI rf plan) (aD rf plan) 15
 [] 0 [] []) [] [] [{k:=15,rs:=[0],cs:=#[Xo a.length (Qe Qt a),YI rf.Qh,YI rf.Qb,YI (plan.getD 0 0),YI (plan.getD 1 0),YI (plan.getD 2 0),YI (plan.getD 3 0)]},{k:=16,rs:=[],cs:=#[YI 3]}]=some (OO.ret (Value.func (Fn.func 112) #[] #[Qk 15 (ZU 0 #[Xo a.length (Qe Qt a),YI rf.Qh,YI rf.Qb,YI (plan.getD 0 0),YI (plan.getD 1 0),YI (plan.getD 2 0),YI (plan.getD 3 0)]),Qk 15 (ZU 0 #[YI 3])]),[],[],
 [X1 (Fz.rs {k:=15,rs:=[0],cs:=(VK rf plan)}) (eH rf plan) (Fz.cs {k:=15,rs:=[0],cs:=(VK rf plan)}),X1 (Fz.rs {k:=16,rs:=[],cs:=#[YI 3]}) #[YI 3] (Fz.cs {k:=16,rs:=[],cs:=#[YI 3]})]):=by intro a;kernel_rfl
def Vn(rf:Qc)(plan:List Int):Qm:=[(17,(Ye rf plan)),(16,Obj.deferred (some [])),(15,Obj.coro none),(13,(mC rf plan)),(2,Obj.cells #[YI (ZD rf.Qa plan 3)] 3),(14,Obj.coro none),(13,(VL rf plan)),(12,Obj.deferred (some [])),(11,Obj.coro none),(9,(Sr rf plan)),(2,Obj.cells #[YI (ZD rf.Qa plan 2)] 3),(10,Obj.coro none),(9,(W9 rf plan)),(8,Obj.deferred (some [])),(7,Obj.coro none),(5,(Yd rf plan)),(2,Obj.cells #[YI (ZD rf.Qa plan 1)] 3),(6,Obj.coro none),(5,(ZM rf plan)),(4,Obj.deferred (some [])),(3,Obj.coro none),(2,Obj.cells #[YI 0] 3),(1,Obj.cells #[Qk 0 (Xp rf.Qa),YI rf.Qh,YI rf.Qb,YI (plan.getD 0 0),YI (plan.getD 1 0),YI (plan.getD 2 0),YI (plan.getD 3 0)] 84),(0,Obj.coro none)]
def JZ(rf:Qc)(plan:List Int):CF:=⟨112,ofList 27 [Value.func (Fn.yield 17) #[] #[],Qk 15 (ZU 0 #[Xp rf.Qa,YI rf.Qh,YI rf.Qb,YI (plan.getD 0 0),YI (plan.getD 1 0),YI (plan.getD 2 0),YI (plan.getD 3 0)]),Qk 15 (ZU 0 #[YI 3])],[Item.code (Q8 YP 112)],[],.run,none⟩
def Up(rf:Qc)(plan:List Int)(e i:Int):List Value:=let a:=rf.Qa;[Value.func (Fn.yield 17) #[] #[],Qk 15 (ZU 0 #[Xo a.length (Qe Qt a),YI rf.Qh,YI rf.Qb,YI (plan.getD 0 0),YI (plan.getD 1 0),YI (plan.getD 2 0),YI (plan.getD 3 0)]),Qk 15 (ZU 0 #[YI 3]),YI (↑a.length:Int),YI i]
def Uo(rf:Qc)(plan:List Int)(e i:Int):List Obj:=[(Ye rf plan),.cells #[YI e] 3 (0,0)]
def Vt(rf:Qc)(plan:List Int)(e i:Int):List Obj:=[]
def Uq:List Item:=([.code [1,0,0],.inLoop [1,0,0],.inBlock 0]).map (it (Q8 YP 112))
def hO(B:Lo)(rf:Qc)(plan:List Int)(e i:Int)(Ql:Nat->Value):List Prop:=let b:=Tri.set 14 Tri.lf 16 (YI i);let a:=Qj [plan.getD 0 0,plan.getD 1 0,plan.getD 2 0,plan.getD 3 0] 3;let d:=YI a;let c:=YI (↑(ZT a i):Int);[Yr YP BinOp.and 3 (Xx {len:=16000,tr:=Tri.set 14 Tri.lf 17 c} 17) (YI 1) (YI (↑(VH (↑(ZT a i):Int) 1):Int)),Yr YP BinOp.shr 3 (Xx {len:=16000,tr:=Tri.set 14 b 15 d} 15) (Xx {len:=16000,tr:=Tri.set 14 b 15 d} 16) c,3=(↑3:Int)/\3<4/\Lh (VK rf plan) (3+3*TypeInfo.size Try.t3) (3+3*TypeInfo.size Try.t3+TypeInfo.size Try.t3)=#[YI a],XB i (↑rf.Qa.length:Int)=true]++([]:List Prop)
def qH(rf:Qc)(plan:List Int)(e i:Int)(Ql:Nat->Value):QA:=let a:=Qj [plan.getD 0 0,plan.getD 1 0,plan.getD 2 0,plan.getD 3 0] 3;[(0,Wj),(5,Qf.tarr 3 #[YI a]),(8,Qf.bin (YI (↑(ZT a i):Int))),(9,Qf.bin (YI (↑(VH (↑(ZT a i):Int) 1):Int)))]
def Ss(rf:Qc)(plan:List Int)(e i:Int)(Ql:Nat->Value):Qm:=[(17,(Ye rf plan)),(2,Obj.cells #[YI e] 3),(18,Obj.coro none),(17,(Ye rf plan)),(16,Obj.deferred (some [])),(15,Obj.coro none),(13,(mC rf plan)),(2,Obj.cells #[YI (ZD rf.Qa plan 3)] 3),(14,Obj.coro none),(13,(VL rf plan)),(12,Obj.deferred (some [])),(11,Obj.coro none),(9,(Sr rf plan)),(2,Obj.cells #[YI (ZD rf.Qa plan 2)] 3),(10,Obj.coro none),(9,(W9 rf plan)),(8,Obj.deferred (some [])),(7,Obj.coro none),(5,(Yd rf plan)),(2,Obj.cells #[YI (ZD rf.Qa plan 1)] 3),(6,Obj.coro none),(5,(ZM rf plan)),(4,Obj.deferred (some [])),(3,Obj.coro none),(2,Obj.cells #[YI 0] 3),(1,Obj.cells #[Qk 0 (Xp rf.Qa),YI rf.Qh,YI rf.Qb,YI (plan.getD 0 0),YI (plan.getD 1 0),YI (plan.getD 2 0),YI (plan.getD 3 0)] 84),(0,Obj.coro none)]
def bQ(rf:Qc)(plan:List Int)(e i:Int)(Ql:Nat->Value):CF:=⟨67,ofList 27 [.agg #[Qk 0 (Xp rf.Qa),YI rf.Qh,YI rf.Qb,YI (plan.getD 0 0),YI (plan.getD 1 0),YI (plan.getD 2 0),YI (plan.getD 3 0)],pA 1 0,YI 0,pA 2 0,YI 3,.tuple #[],pA 1 0,pA 1 2,YI rf.Qb,YI 3,.bool true,YI 3,.agg #[Qk 0 (Xp rf.Qa),YI rf.Qh,YI rf.Qb,YI (plan.getD 0 0),YI (plan.getD 1 0),YI (plan.getD 2 0),YI (plan.getD 3 0)],YI 3,Value.func (Fn.func 112) #[] #[Qk 15 (ZU 0 #[Xp rf.Qa,YI rf.Qh,YI rf.Qb,YI (plan.getD 0 0),YI (plan.getD 1 0),YI (plan.getD 2 0),YI (plan.getD 3 0)]),Qk 15 (ZU 0 #[YI 3])],YI i,.tuple #[],.tuple #[],.tuple #[],.tuple #[],.tuple #[],.tuple #[],.tuple #[],.tuple #[],.tuple #[],YI 3,.tuple #[]],[Item.code (UD (Q8 YP 67) [1,1,0,1,0,0,1,1,0,0,1,1,0,0]),Item.beginRound,Item.code (UD (Q8 YP 67) [1,1,0,1,0,0,1,1,0,0,1,1,0,1])],[],.run,some 17⟩
theorem Dl(B:Lo)(rf:Qc)(plan:List Int)(e i:Int)(Ql:Nat->Value):let d:=Lb i;let c:=rf.Qa;let a:=c.getD d La;let b:=e+a.XF;CE.finK 19 (Qn YP (Q0 YP) J0 B 6 19 (bQ rf plan e i Ql) (Ss rf plan e i Ql) 19
 [(6,Qf.tidx d (Jo a)),(9,Zu b)] 0 [] []) [(17,KS.auto),(2,KS.auto)] [] []=some (OO.ret (.bool true),[(17,(Ye rf plan)),(2,Obj.cells #[YI b] 3)],[],
 [wq b=e+a.XF,i=(↑d:Int)/\Lb i<Ld c/\Lh (Qe Qt c) (Lb i*TypeInfo.size Try.t54) (Lb i*TypeInfo.size Try.t54+TypeInfo.size Try.t54)=(Jo a)]):=by intro d c a b;kernel_rfl
theorem Dk(B:Lo)(rf:Qc)(plan:List Int)(e i:Int)(Ql:Nat->Value):let c:=Vt rf plan e i;let b:=OO.ret (.bool true);let a:=e+Qd.XF (rf.Qa.getD i.toNat La);CE.landA 18 (Qn YP (Q0 YP) J0 B 16 18 (XU (none) 112 27 (([0,1,2,8,9]:List Nat).zip (Up rf plan e i)) Ql Uq) (X9 (Vn rf plan) 18 (([17,2]:List Nat).zip (Uo rf plan e i)) c) (18+1+c.length)
 (qH rf plan e i Ql++[(10,Wj),(14,Qf.call (Le 19) b ([(17,(eQ rf plan)),(2,Obj.cells (Jn rf e i) 3)]++(19,QV)::QL 20 []) 20 [17,2]),(17,Zu (i+1))]) 0 [] []) [0,1,2,8,9] [(17,KS.auto),(2,KS.auto)] [] []=some ⟨112,27,Uq,[],.run,none,Up rf plan a (i+1),([17,2]:List Nat).zip (Uo rf plan a (i+1)),Vt rf plan a (i+1),
 [wq (i+1)=i+1,FJ YP B (bQ rf plan e i Ql) (Ss rf plan e i Ql) 19 b (([(17,(eQ rf plan)),(2,Obj.cells (Jn rf e i) 3)]++((19,QV)::QL (19+1) []))++Ss rf plan e i Ql) 20 (Le 19) [17,2],TO (↑(VH (↑(ZT (Qj [plan.getD 0 0,plan.getD 1 0,plan.getD 2 0,plan.getD 3 0] 3) i):Int) 1):Int) 1=true]++hO B rf plan e i Ql⟩:=by intro c b a;kernel_rfl
theorem Dj(B:Lo)(rf:Qc)(plan:List Int)(e i:Int)(Ql:Nat->Value):let a:=Vt rf plan e i;CE.landA 18 (Qn YP (Q0 YP) J0 B 16 18 (XU (none) 112 27 (([0,1,2,8,9]:List Nat).zip (Up rf plan e i)) Ql Uq) (X9 (Vn rf plan) 18 (([17,2]:List Nat).zip (Uo rf plan e i)) a) (18+1+a.length)
 (qH rf plan e i Ql++[(10,WC),(17,Zu (i+1))]) 0 [] []) [0,1,2,8,9] [(17,KS.auto),(2,KS.auto)] [] []=some ⟨112,27,Uq,[],.run,none,Up rf plan (e) (i+1),([17,2]:List Nat).zip (Uo rf plan (e) (i+1)),Vt rf plan (e) (i+1),
 [wq (i+1)=i+1,TO (↑(VH (↑(ZT (Qj [plan.getD 0 0,plan.getD 1 0,plan.getD 2 0,plan.getD 3 0] 3) i):Int) 1):Int) 1=false]++hO B rf plan e i Ql⟩:=by intro a;kernel_rfl
theorem Di(B:Lo)(rf:Qc)(plan:List Int)(e i:Int)(Ql:Nat->Value):let a:=Vt rf plan e i;CE.finK 18 (Qn YP (Q0 YP) J0 B 7 18 (XU (none) 112 27 (([0,1,2,8,9]:List Nat).zip (Up rf plan e i)) Ql Uq) (X9 (Vn rf plan) 18 (([17,2]:List Nat).zip (Uo rf plan e i)) a) (18+1+a.length)
 [(0,WC)] 0 [] []) [(17,KS.auto),(2,KS.auto)] [] []=some (OO.ret (.tuple #[]),[(17,(Ye rf plan)),(2,Obj.cells #[YI e] 3)],[],
 [XB i (↑rf.Qa.length:Int)=false]):=by intro a;kernel_rfl
set_option maxHeartbeats 4000000 in
theorem we(rf:Qc)(plan:List Int)(hr:X4 rf=true)(hs:1<=rf.Qb/\rf.Qb<=4)(hl:plan.length<=4)(hp:∀j:Nat,0<=plan.getD j 0/\plan.getD j 0<=1000000)(q0:(0:Int)<rf.Qb)(q1:(1:Int)<rf.Qb)(q2:(2:Int)<rf.Qb)(q3:(3:Int)<rf.Qb){B:Lo}(hJ:∀w,B.has w->J0 w):∀m:Nat,(∀(e i:Int),rf.Qa.length-i.toNat=m->∀(i0:0<=i) (i1:i<=rf.Qa.length) (ee:e=ZD rf.Qa plan 3+ct rf.Qa (plan.getD 3 0) i.toNat),(∃Ql:Nat->Value,(∀t,Xh (Ql t))/\GoE YP B (JZ rf plan) (Vn rf plan) 18 (XU (none) 112 27 (([0,1,2,8,9]:List Nat).zip (Up rf plan e i)) Ql Uq) (X9 (Vn rf plan) 18 (([17,2]:List Nat).zip (Uo rf plan e i)) (Vt rf plan e i)) (18+1+(Vt rf plan e i).length) ([17,2]:List Nat))->FinK YP B (JZ rf plan) (Vn rf plan) 18 (.ret (.tuple #[])) (([17,2]:List Nat).zip ([(Ye rf plan),.cells #[YI (ZD rf.Qa plan 4)] 3 (0,0)])) ([]) ([17,2]:List Nat)):=by
 intro m0;induction m0 using LB with
 |_ m0 ih0=>
  intro e i Jw i0 i1 ee ⟨Ql,Wl,X0⟩;have Zi:=Q2 (Qw hr).1;have Zi:=Q2 (Qw hr).1;have hpk:=hp 3;have hse:=u5 (k:=3) hl;have JF:=cA (n:=Qj [plan.getD 0 0,plan.getD 1 0,plan.getD 2 0,plan.getD 3 0] 3) (k:=i) (by omega);have hwa:=bg hr (plan:=plan) 3;by_cases q4:(i:Int)<((↑rf.Qa.length:Int))
  ·have hp12:Qz (hO B rf plan e i Ql):=by
    have hws:=Z6 hr (p:=plan.getD 3 0) i.toNat (by omega);have hwo:=Zy hr (k:=i.toNat) (by omega);exact⟨(cq (by omega) (by omega) (by omega) (by omega)),⟨(cn (by omega) (by omega) (by omega)),⟨⟨by omega,by omega,bf (fs:=[plan.getD 0 0,plan.getD 1 0,plan.getD 2 0,plan.getD 3 0]) rfl (LO (m:=4) (by omega) rfl)⟩,⟨(Xs q4),trivial⟩⟩⟩⟩
   by_cases q5:((↑(VH (↑(ZT (Qj [plan.getD 0 0,plan.getD 1 0,plan.getD 2 0,plan.getD 3 0] 3) i):Int) 1):Int):Int)=(1)
   ·have rj8:FJ YP B (bQ rf plan e i Ql) (Ss rf plan e i Ql) 19 (OO.ret (.bool true)) (([(17,(Ye rf plan)),(2,Obj.cells #[YI (e+Qd.XF (rf.Qa.getD i.toNat La))] 3)]++((19,QV)::QL (19+1) []))++Ss rf plan e i Ql) 20 (Le 19) [17,2]:=by
     have hws:=Z6 hr (p:=plan.getD 3 0) i.toNat (by omega);have hwo:=Zy hr (k:=i.toNat) (by omega);have hyes:=KL (ps:=rf.Qa) (p:=plan.getD 3 0) i0 (by rw[<-V2,<-hse];exact decide_eq_true (by assumption));exact FinK.fjB (GoE.fK ((GoE.refl (P:=YP) (B:=B) (c0:=bQ rf plan e i Ql) uA).widen (Wf:=((([(17,KS.auto),(2,KS.auto)]):List (Nat×KS)).map (·.1))) (by simp) wO) (Dl B rf plan e i Ql)
      ⟨wI,⟨(iX (lX 12)),trivial⟩⟩) (ex:=[]) (by kernel_rfl) (Zb _)
    have hws:=Z6 hr (p:=plan.getD 3 0) i.toNat (by omega);have hwo:=Zy hr (k:=i.toNat) (by omega);have hyes:=KL (ps:=rf.Qa) (p:=plan.getD 3 0) i0 (by rw[<-V2,<-hse];exact decide_eq_true (by assumption));exact((ih0 _ (by omega)) (e+Qd.XF (rf.Qa.getD i.toNat La)) (i+1) rfl (by omega) (by omega) (by omega)
     (GoE.lA X0 (Dk B rf plan e i Ql)
     ⟨wI,⟨rj8,⟨(TI q5),hp12⟩⟩⟩ (by kernel_rfl) (by kernel_rfl) (fun l hl=>by cases hl <;> decide))).cast (by rfl) (by rfl) (by rfl)
   ·have hws:=Z6 hr (p:=plan.getD 3 0) i.toNat (by omega);have hwo:=Zy hr (k:=i.toNat) (by omega);have hno:=dm (ps:=rf.Qa) (p:=plan.getD 3 0) i0 (by rw[<-V2,<-hse];exact decide_eq_false (by assumption));exact((ih0 _ (by omega)) (e) (i+1) rfl (by omega) (by omega) (by omega)
     (GoE.lA X0 (Dj B rf plan e i Ql)
     ⟨wI,⟨(TJ q5),hp12⟩⟩ (by kernel_rfl) (by kernel_rfl) (fun l hl=>by cases hl <;> decide))).cast (by rfl) (by rfl) (by rfl)
  ·have hws:=Z6 hr (p:=plan.getD 3 0) i.toNat (by omega);exact(GoE.fK X0 (Di B rf plan e i Ql)
    ⟨(nL q4),trivial⟩).cast (by rfl) (by(rw[jQ ee i0 i1 (by assumption)];rfl)) (by rfl)

theorem Dm(B:Lo)(rf:Qc)(plan:List Int):let a:=ZD rf.Qa plan 3;CE.landA 18 (Qn YP (Q0 YP) J0 B 4 18 (JZ rf plan) (Vn rf plan) 18
 [] 0 [] []) [0,1,2,8,9] [(17,KS.auto),(2,KS.auto)] [] []=some ⟨112,27,Uq,[],.run,none,Up rf plan a (0),([17,2]:List Nat).zip (Uo rf plan a (0)),Vt rf plan a (0),
 []⟩:=by intro a;kernel_rfl
theorem Dh(B:Lo)(rf:Qc)(plan:List Int):let c:=OO.ret (.tuple #[]);let b:=ZD rf.Qa plan 4;let a:=OO.ret (Value.func (Fn.func 112) #[] #[Qk 15 (P7 rf plan),Qk 15 (ZU 0 #[YI 3])]);Xv (Qn YP (Q0 YP) J0 B 94 1 (Qu YP 67 27 (([.agg (QN rf plan).toArray]).map (Q4 0 4))) Zd 1
 (vS rf plan++[(32,Wj),(37,Qf.call (Le 15) a ([]++(15,QV)::QL 16 []) 16 []),(38,Qf.call (Le 18) c ([(17,(eQ rf plan)),(2,Obj.cells #[YI b] 3)]++(18,QV)::QL 19 []) 19 [17,2]),(40,WC)]) 0 [] []) []=some (YI b,
 [XB 4 rf.Qb=false,FJ YP B (JZ rf plan) (Vn rf plan) 18 c (([(17,(eQ rf plan)),(2,Obj.cells #[YI b] 3)]++((18,QV)::QL (18+1) []))++Vn rf plan) 19 (Le 18) [17,2],FJ YP B (eI rf plan) (aD rf plan) 15 a (([]++((15,QV)::QL (15+1) []))++aD rf plan) 16 (Le 15) [],XB 3 rf.Qb=true]++hP B rf plan):=by intro c b a;kernel_rfl
theorem Dg(B:Lo)(rf:Qc)(plan:List Int):Xv (Qn YP (Q0 YP) J0 B 75 1 (Qu YP 67 27 (([.agg (QN rf plan).toArray]).map (Q4 0 4))) Zd 1
 (vS rf plan++[(32,WC)]) 0 [] []) []=some (YI (ZD rf.Qa plan 3),
 [XB 3 rf.Qb=false]++hP B rf plan):=by kernel_rfl
theorem Df(B:Lo)(rf:Qc)(plan:List Int):Xv (Qn YP (Q0 YP) J0 B 56 1 (Qu YP 67 27 (([.agg (QN rf plan).toArray]).map (Q4 0 4))) Zd 1
 (vU rf plan++[(24,WC)]) 0 [] []) []=some (YI (ZD rf.Qa plan 2),
 [XB 2 rf.Qb=false]++m8 B rf plan):=by kernel_rfl
theorem De(B:Lo)(rf:Qc)(plan:List Int):Xv (Qn YP (Q0 YP) J0 B 37 1 (Qu YP 67 27 (([.agg (QN rf plan).toArray]).map (Q4 0 4))) Zd 1
 (vW rf plan++[(16,WC)]) 0 [] []) []=some (YI (ZD rf.Qa plan 1),
 [XB 1 rf.Qb=false]++mA B rf plan):=by kernel_rfl
set_option maxHeartbeats 4000000 in
theorem N3(rf:Qc)(plan:List Int)(hr:X4 rf=true)(hs:1<=rf.Qb/\rf.Qb<=4)(hl:plan.length<=4)(hp:∀j:Nat,0<=plan.getD j 0/\plan.getD j 0<=1000000){B:Lo}(hJ:∀w,B.has w->J0 w):EndsT YP B (Qu YP 67 27 (([.agg (QN rf plan).toArray]).map (Q4 0 4))) (YI (Xk rf plan)):=by
 have Zi:=Q2 (Qw hr).1;by_cases q0:(0:Int)<rf.Qb
 ·have VO:Qz (wc B rf plan):=by
   exact⟨(Xs q0),trivial⟩
  have rj0:FJ YP B (eO rf plan) (aJ rf plan) 3 (OO.ret (Value.func (Fn.func 112) #[] #[Qk 3 (ZU 0 #[Xp rf.Qa,YI rf.Qh,YI rf.Qb,YI (plan.getD 0 0),YI (plan.getD 1 0),YI (plan.getD 2 0),YI (plan.getD 3 0)]),Qk 3 (ZU 0 #[YI 0])])) (([]++((3,QV)::QL (3+1) []))++aJ rf plan) 4 (Le 3) []:=by
   exact FinK.fjB (GoE.fK ((GoE.refl (P:=YP) (B:=B) (c0:=eO rf plan) uA).widen (Wf:=((([]):List (Nat×KS)).map (·.1))) (by simp) wO) (H6 B rf plan)
    ⟨(SI (by kernel_rfl)),⟨(Wy (by kernel_rfl)),trivial⟩⟩) (ex:=[]) (by kernel_rfl) (Zb _)
  have hp1:Qz (wb B rf plan):=by
   exact⟨rj0,VO⟩
  have rj1:FJ YP B (Sq rf plan) (U2 rf plan) 6 (OO.ret (.tuple #[])) (([(5,(ZM rf plan)),(2,Obj.cells #[YI (ZD rf.Qa plan 1)] 3)]++((6,QV)::QL (6+1) []))++U2 rf plan) 7 (Le 6) [5,2]:=by
   exact FinK.fjB ((wi rf plan hr hs hl hp q0 hJ _) (0) (0) rfl (by omega) (by omega) (by rfl)
    (GoE.lA ((GoE.refl (P:=YP) (B:=B) (c0:=Sq rf plan) uA).widen (Wf:=((([(5,KS.auto),(2,KS.auto)]):List (Nat×KS)).map (·.1))) (by simp) wO) (H5 B rf plan)
    trivial (by kernel_rfl) (by kernel_rfl) (fun l hl=>by cases hl <;> decide))) (ex:=[]) (by kernel_rfl) (Zb _)
  have hp3:Qz (mA B rf plan):=by
   exact⟨rj1,hp1⟩
  by_cases q1:(1:Int)<rf.Qb
  ·have hp4:Qz (wa B rf plan):=by
    exact⟨(Xs q1),hp3⟩
   have rj2:FJ YP B (eM rf plan) (aH rf plan) 7 (OO.ret (Value.func (Fn.func 112) #[] #[Qk 7 (ZU 0 #[Xp rf.Qa,YI rf.Qh,YI rf.Qb,YI (plan.getD 0 0),YI (plan.getD 1 0),YI (plan.getD 2 0),YI (plan.getD 3 0)]),Qk 7 (ZU 0 #[YI 1])])) (([]++((7,QV)::QL (7+1) []))++aH rf plan) 8 (Le 7) []:=by
    exact FinK.fjB (GoE.fK ((GoE.refl (P:=YP) (B:=B) (c0:=eM rf plan) uA).widen (Wf:=((([]):List (Nat×KS)).map (·.1))) (by simp) wO) (Hx B rf plan)
     ⟨(SI (by kernel_rfl)),⟨(Wy (by kernel_rfl)),trivial⟩⟩) (ex:=[]) (by kernel_rfl) (Zb _)
   have hp5:Qz (vZ B rf plan):=by
    exact⟨rj2,hp4⟩
   have rj3:FJ YP B (Sp rf plan) (U1 rf plan) 10 (OO.ret (.tuple #[])) (([(9,(W9 rf plan)),(2,Obj.cells #[YI (ZD rf.Qa plan 2)] 3)]++((10,QV)::QL (10+1) []))++U1 rf plan) 11 (Le 10) [9,2]:=by
    exact FinK.fjB ((wh rf plan hr hs hl hp q0 q1 hJ _) (ZD rf.Qa plan 1) (0) rfl (by omega) (by omega) (by exact(Int.add_zero _).symm)
     (GoE.lA ((GoE.refl (P:=YP) (B:=B) (c0:=Sp rf plan) uA).widen (Wf:=((([(9,KS.auto),(2,KS.auto)]):List (Nat×KS)).map (·.1))) (by simp) wO) (Hw B rf plan)
     trivial (by kernel_rfl) (by kernel_rfl) (fun l hl=>by cases hl <;> decide))) (ex:=[]) (by kernel_rfl) (Zb _)
   have hp7:Qz (m8 B rf plan):=by
    exact⟨rj3,hp5⟩
   by_cases q2:(2:Int)<rf.Qb
   ·have hp8:Qz (vY B rf plan):=by
     exact⟨(Xs q2),hp7⟩
    have rj4:FJ YP B (eK rf plan) (aF rf plan) 11 (OO.ret (Value.func (Fn.func 112) #[] #[Qk 11 (ZU 0 #[Xp rf.Qa,YI rf.Qh,YI rf.Qb,YI (plan.getD 0 0),YI (plan.getD 1 0),YI (plan.getD 2 0),YI (plan.getD 3 0)]),Qk 11 (ZU 0 #[YI 2])])) (([]++((11,QV)::QL (11+1) []))++aF rf plan) 12 (Le 11) []:=by
     exact FinK.fjB (GoE.fK ((GoE.refl (P:=YP) (B:=B) (c0:=eK rf plan) uA).widen (Wf:=((([]):List (Nat×KS)).map (·.1))) (by simp) wO) (Du B rf plan)
      ⟨(SI (by kernel_rfl)),⟨(Wy (by kernel_rfl)),trivial⟩⟩) (ex:=[]) (by kernel_rfl) (Zb _)
    have hp9:Qz (vX B rf plan):=by
     exact⟨rj4,hp8⟩
    have rj5:FJ YP B (So rf plan) (U0 rf plan) 14 (OO.ret (.tuple #[])) (([(13,(VL rf plan)),(2,Obj.cells #[YI (ZD rf.Qa plan 3)] 3)]++((14,QV)::QL (14+1) []))++U0 rf plan) 15 (Le 14) [13,2]:=by
     exact FinK.fjB ((wg rf plan hr hs hl hp q0 q1 q2 hJ _) (ZD rf.Qa plan 2) (0) rfl (by omega) (by omega) (by exact(Int.add_zero _).symm)
      (GoE.lA ((GoE.refl (P:=YP) (B:=B) (c0:=So rf plan) uA).widen (Wf:=((([(13,KS.auto),(2,KS.auto)]):List (Nat×KS)).map (·.1))) (by simp) wO) (Dt B rf plan)
      trivial (by kernel_rfl) (by kernel_rfl) (fun l hl=>by cases hl <;> decide))) (ex:=[]) (by kernel_rfl) (Zb _)
    have hp11:Qz (hP B rf plan):=by
     exact⟨rj5,hp9⟩
    by_cases q3:(3:Int)<rf.Qb
    ·have rj6:FJ YP B (eI rf plan) (aD rf plan) 15 (OO.ret (Value.func (Fn.func 112) #[] #[Qk 15 (ZU 0 #[Xp rf.Qa,YI rf.Qh,YI rf.Qb,YI (plan.getD 0 0),YI (plan.getD 1 0),YI (plan.getD 2 0),YI (plan.getD 3 0)]),Qk 15 (ZU 0 #[YI 3])])) (([]++((15,QV)::QL (15+1) []))++aD rf plan) 16 (Le 15) []:=by
      exact FinK.fjB (GoE.fK ((GoE.refl (P:=YP) (B:=B) (c0:=eI rf plan) uA).widen (Wf:=((([]):List (Nat×KS)).map (·.1))) (by simp) wO) (Dn B rf plan)
       ⟨(SI (by kernel_rfl)),⟨(Wy (by kernel_rfl)),trivial⟩⟩) (ex:=[]) (by kernel_rfl) (Zb _)
     have rj7:FJ YP B (JZ rf plan) (Vn rf plan) 18 (OO.ret (.tuple #[])) (([(17,(Ye rf plan)),(2,Obj.cells #[YI (ZD rf.Qa plan 4)] 3)]++((18,QV)::QL (18+1) []))++Vn rf plan) 19 (Le 18) [17,2]:=by
      exact FinK.fjB ((we rf plan hr hs hl hp q0 q1 q2 q3 hJ _) (ZD rf.Qa plan 3) (0) rfl (by omega) (by omega) (by exact(Int.add_zero _).symm)
       (GoE.lA ((GoE.refl (P:=YP) (B:=B) (c0:=JZ rf plan) uA).widen (Wf:=((([(17,KS.auto),(2,KS.auto)]):List (Nat×KS)).map (·.1))) (by simp) wO) (Dm B rf plan)
       trivial (by kernel_rfl) (by kernel_rfl) (fun l hl=>by cases hl <;> decide))) (ex:=[]) (by kernel_rfl) (Zb _)
     by_cases q4:(4:Int)<rf.Qb
     ·exfalso
      (omega)
     ·exact(GoE.eT GoE.start (Dh B rf plan)
       ⟨(nL q4),⟨rj7,⟨rj6,⟨(Xs q3),hp11⟩⟩⟩⟩).cast (by(rw[ky (k:=4) (by omega)]))
    ·exact(GoE.eT GoE.start (Dg B rf plan)
      ⟨(nL q3),hp11⟩).cast (by(rw[ky (k:=3) (by omega)]))
   ·exact(GoE.eT GoE.start (Df B rf plan)
     ⟨(nL q2),hp7⟩).cast (by(rw[ky (k:=2) (by omega)]))
  ·exact(GoE.eT GoE.start (De B rf plan)
    ⟨(nL q1),hp3⟩).cast (by(rw[ky (k:=1) (by omega)]))
 ·exfalso
  (omega)
theorem H7(rf:Qc)(plan:List Int)(hr:X4 rf=true)(hs:1<=rf.Qb/\rf.Qb<=4)(hl:plan.length<=4)(hp:∀j:Nat,0<=plan.getD j 0/\plan.getD j 0<=1000000):Qv YP J0 67 #[.agg (QN rf plan).toArray] (YI (Xk rf plan)):=
 Xd (ts:=[.agg (QN rf plan).toArray]) Zc (c0:=Qu YP 67 27 (([.agg (QN rf plan).toArray]).map (Q4 0 4))) (by kernel_rfl) (by kernel_rfl) fun B hJ=>N3 rf plan hr hs hl hp hJ
end
end Go.Proofs.Ytncjjangllkokaa

