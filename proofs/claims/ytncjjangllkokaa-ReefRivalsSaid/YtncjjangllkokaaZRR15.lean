/- layer 03: calls within known() -/
import Derived.Test.YtncjjangllkokaaZRR14
import Derived.Test.YtncjjangllkokaaZRR10
import Derived.Test.YtncjjangllkokaaZRR13
set_option linter.all false
open Array renaming eq_empty_of_size_eq_zero->LD
open List renaming getD_eq_getElem?_getD->Li,getElem?_eq_none->Lw,length->Lf
open Int renaming mul_nonneg->LG,mul_le_mul->LH,toNat_natCast->LK,toNat->Lb
open Nat renaming strongRecOn->LA,lt_of_lt_of_eq->LI
namespace Go.Proofs.Ytncjjangllkokaa
open Go Go.CE Go.RowKit
noncomputable def dB:Wl:=X1 [oc,nZ,oh,nY,nX,og,nW,oe,nV,od,jk,ki,jj,ji,kh,jh,kg,jg,kf,jf,kb,je,jd,ka,jc,jZ,jb,jY,ja,jX,iZ,jW,iY,jV]
theorem iQ(B:Lo):ZK YP B dB:=QI Q1 Qd (Q7 _ _) vG (QI Q1 Qd (Q7 _ _) vF (QO Q1 Qd (Q7 _ _) vK (QI Q1 Qd (Q7 _ _) vE (QI Q1 Qd (Q7 _ _) vD (QO Q1 Qd (Q7 _ _) vJ (QI Q1 Qd (Q7 _ _) vC (QO Q1 Qd (Q7 _ _) vI (QI Q1 Qd (Q7 _ _) vB (QO Q1 Qd (Q7 _ _) vH (QI Q1 Qd (Q7 _ _) rM (QO Q1 Qd (Q7 _ _) sP (QI Q1 Qd (Q7 _ _) rL (QI Q1 Qd (Q7 _ _) rK (QO Q1 Qd (Q7 _ _) sO (QI Q1 Qd (Q7 _ _) rJ (QO Q1 Qd (Q7 _ _) sN (QI Q1 Qd (Q7 _ _) rI (QO Q1 Qd (Q7 _ _) sM (QI Q1 Qd (Q7 _ _) rH (QO Q1 Qd (Q7 _ _) sL (QI Q1 Qd (Q7 _ _) rG (QI Q1 Qd (Q7 _ _) rF (QO Q1 Qd (Q7 _ _) sK (QI Q1 Qd (Q7 _ _) rE (QO Q1 Qd (Q7 _ _) sJ (QI Q1 Qd (Q7 _ _) rD (QO Q1 Qd (Q7 _ _) sI (QI Q1 Qd (Q7 _ _) rC (QO Q1 Qd (Q7 _ _) sH (QI Q1 Qd (Q7 _ _) rB (QO Q1 Qd (Q7 _ _) sG (QI Q1 Qd (Q7 _ _) rA (QO Q1 Qd (Q7 _ _) sF (XC _ _))))))))))))))))))))))))))))))))))
def oo:Memo:=
 ⟨37,#[.agg #[.slice (some ⟨552,0,none⟩) 2 12,Qp 200,Qp 2]],[(552,Vi)],553,.tuple #[.slice (some ⟨2086,0,none⟩) 2 1,Qp 26,Qp 0],[(2086,.cells #[Qp 1,Qp 3] 3 (0,0))],2097⟩
theorem vM:QF oo (oo.run YP QV dB 100000)=true:=by decide+kernel
end Go.Proofs.Ytncjjangllkokaa

namespace Go.Proofs.Ytncjjangllkokaa
open Go Go.CE Go.RowKit
def jP:Memo:=
 ⟨88,#[.slice (some ⟨2834,0,none⟩) 2 12,.agg #[Qp 1063,Qp 440,Qp 0,Qp 0]],[(2834,Vi)],2966,.tuple #[.agg #[Qp 1,Qp 10],.bool true],[],2971⟩
theorem s9:QF jP (jP.drun YP QV Xh 100000)=true:=by decide+kernel
def jO:Memo:=
 ⟨88,#[.slice (some ⟨2974,0,none⟩) 2 12,.agg #[Qp 1063,Qp 440,Qp 0,Qp 0]],[(2974,Vi)],3106,.tuple #[.agg #[Qp 1,Qp 10],.bool true],[],3111⟩
theorem s8:QF jO (jO.drun YP QV Xh 100000)=true:=by decide+kernel
def jN:Memo:=
 ⟨88,#[.slice (some ⟨3114,0,none⟩) 2 12,.agg #[Qp 1063,Qp 440,Qp 0,Qp 0]],[(3114,Vi)],3246,.tuple #[.agg #[Qp 1,Qp 10],.bool true],[],3251⟩
theorem s7:QF jN (jN.drun YP QV Xh 100000)=true:=by decide+kernel
def jM:Memo:=
 ⟨88,#[.slice (some ⟨3254,0,none⟩) 2 12,.agg #[Qp 1063,Qp 440,Qp 0,Qp 0]],[(3254,Vi)],3386,.tuple #[.agg #[Qp 1,Qp 10],.bool true],[],3391⟩
theorem s6:QF jM (jM.drun YP QV Xh 100000)=true:=by decide+kernel
def jL:Memo:=
 ⟨88,#[.slice (some ⟨3394,0,none⟩) 2 12,.agg #[Qp 1063,Qp 440,Qp 0,Qp 0]],[(3394,Vi)],3526,.tuple #[.agg #[Qp 1,Qp 10],.bool true],[],3531⟩
theorem s5:QF jL (jL.drun YP QV Xh 100000)=true:=by decide+kernel
def jK:Memo:=
 ⟨88,#[.slice (some ⟨3534,0,none⟩) 2 12,.agg #[Qp 1063,Qp 440,Qp 0,Qp 0]],[(3534,Vi)],3666,.tuple #[.agg #[Qp 1,Qp 10],.bool true],[],3671⟩
theorem sy:QF jK (jK.drun YP QV Xh 100000)=true:=by decide+kernel
def jJ:Memo:=
 ⟨88,#[.slice (some ⟨3674,0,none⟩) 2 12,.agg #[Qp 1063,Qp 440,Qp 0,Qp 0]],[(3674,Vi)],3806,.tuple #[.agg #[Qp 1,Qp 10],.bool true],[],3811⟩
theorem sx:QF jJ (jJ.drun YP QV Xh 100000)=true:=by decide+kernel
def jI:Memo:=
 ⟨88,#[.slice (some ⟨3814,0,none⟩) 2 12,.agg #[Qp 1063,Qp 603,Qp 0,Qp 0]],[(3814,Ii)],3946,.tuple #[.agg #[Qp 0,Qp 0],.bool false],[],3951⟩
theorem sw:QF jI (jI.drun YP QV Xh 100000)=true:=by decide+kernel
def jH:Memo:=
 ⟨88,#[.slice (some ⟨3954,0,none⟩) 2 12,.agg #[Qp 1063,Qp 475,Qp 0,Qp 0]],[(3954,Ih)],4086,.tuple #[.agg #[Qp 0,Qp 0],.bool false],[],4091⟩
theorem su:QF jH (jH.drun YP QV Xh 100000)=true:=by decide+kernel
def jG:Memo:=
 ⟨88,#[.slice (some ⟨4094,0,none⟩) 2 12,.agg #[Qp 1063,Qp 440,Qp 0,Qp 0]],[(4094,Vi)],4226,.tuple #[.agg #[Qp 1,Qp 10],.bool true],[],4231⟩
theorem sr:QF jG (jG.drun YP QV Xh 100000)=true:=by decide+kernel
def jF:Memo:=
 ⟨88,#[.slice (some ⟨4234,0,none⟩) 2 12,.agg #[Qp 1063,Qp 442,Qp 0,Qp 0]],[(4234,Ig)],4366,.tuple #[.agg #[Qp 1,Qp 8],.bool true],[],4371⟩
theorem sq:QF jF (jF.drun YP QV Xh 100000)=true:=by decide+kernel
def jE:Memo:=
 ⟨88,#[.slice (some ⟨4374,0,none⟩) 2 12,.agg #[Qp 1063,Qp 458,Qp 0,Qp 0]],[(4374,Ie)],4506,.tuple #[.agg #[Qp 0,Qp 0],.bool false],[],4511⟩
theorem so:QF jE (jE.drun YP QV Xh 100000)=true:=by decide+kernel
def jD:Memo:=
 ⟨88,#[.slice (some ⟨4514,0,none⟩) 2 12,.agg #[Qp 1063,Qp 450,Qp 0,Qp 0]],[(4514,Ic)],4646,.tuple #[.agg #[Qp 0,Qp 0],.bool false],[],4651⟩
theorem sn:QF jD (jD.drun YP QV Xh 100000)=true:=by decide+kernel
def jC:Memo:=
 ⟨88,#[.slice (some ⟨4654,0,none⟩) 2 12,.agg #[Qp 1063,Qp 446,Qp 0,Qp 0]],[(4654,Ib)],4786,.tuple #[.agg #[Qp 1,Qp 4],.bool true],[],4791⟩
theorem sm:QF jC (jC.drun YP QV Xh 100000)=true:=by decide+kernel
end Go.Proofs.Ytncjjangllkokaa

namespace Go.Proofs.Ytncjjangllkokaa
open Go Go.CE Go.RowKit
noncomputable section
def b4:Wl:=X1 [jU]
theorem eG(B:Lo):ZK YP B b4:=QO Q1 Qd (Q7 _ _) sE (XC _ _)
def jA:Memo:=
 ⟨93,#[Qp 500000,.pointer (some ⟨2130,0,none⟩),.pointer (some ⟨2131,0,none⟩)],[(2104,Vi),(2131,.cells #[Qp 1] 3 (0,0)),(2130,mO)],2132,.bool true,[],2272⟩
theorem sj:QF jA (jA.run YP QV b4 100000)=true:=by decide+kernel
def bz:Wl:=X1 [jT]
theorem eF(B:Lo):ZK YP B bz:=QO Q1 Qd (Q7 _ _) sD (XC _ _)
def j9:Memo:=
 ⟨93,#[Qp 250000,.pointer (some ⟨2130,0,none⟩),.pointer (some ⟨2131,0,none⟩)],[(2104,Vi),(2131,.cells #[Qp 1] 3 (0,0)),(2130,mO)],2272,.bool true,[],2412⟩
theorem si:QF j9 (j9.run YP QV bz 100000)=true:=by decide+kernel
def bw:Wl:=X1 [jS]
theorem eE(B:Lo):ZK YP B bw:=QO Q1 Qd (Q7 _ _) sC (XC _ _)
def j8:Memo:=
 ⟨93,#[Qp 125000,.pointer (some ⟨2130,0,none⟩),.pointer (some ⟨2131,0,none⟩)],[(2104,Vi),(2131,.cells #[Qp 1] 3 (0,0)),(2130,mO)],2412,.bool true,[],2552⟩
theorem sh:QF j8 (j8.run YP QV bw 100000)=true:=by decide+kernel
def bu:Wl:=X1 [jR]
theorem eD(B:Lo):ZK YP B bu:=QO Q1 Qd (Q7 _ _) sB (XC _ _)
def j7:Memo:=
 ⟨93,#[Qp 62500,.pointer (some ⟨2130,0,none⟩),.pointer (some ⟨2131,0,none⟩)],[(2104,Vi),(2131,.cells #[Qp 1] 3 (0,0)),(2130,mO)],2552,.bool true,[],2692⟩
theorem sg:QF j7 (j7.run YP QV bu 100000)=true:=by decide+kernel
def bt:Wl:=X1 [jQ]
theorem eC(B:Lo):ZK YP B bt:=QO Q1 Qd (Q7 _ _) sA (XC _ _)
def j6:Memo:=
 ⟨93,#[Qp 31250,.pointer (some ⟨2130,0,none⟩),.pointer (some ⟨2131,0,none⟩)],[(2104,Vi),(2131,.cells #[Qp 1] 3 (0,0)),(2130,mO)],2692,.bool true,[],2832⟩
theorem sf:QF j6 (j6.run YP QV bt 100000)=true:=by decide+kernel
def bq:Wl:=X1 [jP]
theorem eB(B:Lo):ZK YP B bq:=QO Q1 Qd (Q7 _ _) s9 (XC _ _)
def j5:Memo:=
 ⟨93,#[Qp 15625,.pointer (some ⟨2130,0,none⟩),.pointer (some ⟨2131,0,none⟩)],[(2104,Vi),(2131,.cells #[Qp 1] 3 (0,0)),(2130,mO)],2832,.bool true,[],2972⟩
theorem se:QF j5 (j5.run YP QV bq 100000)=true:=by decide+kernel
def bp:Wl:=X1 [jO]
theorem eA(B:Lo):ZK YP B bp:=QO Q1 Qd (Q7 _ _) s8 (XC _ _)
def j4:Memo:=
 ⟨93,#[Qp 7812,.pointer (some ⟨2130,0,none⟩),.pointer (some ⟨2131,0,none⟩)],[(2104,Vi),(2131,.cells #[Qp 1] 3 (0,0)),(2130,mO)],2972,.bool true,[],3112⟩
theorem sd:QF j4 (j4.run YP QV bp 100000)=true:=by decide+kernel
def bo:Wl:=X1 [jN]
theorem e9(B:Lo):ZK YP B bo:=QO Q1 Qd (Q7 _ _) s7 (XC _ _)
def j3:Memo:=
 ⟨93,#[Qp 3906,.pointer (some ⟨2130,0,none⟩),.pointer (some ⟨2131,0,none⟩)],[(2104,Vi),(2131,.cells #[Qp 1] 3 (0,0)),(2130,mO)],3112,.bool true,[],3252⟩
theorem rZ:QF j3 (j3.run YP QV bo 100000)=true:=by decide+kernel
def bn:Wl:=X1 [jM]
theorem ez(B:Lo):ZK YP B bn:=QO Q1 Qd (Q7 _ _) s6 (XC _ _)
def jz:Memo:=
 ⟨93,#[Qp 1953,.pointer (some ⟨2130,0,none⟩),.pointer (some ⟨2131,0,none⟩)],[(2104,Vi),(2131,.cells #[Qp 1] 3 (0,0)),(2130,mO)],3252,.bool true,[],3392⟩
theorem rY:QF jz (jz.run YP QV bn 100000)=true:=by decide+kernel
def bm:Wl:=X1 [jL]
theorem ey(B:Lo):ZK YP B bm:=QO Q1 Qd (Q7 _ _) s5 (XC _ _)
def jy:Memo:=
 ⟨93,#[Qp 976,.pointer (some ⟨2130,0,none⟩),.pointer (some ⟨2131,0,none⟩)],[(2104,Vi),(2131,.cells #[Qp 1] 3 (0,0)),(2130,mO)],3392,.bool true,[],3532⟩
theorem rX:QF jy (jy.run YP QV bm 100000)=true:=by decide+kernel
def bl:Wl:=X1 [jK]
theorem ew(B:Lo):ZK YP B bl:=QO Q1 Qd (Q7 _ _) sy (XC _ _)
def jx:Memo:=
 ⟨93,#[Qp 488,.pointer (some ⟨2130,0,none⟩),.pointer (some ⟨2131,0,none⟩)],[(2104,Vi),(2131,.cells #[Qp 1] 3 (0,0)),(2130,mO)],3532,.bool true,[],3672⟩
theorem rW:QF jx (jx.run YP QV bl 100000)=true:=by decide+kernel
def bk:Wl:=X1 [jJ]
theorem eu(B:Lo):ZK YP B bk:=QO Q1 Qd (Q7 _ _) sx (XC _ _)
def jv:Memo:=
 ⟨93,#[Qp 244,.pointer (some ⟨2130,0,none⟩),.pointer (some ⟨2131,0,none⟩)],[(2104,Vi),(2131,.cells #[Qp 1] 3 (0,0)),(2130,mO)],3672,.bool true,[],3812⟩
theorem rV:QF jv (jv.run YP QV bk 100000)=true:=by decide+kernel
def bj:Wl:=X1 [jI]
theorem ep(B:Lo):ZK YP B bj:=QO Q1 Qd (Q7 _ _) sw (XC _ _)
def ju:Memo:=
 ⟨93,#[Qp 122,.pointer (some ⟨2130,0,none⟩),.pointer (some ⟨2131,0,none⟩)],[(2104,Vi),(2131,.cells #[Qp 1] 3 (0,0)),(2130,mO)],3812,.bool false,[],3952⟩
theorem rU:QF ju (ju.run YP QV bj 100000)=true:=by decide+kernel
def bh:Wl:=X1 [jH]
theorem eo(B:Lo):ZK YP B bh:=QO Q1 Qd (Q7 _ _) su (XC _ _)
def jt:Memo:=
 ⟨93,#[Qp 183,.pointer (some ⟨2130,0,none⟩),.pointer (some ⟨2131,0,none⟩)],[(2104,Vi),(2131,.cells #[Qp 1] 3 (0,0)),(2130,mO)],3952,.bool false,[],4092⟩
theorem rT:QF jt (jt.run YP QV bh 100000)=true:=by decide+kernel
end
end Go.Proofs.Ytncjjangllkokaa

namespace Go.Proofs.Ytncjjangllkokaa
open Go Go.CE Go.RowKit
def jB:Memo:=
 ⟨88,#[.slice (some ⟨4794,0,none⟩) 2 12,.agg #[Qp 1063,Qp 448,Qp 0,Qp 0]],[(4794,Ia)],4926,.tuple #[.agg #[Qp 1,Qp 2],.bool true],[],4931⟩
theorem sk:QF jB (jB.drun YP QV Xh 100000)=true:=by decide+kernel
end Go.Proofs.Ytncjjangllkokaa

namespace Go.Proofs.Ytncjjangllkokaa
open Go Go.CE Go.RowKit
noncomputable section
def bg:Wl:=X1 [jG]
theorem ej(B:Lo):ZK YP B bg:=QO Q1 Qd (Q7 _ _) sr (XC _ _)
def js:Memo:=
 ⟨93,#[Qp 214,.pointer (some ⟨2130,0,none⟩),.pointer (some ⟨2131,0,none⟩)],[(2104,Vi),(2131,.cells #[Qp 1] 3 (0,0)),(2130,mO)],4092,.bool true,[],4232⟩
theorem rS:QF js (js.run YP QV bg 100000)=true:=by decide+kernel
def bf:Wl:=X1 [jF]
theorem ei(B:Lo):ZK YP B bf:=QO Q1 Qd (Q7 _ _) sq (XC _ _)
def jr:Memo:=
 ⟨93,#[Qp 199,.pointer (some ⟨2130,0,none⟩),.pointer (some ⟨2131,0,none⟩)],[(2104,Vi),(2131,.cells #[Qp 1] 3 (0,0)),(2130,mO)],4232,.bool true,[],4372⟩
theorem rR:QF jr (jr.run YP QV bf 100000)=true:=by decide+kernel
def bd:Wl:=X1 [jE]
theorem eh(B:Lo):ZK YP B bd:=QO Q1 Qd (Q7 _ _) so (XC _ _)
def jq:Memo:=
 ⟨93,#[Qp 191,.pointer (some ⟨2130,0,none⟩),.pointer (some ⟨2131,0,none⟩)],[(2104,Vi),(2131,.cells #[Qp 1] 3 (0,0)),(2130,mO)],4372,.bool false,[],4512⟩
theorem rQ:QF jq (jq.run YP QV bd 100000)=true:=by decide+kernel
def bc:Wl:=X1 [jD]
theorem eg(B:Lo):ZK YP B bc:=QO Q1 Qd (Q7 _ _) sn (XC _ _)
def jo:Memo:=
 ⟨93,#[Qp 195,.pointer (some ⟨2130,0,none⟩),.pointer (some ⟨2131,0,none⟩)],[(2104,Vi),(2131,.cells #[Qp 1] 3 (0,0)),(2130,mO)],4512,.bool false,[],4652⟩
theorem rP:QF jo (jo.run YP QV bc 100000)=true:=by decide+kernel
def ba:Wl:=X1 [jC]
theorem ef(B:Lo):ZK YP B ba:=QO Q1 Qd (Q7 _ _) sm (XC _ _)
def jn:Memo:=
 ⟨93,#[Qp 197,.pointer (some ⟨2130,0,none⟩),.pointer (some ⟨2131,0,none⟩)],[(2104,Vi),(2131,.cells #[Qp 1] 3 (0,0)),(2130,mO)],4652,.bool true,[],4792⟩
theorem rO:QF jn (jn.run YP QV ba 100000)=true:=by decide+kernel
def aZ:Wl:=X1 [jB]
theorem dZ(B:Lo):ZK YP B aZ:=QO Q1 Qd (Q7 _ _) sk (XC _ _)
def jl:Memo:=
 ⟨93,#[Qp 196,.pointer (some ⟨2130,0,none⟩),.pointer (some ⟨2131,0,none⟩)],[(2104,Vi),(2131,.cells #[Qp 1] 3 (0,0)),(2130,mO)],4792,.bool true,[],4932⟩
theorem rN:QF jl (jl.run YP QV aZ 100000)=true:=by decide+kernel
end
end Go.Proofs.Ytncjjangllkokaa

namespace Go.Proofs.Ytncjjangllkokaa
open Go Go.CE Go.RowKit
noncomputable def b5:Wl:=X1 [jA,j9,j8,j7,j6,j5,j4,j3,jz,jy,jx,jv,ju,jt,js,jr,jq,jo,jn,jl]
theorem eH(B:Lo):ZK YP B b5:=QI Q1 Qd (eG _) sj (QI Q1 Qd (eF _) si (QI Q1 Qd (eE _) sh (QI Q1 Qd (eD _) sg (QI Q1 Qd (eC _) sf (QI Q1 Qd (eB _) se (QI Q1 Qd (eA _) sd (QI Q1 Qd (e9 _) rZ (QI Q1 Qd (ez _) rY (QI Q1 Qd (ey _) rX (QI Q1 Qd (ew _) rW (QI Q1 Qd (eu _) rV (QI Q1 Qd (ep _) rU (QI Q1 Qd (eo _) rT (QI Q1 Qd (ej _) rS (QI Q1 Qd (ei _) rR (QI Q1 Qd (eh _) rQ (QI Q1 Qd (eg _) rP (QI Q1 Qd (ef _) rO (QI Q1 Qd (dZ _) rN (XC _ _))))))))))))))))))))
def kj:Memo:=
 ⟨43,#[.agg #[.slice (some ⟨2104,0,none⟩) 2 12,Qp 200,Qp 2],.slice (some ⟨2105,0,none⟩) 2 1,Qp 1],[(2105,.cells #[Qp 1,Qp 1] 3 (0,0)),(2104,Vi)],2106,.tuple #[Qp 195,Qp 0],[],4932⟩
theorem sQ:QF kj (kj.run YP QV b5 100000)=true:=by decide+kernel
end Go.Proofs.Ytncjjangllkokaa

namespace Go.Proofs.Ytncjjangllkokaa
open Go Go.CE Go.RowKit
noncomputable def BY:Wl:=X1 [vO,ou,ot,oo,kj]
theorem zk(B:Lo):ZK YP B BY:=QI Q1 Qd (Q7 _ _) zq (QI Q1 Qd (Q7 _ _) vP (QI Q1 Qd (iR _) vN (QI Q1 Qd (iQ _) vM (QI Q1 Qd (eH _) sQ (XC _ _)))))
theorem z1:xd (kR YP QV BY 100000 16 #[] (Jr 0 []) ([]:List (Array Value×TypeId)).length) (.bool true) []=true:=by decide+kernel
theorem vY(w:World):Calls YP 16 #[] w fun e w'=>e=.returned (.bool true)/\Below w.heap.size w w':=by
 have hc:=zA Q1 Qd (at':=[]) (args':=#[]) z1 (w:=w) (I:=fun _=>True) (hI:=fun _ _ _ _=>trivial) (zk _) trivial rfl (fun i x a h=>by simp at h) ⟨rfl,fun i v v' h=>by simp at h⟩;intro cs;obtain⟨e,w',fr,⟨v',n',H',μ',he,hp,hv,hb,hun,PU⟩,h1,h2,h3⟩:=hc cs;exact⟨e,w',fr,⟨by rw[he,Pr rfl hv],PU⟩,h1,h2,h3⟩
theorem known:Qx YP J0 16 #[] (.bool true):=fun fm w args' _ _ ha=>by
 have e:args'=#[]:=by exact LD ha.1.symm
 subst e;exact(vY w).mono fun _ _ h=>⟨_,h.1,h.2,.simple rfl⟩
end Go.Proofs.Ytncjjangllkokaa

namespace Go.Proofs.Ytncjjangllkokaa
open Go Go.CE Go.RowKit
set_option maxRecDepth 100000
end Go.Proofs.Ytncjjangllkokaa

namespace Go.Proofs.Ytncjjangllkokaa
open Go Go.CE Go.RowKit
def nf:Sh:=HK [.int,.int]
def wO:Sh:=HK [.int,.int,nf,.int,.int,nf,nf,.int,.int]
def fW:Sh:=HK [.slice wO,.int,.int]
theorem kO{cs:List Value}(h:nf.ok cs):∃s:Span,cs=Xf s:=by
 obtain⟨_,_,rfl,⟨a,_,rfl⟩,_,_,rfl,⟨b,_,rfl⟩,rfl⟩:=h;exact⟨⟨a,b⟩,rfl⟩
theorem z9{cs:List Value}(h:wO.ok cs):∃s:Qe,cs=Qf s:=by
 obtain⟨_,_,rfl,⟨a,_,rfl⟩,_,_,rfl,⟨b,_,rfl⟩,_,_,rfl,h3,_,_,rfl,⟨d,_,rfl⟩,_,_,rfl,⟨e,_,rfl⟩,_,_,rfl,h6,_,_,rfl,h7,_,_,rfl,⟨g,_,rfl⟩,_,_,rfl,⟨w,_,rfl⟩,rfl⟩:=h;obtain⟨x,rfl⟩:=kO h3;obtain⟨y,rfl⟩:=kO h6;obtain⟨z,rfl⟩:=kO h7;exact⟨⟨a,b,x.lo,x.hi,d,e,y.lo,y.hi,z.lo,z.hi,g,w⟩,rfl⟩
theorem Dt{v:Value}(h:fW.arg v):∃r:Qc,v=.agg (Qv r).toArray:=by
 obtain⟨cs,rfl,h⟩:=h;obtain⟨_,_,rfl,h1,_,_,rfl,⟨m,_,rfl⟩,_,_,rfl,⟨n,_,rfl⟩,rfl⟩:=h;obtain⟨xs,rfl⟩:=pP (fun _=>z9) h1;exact⟨⟨xs,m,n⟩,rfl⟩
theorem Dc{cs:List Value}(h:Sh.ok (.slice .int) cs):∃xs:List Int,cs=HJ xs:=pP (fun _=>FE) h
theorem Du{v:Value}(h:Sh.arg (.slice .int) v):∃xs:List Int,v=XA xs:=by
 obtain⟨xs,hx⟩:=Dc (show Sh.ok (.slice .int) [v]from h);exact⟨xs,by simpa using hx⟩
end Go.Proofs.Ytncjjangllkokaa

namespace Go.Proofs.Ytncjjangllkokaa
open Go Go.CE Go.RowKit
set_option maxRecDepth 100000
def Td(rf:Qc)(n s:Int):Int:=((WM ((Zx n ((rf.Qa.length:Int)*(rf.Qb-1-s)):Nat):Int) (((Xx rf.Qa.length:Nat):Int)-1):Nat):Int)
def QA(rf:Qc)(n:Int):List Int:=T3 rf.Qb fun s=>Td rf n s
theorem Cc{rf:Qc}{n:Int}(k:Nat):(QA rf n).getD k 0=if(k:Int)<rf.Qb then Td rf n k else 0:=by
 by_cases h:(k:Int)<rf.Qb
 ·rw[if_pos h];exact U0 (k:=(k:Int)) (by omega) h
 ·rw[if_neg h,Li,Lw (by rw[QA,ZB];omega)];rfl
theorem zZ{rf:Qc}{s:Int}(hp:rf.Qa.length<=4)(hs:rf.Qb<=4)(s0:0<=s)(s1:s<rf.Qb):0<=(rf.Qa.length:Int)*(rf.Qb-1-s)/\(rf.Qa.length:Int)*(rf.Qb-1-s)<=12:=by
 refine⟨LG (by omega) (by omega), ?_⟩;have:=LH (show(rf.Qa.length:Int)<=4 by omega) (show rf.Qb-1-s<=3 by omega) (by omega) (by omega);omega
theorem gM{n:Int}:1<=Xx n:=Nat.one_le_two_pow
theorem wY{rf:Qc}{n s:Int}:0<=Td rf n s/\Td rf n s<=((Xx rf.Qa.length:Nat):Int)-1:=by
 have h:=gM (n:=rf.Qa.length);have h2:Td rf n s=(((Zx n ((rf.Qa.length:Int)*(rf.Qb-1-s))) &&& (Xx rf.Qa.length-1):Nat):Int):=by
  unfold Td WM;rw[LK,show(((Xx rf.Qa.length:Nat):Int)-1).toNat=Xx rf.Qa.length-1 by omega]
 have h3:(Zx n ((rf.Qa.length:Int)*(rf.Qb-1-s))) &&& (Xx rf.Qa.length-1)<=Xx rf.Qa.length-1:=Nat.and_le_right;omega
theorem Xp{rf:Qc}{n:Int}(h:0<=rf.Qb):QP rf (QA rf n)=true:=by
 simp only[QP,YB,decide_eq_true_iff,List.all_eq_true,Jb];refine⟨by rw[QA,ZB];omega,fun x hx=> ?_⟩;obtain⟨k,-,rfl⟩:=List.mem_map.1 hx;exact wY
theorem bL{rf:Qc}{n i x:Int}{k:Nat}(h0:0<=i)(e:x=if(k:Int)<i then Td rf n k else 0):(if i.toNat=k then Td rf n i else x)=if(k:Int)<i+1 then Td rf n k else 0:=by
 by_cases h:i.toNat=k
 ·have hi:i=(k:Int):=by omega
  subst hi;rw[if_pos h,if_pos (by omega)]
 ·rw[if_neg h,e];by_cases h2:(k:Int)<i
  ·rw[if_pos h2,if_pos (by omega)]
  ·rw[if_neg h2,if_neg (by omega)]
theorem fh{rf:Qc}{n i x:Int}{k:Nat}(h:i=rf.Qb)(e:x=if(k:Int)<i then Td rf n k else 0):x=(QA rf n).getD k 0:=by
 rw[Cc,<-h];exact e
def UP(rf:Qc)(n:Int)(a b c d i:Int):List Value:=[.int .i64 n,pA 2 0,pA 3 0,.int .i64 (↑rf.Qa.length:Int),.int .i64 rf.Qb,.int .i64 i]
def WC(rf:Qc)(n:Int)(a b c d i:Int):List Obj:=[Obj.cells #[.slice none 0 0,.int .i64 0,.int .i64 0,.int .i64 0,.int .i64 0,.int .i64 0,.int .i64 0] 84,.cells #[Qn 1 (Vb rf.Qa),.int .i64 rf.Qi,.int .i64 rf.Qb,.int .i64 a,.int .i64 b,.int .i64 c,.int .i64 d] 84 (0,0)]
noncomputable def UQ:List Item:=([.code [1,1,1,0,1,0,0],.inLoop [1,1,1,0,1,0,0],.inBlock 0,.code [1,1,1,1]]).map (it (Q9 YP 90))
def n8(B:Lo)(c0:CF)(rf:Qc)(n:Int)(a b c d i:Int):Prop:=∃dJ:Nat->Value,(∀t,X0 (dJ t))/\GoE YP B c0 Za 1 (Xl 90 39 (([1,4,5,6,16,17]:List Nat).zip (UP rf n a b c d i)) dJ UQ) (Xj (WC rf n a b c d i)) (2+(WC rf n a b c d i).length) []
noncomputable def n3(rf:Qc):Value:=(QJ rf.Qa.length (Qm Qf rf.Qa))
theorem n6(B:Lo)(rf:Qc)(n:Int)(a b c d i:Int)(Qt:Nat->Value):let s:=rf.Qi;let p:=n3 rf;let o:=rf.Qb;let k:=rf.Qb-1-i;let j:=Lf rf.Qa;let g:=Xx (↑j:Int);let t:=.int .i64 (↑g:Int);let m:=(↑g:Int)-1;let q:=Tri.set 14 Tri.lf 33 (.int .i64 m);let f:=(↑j:Int)*k;let r:=Tri.set 14 Tri.lf 29 (.int .i64 f);let h:=.int .i64 (↑(Zx n f):Int);let e:=WM (↑(Zx n f):Int) m;let l:=.int .i64 (↑e:Int);landM (Qs YP (Q0 YP) J0 B 13 1 (Xl 90 39 (([1,4,5,6,16,17]:List Nat).zip (UP rf n a b c d i)) Qt UQ) (Xj (WC rf n a b c d i)) (2+(WC rf n a b c d i).length)
 [(0,VT),(9,VU (rf.Qb-1)),(11,VU k),(12,VU f),(13,Ql.bin h),(15,Ql.bin t),(16,VU m),(17,Ql.bin l),(19,Ql.WJ (Hint.idx i.toNat)),(20,Ql.WJ (Hint.st #[Qn 1 p,.int .i64 s,.int .i64 o,.int .i64 (if Lb i=0 then(↑e:Int)else a),.int .i64 (if Lb i=1 then(↑e:Int)else b),.int .i64 (if Lb i=2 then(↑e:Int)else c),.int .i64 (if Lb i=3 then(↑e:Int)else d)])),(21,VU (i+1))] 0 [] []) [1,4,5,6,16,17] [(2,KS.auto),(3,KS.auto)] []=some ⟨90,39,UQ,[],.run,none,UP rf n (if Lb i=0 then(↑e:Int)else a) (if Lb i=1 then(↑e:Int)else b) (if Lb i=2 then(↑e:Int)else c) (if Lb i=3 then(↑e:Int)else d) (i+1),WC rf n (if Lb i=0 then(↑e:Int)else a) (if Lb i=1 then(↑e:Int)else b) (if Lb i=2 then(↑e:Int)else c) (if Lb i=3 then(↑e:Int)else d) (i+1),
 [wq (i+1)=i+1,3+Lb i*1+TypeInfo.size Try.t3<=Array.size #[Qn 1 p,.int .i64 s,.int .i64 o,.int .i64 a,.int .i64 b,.int .i64 c,.int .i64 d]/\splice #[Qn 1 p,.int .i64 s,.int .i64 o,.int .i64 a,.int .i64 b,.int .i64 c,.int .i64 d] (3+Lb i*1) (Value.cells (Xm {len:=16000,tr:=Tri.set 14 (Tri.set 14 Tri.lf 34 l) 36 (.pointer (some {block:=3,off:=3+Lb i*1}))} 34))=#[Qn 1 p,.int .i64 s,.int .i64 o,.int .i64 (if Lb i=0 then(↑e:Int)else a),.int .i64 (if Lb i=1 then(↑e:Int)else b),.int .i64 (if Lb i=2 then(↑e:Int)else c),.int .i64 (if Lb i=3 then(↑e:Int)else d)],i=(↑i.toNat:Int)/\Lb i<4,Kd YP BinOp.and 3 (Xm {len:=16000,tr:=Tri.set 14 q 30 h} 30) (Xm {len:=16000,tr:=Tri.set 14 q 30 h} 33) l,wq m=(↑g:Int)-1,Kd YP BinOp.shl 3 (.int .i64 1) (Xm {len:=16000,tr:=Tri.set 14 Tri.lf 31 (.int .i64 (↑j:Int))} 31) t,Kd YP BinOp.shr 3 (Xm {len:=16000,tr:=Tri.set 14 r 21 (.int .i64 n)} 21) (Xm {len:=16000,tr:=Tri.set 14 r 21 (.int .i64 n)} 29) h,wq f=(↑j:Int)*k,wq k=rf.Qb-1-i,wq (rf.Qb-1)=rf.Qb-1,Zm i o=true]⟩:=by intro s p o k j g t m q f r h e l;kernel_rfl
theorem n5(B:Lo)(rf:Qc)(n:Int)(a b c d i:Int)(Qt:Nat->Value):let e:=WC rf n a b c d i;QW (Qs YP (Q0 YP) J0 B 9 1 (Xl 90 39 (([1,4,5,6,16,17]:List Nat).zip (UP rf n a b c d i)) Qt UQ) (Xj e) (2+e.length)
 [(0,VI)] 0 [] []) []=some (.agg #[QJ rf.Qa.length (Qm Qf rf.Qa),.int .i64 rf.Qi,.int .i64 rf.Qb,.int .i64 a,.int .i64 b,.int .i64 c,.int .i64 d],
 [Zm i rf.Qb=false]):=by intro e;kernel_rfl
theorem n4(B:Lo)(rf:Qc)(n:Int):landM (Qs YP (Q0 YP) J0 B 11 1 (Qr YP 90 39 (([.agg (Qv rf).toArray,.int .i64 n]).map (Qy 0 4))) Za 1
 [] 0 [] []) [1,4,5,6,16,17] [(2,KS.auto),(3,KS.auto)] []=some ⟨90,39,UQ,[],.run,none,UP rf n (0) (0) (0) (0) (0),WC rf n (0) (0) (0) (0) (0),
 []⟩:=by kernel_rfl
set_option maxHeartbeats 4000000 in
theorem n7(rf:Qc)(n:Int)(hn:1<=rf.Qa.length/\rf.Qa.length<=4)(hs:1<=rf.Qb/\rf.Qb<=4)(h0:0<=n)(h1:n<=65536){B:Lo}(hJ:∀w,B.has w->J0 w){c0:CF}:∀m:Nat,(∀(a b c d i:Int),(rf.Qb-i).toNat=m->∀(i0:0<=i) (i1:i<=rf.Qb) (ea:a=if 0<i then Td rf n 0 else 0) (eb:b=if 1<i then Td rf n 1 else 0) (ec:c=if 2<i then Td rf n 2 else 0) (ed:d=if 3<i then Td rf n 3 else 0),n8 B c0 rf n a b c d i->EndsT YP B c0 (.agg (QB rf (QA rf n)).toArray)):=by
 intro m0;induction m0 using LA with
 |_ m0 ih0=>
  intro a b c d i hm0 i0 i1 ea eb ec ed ⟨Qt,KF,XW⟩;have hpw:=Kv (n:=rf.Qa.length) (by omega);have hpw:=Kv (n:=rf.Qa.length) (by omega);have hpo:=gM (n:=rf.Qa.length);have hnd:0<=((WM ((Zx n ((rf.Qa.length:Int)*(rf.Qb-1-i)):Nat):Int) (((Xx rf.Qa.length:Nat):Int)-1):Nat):Int)/\((WM ((Zx n ((rf.Qa.length:Int)*(rf.Qb-1-i)):Nat):Int) (((Xx rf.Qa.length:Nat):Int)-1):Nat):Int)<=((Xx rf.Qa.length:Nat):Int)-1:=wY;by_cases q0:(i:Int)<rf.Qb
  ·have KR:=zZ hn.2 hs.2 i0 q0;have hsr:=T4 (n:=n) (k:=(rf.Qa.length:Int)*(rf.Qb-1-i)) h0;exact((ih0 _ (by omega)) (if Lb i=0 then(↑(WM (↑(Zx n ((↑rf.Qa.length:Int)*(rf.Qb-1-i))):Int) ((↑(Xx (↑rf.Qa.length:Int)):Int)-1)):Int)else a) (if Lb i=1 then(↑(WM (↑(Zx n ((↑rf.Qa.length:Int)*(rf.Qb-1-i))):Int) ((↑(Xx (↑rf.Qa.length:Int)):Int)-1)):Int)else b) (if Lb i=2 then(↑(WM (↑(Zx n ((↑rf.Qa.length:Int)*(rf.Qb-1-i))):Int) ((↑(Xx (↑rf.Qa.length:Int)):Int)-1)):Int)else c) (if Lb i=3 then(↑(WM (↑(Zx n ((↑rf.Qa.length:Int)*(rf.Qb-1-i))):Int) ((↑(Xx (↑rf.Qa.length:Int)):Int)-1)):Int)else d) (i+1) rfl (by omega) (by omega) (by exact bL (k:=0) i0 ea) (by exact bL (k:=1) i0 eb) (by exact bL (k:=2) i0 ec) (by exact bL (k:=3) i0 ed)
    (XW.landM okF hJ Qd (n6 B rf n a b c d i Qt)
    ⟨(Xq (by omega) (by omega)),⟨(cO rfl (fs:=[a,b,c,d]) rfl (LI (m:=4) (by omega) rfl) rfl),⟨⟨by omega,by omega⟩,⟨(SZ (by omega) (by omega) (by omega) (by omega)),⟨(Xq (by omega) (by omega)),⟨(kZ (by omega) (by omega)),⟨(SY (by omega) (by omega) (by omega)),⟨(Xq (by omega) (by omega)),⟨(Xq (by omega) (by omega)),⟨(Xq (by omega) (by omega)),⟨(XY q0),trivial⟩⟩⟩⟩⟩⟩⟩⟩⟩⟩⟩ (by kernel_rfl) (by kernel_rfl))).cast (by rfl)
  ·have hsr:=T4 (n:=n) (k:=(rf.Qa.length:Int)*(rf.Qb-1-i)) h0;exact(GoE.endsT okF hJ Qd XW (n5 B rf n a b c d i Qt)
    ⟨(XZ (Int.not_lt.1 q0)),trivial⟩).cast (by(have hi:=(show i=rf.Qb by omega);rw[fh (k:=0) hi ea,fh (k:=1) hi eb,fh (k:=2) hi ec,fh (k:=3) hi ed];rfl))
set_option maxHeartbeats 4000000 in
theorem qD(rf:Qc)(n:Int)(hn:1<=rf.Qa.length/\rf.Qa.length<=4)(hs:1<=rf.Qb/\rf.Qb<=4)(h0:0<=n)(h1:n<=65536){B:Lo}(hJ:∀w,B.has w->J0 w):EndsT YP B (Qr YP 90 39 (([.agg (Qv rf).toArray,.int .i64 n]).map (Qy 0 4))) (.agg (QB rf (QA rf n)).toArray):=by
 have hpw:=Kv (n:=rf.Qa.length) (by omega);exact((n7 rf n hn hs h0 h1 hJ _) (0) (0) (0) (0) (0) rfl (by omega) (by omega) (by omega) (by omega) (by omega) (by omega)
  (GoE.start.landM okF hJ Qd (n4 B rf n)
  trivial (by kernel_rfl) (by kernel_rfl))).cast (by rfl)
theorem cg(rf:Qc)(n:Int)(hn:1<=rf.Qa.length/\rf.Qa.length<=4)(hs:1<=rf.Qb/\rf.Qb<=4)(h0:0<=n)(h1:n<=65536):Qx YP J0 90 #[.agg (Qv rf).toArray,.int .i64 n] (.agg (QB rf (QA rf n)).toArray):=
 Xn (ts:=[.agg (Qv rf).toArray,.int .i64 n]) XQ (c0:=Qr YP 90 39 (([.agg (Qv rf).toArray,.int .i64 n]).map (Qy 0 4))) (by kernel_rfl) (by kernel_rfl) fun B hJ=>qD rf n hn hs h0 h1 hJ
end Go.Proofs.Ytncjjangllkokaa

