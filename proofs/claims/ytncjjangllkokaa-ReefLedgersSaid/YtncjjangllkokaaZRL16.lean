/- layer 03: calls within known() -/
import Derived.Test.YtncjjangllkokaaZRL15
import Derived.Test.YtncjjangllkokaaZRL10
set_option linter.all false
namespace Go.Proofs.Ytncjjangllkokaa
open Go Go.CE Go.RowKit
noncomputable def Qlr:Orc:=Qbp [QtE,Qtj,QsC,QuB,QsZ,Qui,QtS,Qup,Qsw,Qsn,Qoo,QoT,Qor,Qo8,QmE,QnS,Qpu,Qpw,QnG,QoK,Qoz,Qo0,QoV,Qn7,Qpc,QnM,Qnq,QmU,Qo9,Qow,QoX,Qpq,QoR,Qp7]
theorem QlS (B:Lo):QdD YP B Qlr:=Qam Qaj Qac (Qak _ _) Qwz (Qam Qaj Qac (Qak _ _) Qxg (QaJ Qaj Qac (Qak _ _) Qxr (Qam Qaj Qac (Qak _ _) QwN (Qam Qaj Qac (Qak _ _) Qxe (QaJ Qaj Qac (Qak _ _) Qw9 (Qam Qaj Qac (Qak _ _) QxE (QaJ Qaj Qac (Qak _ _) Qxj (Qam Qaj Qac (Qak _ _) Qxo (QaJ Qaj Qac (Qak _ _) Qyc (Qam Qaj Qac (Qak _ _) Qts (QaJ Qaj Qac (Qak _ _) Qu2 (Qam Qaj Qac (Qak _ _) QtV (Qam Qaj Qac (Qak _ _) QtP (QaJ Qaj Qac (Qak _ _) Qsf (Qam Qaj Qac (Qak _ _) QuD (QaJ Qaj Qac (Qak _ _) Qtp (Qam Qaj Qac (Qak _ _) Qt3 (QaJ Qaj Qac (Qak _ _) QtH (Qam Qaj Qac (Qak _ _) QtJ (QaJ Qaj Qac (Qak _ _) Qt5 (Qam Qaj Qac (Qak _ _) Qs3 (Qam Qaj Qac (Qak _ _) QuY (QaJ Qaj Qac (Qak _ _) Qub (Qam Qaj Qac (Qak _ _) Qsm (QaJ Qaj Qac (Qak _ _) QuS (Qam Qaj Qac (Qak _ _) QtW (QaJ Qaj Qac (Qak _ _) Qs6 (Qam Qaj Qac (Qak _ _) QtK (QaJ Qaj Qac (Qak _ _) Qvj (Qam Qaj Qac (Qak _ _) Qvh (QaJ Qaj Qac (Qak _ _) QrM (Qam Qaj Qac (Qak _ _) Qta (QaJ Qaj Qac (Qak _ _) Qvc (Qbs _ _))))))))))))))))))))))))))))))))))
def QsT:Memo:=
 ⟨37,#[.agg #[.slice (some ⟨552,0,none⟩) 2 12,inN 200,inN 2]],[(552,.cells #[inN 1000,inN 2000,inN 200,inN 300,inN 100,inN 1,inN 200,inN 300,inN 0,inN 50,inN 900,inN 10,inN 500,inN 800,inN 100,inN 200,inN 0,inN (-1),inN 100,inN 200,inN 0,inN 20,inN 450,inN 6] 54 (0,0))],553,.tuple #[.slice (some ⟨2086,0,none⟩) 2 1,inN 26,inN 0],[(2086,.cells #[inN 1,inN 3] 3 (0,0))],2097⟩
theorem Qxf:Qaz QsT (QsT.run YP QaI Qlr 100000)=true:=by decide+kernel
end Go.Proofs.Ytncjjangllkokaa

namespace Go.Proofs.Ytncjjangllkokaa
open Go Go.CE Go.RowKit
def QoY:Memo:=
 ⟨98,#[.agg #[.slice (some ⟨2134,0,none⟩) 2 12,inN 200,inN 2,inN 1,inN 1,inN 0,inN 0],.agg #[inN 1000,inN 500,inN 0,inN 0],inN 0,.func (.func 76) #[] #[],.func (.func 77) #[] #[]],[(2134,.cells #[inN 1000,inN 2000,inN 200,inN 300,inN 100,inN 1,inN 200,inN 300,inN 0,inN 50,inN 900,inN 10,inN 500,inN 800,inN 100,inN 200,inN 0,inN (-1),inN 100,inN 200,inN 0,inN 20,inN 450,inN 6] 54 (0,0))],2181,.agg #[inN 1030,inN 470,inN 0,inN 0],[],2222⟩
theorem QsE:Qaz QoY (QoY.run YP QaI QaP 100000)=true:=by decide+kernel
def Qpe:Memo:=
 ⟨98,#[.agg #[.slice (some ⟨2134,0,none⟩) 2 12,inN 200,inN 2,inN 1,inN 1,inN 0,inN 0],.agg #[inN 1030,inN 470,inN 0,inN 0],inN 1,.func (.func 76) #[] #[],.func (.func 77) #[] #[]],[(2134,.cells #[inN 1000,inN 2000,inN 200,inN 300,inN 100,inN 1,inN 200,inN 300,inN 0,inN 50,inN 900,inN 10,inN 500,inN 800,inN 100,inN 200,inN 0,inN (-1),inN 100,inN 200,inN 0,inN 20,inN 450,inN 6] 54 (0,0))],2225,.agg #[inN 1063,inN 440,inN 0,inN 0],[],2266⟩
theorem QuP:Qaz Qpe (Qpe.run YP QaI QaP 100000)=true:=by decide+kernel
def Qnb:Memo:=
 ⟨88,#[.slice (some ⟨2134,0,none⟩) 2 12,.agg #[inN 1063,inN 440,inN 0,inN 0]],[(2134,.cells #[inN 1000,inN 2000,inN 200,inN 300,inN 100,inN 1,inN 200,inN 300,inN 0,inN 50,inN 900,inN 10,inN 500,inN 800,inN 100,inN 200,inN 0,inN (-1),inN 100,inN 200,inN 0,inN 20,inN 450,inN 6] 54 (0,0))],2266,.tuple #[.agg #[inN 1,inN 10],.bool true],[],2271⟩
theorem Qvb:Qaz Qnb (Qnb.drun YP QaI QaP 100000)=true:=by decide+kernel
def Qoa:Memo:=
 ⟨98,#[.agg #[.slice (some ⟨2274,0,none⟩) 2 12,inN 200,inN 2,inN 1,inN 1,inN 0,inN 0],.agg #[inN 1000,inN 500,inN 0,inN 0],inN 0,.func (.func 76) #[] #[],.func (.func 77) #[] #[]],[(2274,.cells #[inN 1000,inN 2000,inN 200,inN 300,inN 100,inN 1,inN 200,inN 300,inN 0,inN 50,inN 900,inN 10,inN 500,inN 800,inN 100,inN 200,inN 0,inN (-1),inN 100,inN 200,inN 0,inN 20,inN 450,inN 6] 54 (0,0))],2321,.agg #[inN 1030,inN 470,inN 0,inN 0],[],2362⟩
theorem Qtu:Qaz Qoa (Qoa.run YP QaI QaP 100000)=true:=by decide+kernel
def Qon:Memo:=
 ⟨98,#[.agg #[.slice (some ⟨2274,0,none⟩) 2 12,inN 200,inN 2,inN 1,inN 1,inN 0,inN 0],.agg #[inN 1030,inN 470,inN 0,inN 0],inN 1,.func (.func 76) #[] #[],.func (.func 77) #[] #[]],[(2274,.cells #[inN 1000,inN 2000,inN 200,inN 300,inN 100,inN 1,inN 200,inN 300,inN 0,inN 50,inN 900,inN 10,inN 500,inN 800,inN 100,inN 200,inN 0,inN (-1),inN 100,inN 200,inN 0,inN 20,inN 450,inN 6] 54 (0,0))],2365,.agg #[inN 1063,inN 440,inN 0,inN 0],[],2406⟩
theorem Qst:Qaz Qon (Qon.run YP QaI QaP 100000)=true:=by decide+kernel
def Qns:Memo:=
 ⟨88,#[.slice (some ⟨2274,0,none⟩) 2 12,.agg #[inN 1063,inN 440,inN 0,inN 0]],[(2274,.cells #[inN 1000,inN 2000,inN 200,inN 300,inN 100,inN 1,inN 200,inN 300,inN 0,inN 50,inN 900,inN 10,inN 500,inN 800,inN 100,inN 200,inN 0,inN (-1),inN 100,inN 200,inN 0,inN 20,inN 450,inN 6] 54 (0,0))],2406,.tuple #[.agg #[inN 1,inN 10],.bool true],[],2411⟩
theorem QrP:Qaz Qns (Qns.drun YP QaI QaP 100000)=true:=by decide+kernel
def QmP:Memo:=
 ⟨98,#[.agg #[.slice (some ⟨2414,0,none⟩) 2 12,inN 200,inN 2,inN 1,inN 1,inN 0,inN 0],.agg #[inN 1000,inN 500,inN 0,inN 0],inN 0,.func (.func 76) #[] #[],.func (.func 77) #[] #[]],[(2414,.cells #[inN 1000,inN 2000,inN 200,inN 300,inN 100,inN 1,inN 200,inN 300,inN 0,inN 50,inN 900,inN 10,inN 500,inN 800,inN 100,inN 200,inN 0,inN (-1),inN 100,inN 200,inN 0,inN 20,inN 450,inN 6] 54 (0,0))],2461,.agg #[inN 1030,inN 470,inN 0,inN 0],[],2502⟩
theorem Qtb:Qaz QmP (QmP.run YP QaI QaP 100000)=true:=by decide+kernel
def QmS:Memo:=
 ⟨98,#[.agg #[.slice (some ⟨2414,0,none⟩) 2 12,inN 200,inN 2,inN 1,inN 1,inN 0,inN 0],.agg #[inN 1030,inN 470,inN 0,inN 0],inN 1,.func (.func 76) #[] #[],.func (.func 77) #[] #[]],[(2414,.cells #[inN 1000,inN 2000,inN 200,inN 300,inN 100,inN 1,inN 200,inN 300,inN 0,inN 50,inN 900,inN 10,inN 500,inN 800,inN 100,inN 200,inN 0,inN (-1),inN 100,inN 200,inN 0,inN 20,inN 450,inN 6] 54 (0,0))],2505,.agg #[inN 1063,inN 440,inN 0,inN 0],[],2546⟩
theorem QtB:Qaz QmS (QmS.run YP QaI QaP 100000)=true:=by decide+kernel
def Qpv:Memo:=
 ⟨88,#[.slice (some ⟨2414,0,none⟩) 2 12,.agg #[inN 1063,inN 440,inN 0,inN 0]],[(2414,.cells #[inN 1000,inN 2000,inN 200,inN 300,inN 100,inN 1,inN 200,inN 300,inN 0,inN 50,inN 900,inN 10,inN 500,inN 800,inN 100,inN 200,inN 0,inN (-1),inN 100,inN 200,inN 0,inN 20,inN 450,inN 6] 54 (0,0))],2546,.tuple #[.agg #[inN 1,inN 10],.bool true],[],2551⟩
theorem Quh:Qaz Qpv (Qpv.drun YP QaI QaP 100000)=true:=by decide+kernel
def QmD:Memo:=
 ⟨98,#[.agg #[.slice (some ⟨2554,0,none⟩) 2 12,inN 200,inN 2,inN 1,inN 1,inN 0,inN 0],.agg #[inN 1000,inN 500,inN 0,inN 0],inN 0,.func (.func 76) #[] #[],.func (.func 77) #[] #[]],[(2554,.cells #[inN 1000,inN 2000,inN 200,inN 300,inN 100,inN 1,inN 200,inN 300,inN 0,inN 50,inN 900,inN 10,inN 500,inN 800,inN 100,inN 200,inN 0,inN (-1),inN 100,inN 200,inN 0,inN 20,inN 450,inN 6] 54 (0,0))],2601,.agg #[inN 1030,inN 470,inN 0,inN 0],[],2642⟩
theorem Qun:Qaz QmD (QmD.run YP QaI QaP 100000)=true:=by decide+kernel
def QoH:Memo:=
 ⟨98,#[.agg #[.slice (some ⟨2554,0,none⟩) 2 12,inN 200,inN 2,inN 1,inN 1,inN 0,inN 0],.agg #[inN 1030,inN 470,inN 0,inN 0],inN 1,.func (.func 76) #[] #[],.func (.func 77) #[] #[]],[(2554,.cells #[inN 1000,inN 2000,inN 200,inN 300,inN 100,inN 1,inN 200,inN 300,inN 0,inN 50,inN 900,inN 10,inN 500,inN 800,inN 100,inN 200,inN 0,inN (-1),inN 100,inN 200,inN 0,inN 20,inN 450,inN 6] 54 (0,0))],2645,.agg #[inN 1063,inN 440,inN 0,inN 0],[],2686⟩
theorem QsG:Qaz QoH (QoH.run YP QaI QaP 100000)=true:=by decide+kernel
def QnQ:Memo:=
 ⟨88,#[.slice (some ⟨2554,0,none⟩) 2 12,.agg #[inN 1063,inN 440,inN 0,inN 0]],[(2554,.cells #[inN 1000,inN 2000,inN 200,inN 300,inN 100,inN 1,inN 200,inN 300,inN 0,inN 50,inN 900,inN 10,inN 500,inN 800,inN 100,inN 200,inN 0,inN (-1),inN 100,inN 200,inN 0,inN 20,inN 450,inN 6] 54 (0,0))],2686,.tuple #[.agg #[inN 1,inN 10],.bool true],[],2691⟩
theorem Qvm:Qaz QnQ (QnQ.drun YP QaI QaP 100000)=true:=by decide+kernel
def Qp8:Memo:=
 ⟨98,#[.agg #[.slice (some ⟨2694,0,none⟩) 2 12,inN 200,inN 2,inN 1,inN 1,inN 0,inN 0],.agg #[inN 1000,inN 500,inN 0,inN 0],inN 0,.func (.func 76) #[] #[],.func (.func 77) #[] #[]],[(2694,.cells #[inN 1000,inN 2000,inN 200,inN 300,inN 100,inN 1,inN 200,inN 300,inN 0,inN 50,inN 900,inN 10,inN 500,inN 800,inN 100,inN 200,inN 0,inN (-1),inN 100,inN 200,inN 0,inN 20,inN 450,inN 6] 54 (0,0))],2741,.agg #[inN 1030,inN 470,inN 0,inN 0],[],2782⟩
theorem Qvo:Qaz Qp8 (Qp8.run YP QaI QaP 100000)=true:=by decide+kernel
def QmT:Memo:=
 ⟨98,#[.agg #[.slice (some ⟨2694,0,none⟩) 2 12,inN 200,inN 2,inN 1,inN 1,inN 0,inN 0],.agg #[inN 1030,inN 470,inN 0,inN 0],inN 1,.func (.func 76) #[] #[],.func (.func 77) #[] #[]],[(2694,.cells #[inN 1000,inN 2000,inN 200,inN 300,inN 100,inN 1,inN 200,inN 300,inN 0,inN 50,inN 900,inN 10,inN 500,inN 800,inN 100,inN 200,inN 0,inN (-1),inN 100,inN 200,inN 0,inN 20,inN 450,inN 6] 54 (0,0))],2785,.agg #[inN 1063,inN 440,inN 0,inN 0],[],2826⟩
theorem QtZ:Qaz QmT (QmT.run YP QaI QaP 100000)=true:=by decide+kernel
end Go.Proofs.Ytncjjangllkokaa

namespace Go.Proofs.Ytncjjangllkokaa
open Go Go.CE Go.RowKit
def QoB:Memo:=
 ⟨88,#[.slice (some ⟨2694,0,none⟩) 2 12,.agg #[inN 1063,inN 440,inN 0,inN 0]],[(2694,.cells #[inN 1000,inN 2000,inN 200,inN 300,inN 100,inN 1,inN 200,inN 300,inN 0,inN 50,inN 900,inN 10,inN 500,inN 800,inN 100,inN 200,inN 0,inN (-1),inN 100,inN 200,inN 0,inN 20,inN 450,inN 6] 54 (0,0))],2826,.tuple #[.agg #[inN 1,inN 10],.bool true],[],2831⟩
theorem Que:Qaz QoB (QoB.drun YP QaI QaP 100000)=true:=by decide+kernel
def QmN:Memo:=
 ⟨98,#[.agg #[.slice (some ⟨2834,0,none⟩) 2 12,inN 200,inN 2,inN 1,inN 1,inN 0,inN 0],.agg #[inN 1000,inN 500,inN 0,inN 0],inN 0,.func (.func 76) #[] #[],.func (.func 77) #[] #[]],[(2834,.cells #[inN 1000,inN 2000,inN 200,inN 300,inN 100,inN 1,inN 200,inN 300,inN 0,inN 50,inN 900,inN 10,inN 500,inN 800,inN 100,inN 200,inN 0,inN (-1),inN 100,inN 200,inN 0,inN 20,inN 450,inN 6] 54 (0,0))],2881,.agg #[inN 1030,inN 470,inN 0,inN 0],[],2922⟩
theorem Qsh:Qaz QmN (QmN.run YP QaI QaP 100000)=true:=by decide+kernel
def QnR:Memo:=
 ⟨98,#[.agg #[.slice (some ⟨2834,0,none⟩) 2 12,inN 200,inN 2,inN 1,inN 1,inN 0,inN 0],.agg #[inN 1030,inN 470,inN 0,inN 0],inN 1,.func (.func 76) #[] #[],.func (.func 77) #[] #[]],[(2834,.cells #[inN 1000,inN 2000,inN 200,inN 300,inN 100,inN 1,inN 200,inN 300,inN 0,inN 50,inN 900,inN 10,inN 500,inN 800,inN 100,inN 200,inN 0,inN (-1),inN 100,inN 200,inN 0,inN 20,inN 450,inN 6] 54 (0,0))],2925,.agg #[inN 1063,inN 440,inN 0,inN 0],[],2966⟩
theorem QtO:Qaz QnR (QnR.run YP QaI QaP 100000)=true:=by decide+kernel
def QmV:Memo:=
 ⟨88,#[.slice (some ⟨2834,0,none⟩) 2 12,.agg #[inN 1063,inN 440,inN 0,inN 0]],[(2834,.cells #[inN 1000,inN 2000,inN 200,inN 300,inN 100,inN 1,inN 200,inN 300,inN 0,inN 50,inN 900,inN 10,inN 500,inN 800,inN 100,inN 200,inN 0,inN (-1),inN 100,inN 200,inN 0,inN 20,inN 450,inN 6] 54 (0,0))],2966,.tuple #[.agg #[inN 1,inN 10],.bool true],[],2971⟩
theorem Qty:Qaz QmV (QmV.drun YP QaI QaP 100000)=true:=by decide+kernel
def Qo4:Memo:=
 ⟨98,#[.agg #[.slice (some ⟨2974,0,none⟩) 2 12,inN 200,inN 2,inN 1,inN 1,inN 0,inN 0],.agg #[inN 1000,inN 500,inN 0,inN 0],inN 0,.func (.func 76) #[] #[],.func (.func 77) #[] #[]],[(2974,.cells #[inN 1000,inN 2000,inN 200,inN 300,inN 100,inN 1,inN 200,inN 300,inN 0,inN 50,inN 900,inN 10,inN 500,inN 800,inN 100,inN 200,inN 0,inN (-1),inN 100,inN 200,inN 0,inN 20,inN 450,inN 6] 54 (0,0))],3021,.agg #[inN 1030,inN 470,inN 0,inN 0],[],3062⟩
theorem Qs5:Qaz Qo4 (Qo4.run YP QaI QaP 100000)=true:=by decide+kernel
def QoS:Memo:=
 ⟨98,#[.agg #[.slice (some ⟨2974,0,none⟩) 2 12,inN 200,inN 2,inN 1,inN 1,inN 0,inN 0],.agg #[inN 1030,inN 470,inN 0,inN 0],inN 1,.func (.func 76) #[] #[],.func (.func 77) #[] #[]],[(2974,.cells #[inN 1000,inN 2000,inN 200,inN 300,inN 100,inN 1,inN 200,inN 300,inN 0,inN 50,inN 900,inN 10,inN 500,inN 800,inN 100,inN 200,inN 0,inN (-1),inN 100,inN 200,inN 0,inN 20,inN 450,inN 6] 54 (0,0))],3065,.agg #[inN 1063,inN 440,inN 0,inN 0],[],3106⟩
theorem Qus:Qaz QoS (QoS.run YP QaI QaP 100000)=true:=by decide+kernel
def QnJ:Memo:=
 ⟨88,#[.slice (some ⟨2974,0,none⟩) 2 12,.agg #[inN 1063,inN 440,inN 0,inN 0]],[(2974,.cells #[inN 1000,inN 2000,inN 200,inN 300,inN 100,inN 1,inN 200,inN 300,inN 0,inN 50,inN 900,inN 10,inN 500,inN 800,inN 100,inN 200,inN 0,inN (-1),inN 100,inN 200,inN 0,inN 20,inN 450,inN 6] 54 (0,0))],3106,.tuple #[.agg #[inN 1,inN 10],.bool true],[],3111⟩
theorem Qti:Qaz QnJ (QnJ.drun YP QaI QaP 100000)=true:=by decide+kernel
def QmI:Memo:=
 ⟨98,#[.agg #[.slice (some ⟨3114,0,none⟩) 2 12,inN 200,inN 2,inN 1,inN 1,inN 0,inN 0],.agg #[inN 1000,inN 500,inN 0,inN 0],inN 0,.func (.func 76) #[] #[],.func (.func 77) #[] #[]],[(3114,.cells #[inN 1000,inN 2000,inN 200,inN 300,inN 100,inN 1,inN 200,inN 300,inN 0,inN 50,inN 900,inN 10,inN 500,inN 800,inN 100,inN 200,inN 0,inN (-1),inN 100,inN 200,inN 0,inN 20,inN 450,inN 6] 54 (0,0))],3161,.agg #[inN 1030,inN 470,inN 0,inN 0],[],3202⟩
theorem Qva:Qaz QmI (QmI.run YP QaI QaP 100000)=true:=by decide+kernel
def Qo2:Memo:=
 ⟨98,#[.agg #[.slice (some ⟨3114,0,none⟩) 2 12,inN 200,inN 2,inN 1,inN 1,inN 0,inN 0],.agg #[inN 1030,inN 470,inN 0,inN 0],inN 1,.func (.func 76) #[] #[],.func (.func 77) #[] #[]],[(3114,.cells #[inN 1000,inN 2000,inN 200,inN 300,inN 100,inN 1,inN 200,inN 300,inN 0,inN 50,inN 900,inN 10,inN 500,inN 800,inN 100,inN 200,inN 0,inN (-1),inN 100,inN 200,inN 0,inN 20,inN 450,inN 6] 54 (0,0))],3205,.agg #[inN 1063,inN 440,inN 0,inN 0],[],3246⟩
theorem Qum:Qaz Qo2 (Qo2.run YP QaI QaP 100000)=true:=by decide+kernel
def Qnv:Memo:=
 ⟨88,#[.slice (some ⟨3114,0,none⟩) 2 12,.agg #[inN 1063,inN 440,inN 0,inN 0]],[(3114,.cells #[inN 1000,inN 2000,inN 200,inN 300,inN 100,inN 1,inN 200,inN 300,inN 0,inN 50,inN 900,inN 10,inN 500,inN 800,inN 100,inN 200,inN 0,inN (-1),inN 100,inN 200,inN 0,inN 20,inN 450,inN 6] 54 (0,0))],3246,.tuple #[.agg #[inN 1,inN 10],.bool true],[],3251⟩
theorem QuM:Qaz Qnv (Qnv.drun YP QaI QaP 100000)=true:=by decide+kernel
def Qol:Memo:=
 ⟨98,#[.agg #[.slice (some ⟨3254,0,none⟩) 2 12,inN 200,inN 2,inN 1,inN 1,inN 0,inN 0],.agg #[inN 1000,inN 500,inN 0,inN 0],inN 0,.func (.func 76) #[] #[],.func (.func 77) #[] #[]],[(3254,.cells #[inN 1000,inN 2000,inN 200,inN 300,inN 100,inN 1,inN 200,inN 300,inN 0,inN 50,inN 900,inN 10,inN 500,inN 800,inN 100,inN 200,inN 0,inN (-1),inN 100,inN 200,inN 0,inN 20,inN 450,inN 6] 54 (0,0))],3301,.agg #[inN 1030,inN 470,inN 0,inN 0],[],3342⟩
theorem Qut:Qaz Qol (Qol.run YP QaI QaP 100000)=true:=by decide+kernel
def QoG:Memo:=
 ⟨98,#[.agg #[.slice (some ⟨3254,0,none⟩) 2 12,inN 200,inN 2,inN 1,inN 1,inN 0,inN 0],.agg #[inN 1030,inN 470,inN 0,inN 0],inN 1,.func (.func 76) #[] #[],.func (.func 77) #[] #[]],[(3254,.cells #[inN 1000,inN 2000,inN 200,inN 300,inN 100,inN 1,inN 200,inN 300,inN 0,inN 50,inN 900,inN 10,inN 500,inN 800,inN 100,inN 200,inN 0,inN (-1),inN 100,inN 200,inN 0,inN 20,inN 450,inN 6] 54 (0,0))],3345,.agg #[inN 1063,inN 440,inN 0,inN 0],[],3386⟩
theorem QuJ:Qaz QoG (QoG.run YP QaI QaP 100000)=true:=by decide+kernel
def Qnt:Memo:=
 ⟨88,#[.slice (some ⟨3254,0,none⟩) 2 12,.agg #[inN 1063,inN 440,inN 0,inN 0]],[(3254,.cells #[inN 1000,inN 2000,inN 200,inN 300,inN 100,inN 1,inN 200,inN 300,inN 0,inN 50,inN 900,inN 10,inN 500,inN 800,inN 100,inN 200,inN 0,inN (-1),inN 100,inN 200,inN 0,inN 20,inN 450,inN 6] 54 (0,0))],3386,.tuple #[.agg #[inN 1,inN 10],.bool true],[],3391⟩
theorem Qsi:Qaz Qnt (Qnt.drun YP QaI QaP 100000)=true:=by decide+kernel
def QmW:Memo:=
 ⟨98,#[.agg #[.slice (some ⟨3394,0,none⟩) 2 12,inN 200,inN 2,inN 1,inN 1,inN 0,inN 0],.agg #[inN 1000,inN 500,inN 0,inN 0],inN 0,.func (.func 76) #[] #[],.func (.func 77) #[] #[]],[(3394,.cells #[inN 1000,inN 2000,inN 200,inN 300,inN 100,inN 1,inN 200,inN 300,inN 0,inN 50,inN 900,inN 10,inN 500,inN 800,inN 100,inN 200,inN 0,inN (-1),inN 100,inN 200,inN 0,inN 20,inN 450,inN 6] 54 (0,0))],3441,.agg #[inN 1030,inN 470,inN 0,inN 0],[],3482⟩
theorem QsI:Qaz QmW (QmW.run YP QaI QaP 100000)=true:=by decide+kernel
end Go.Proofs.Ytncjjangllkokaa

namespace Go.Proofs.Ytncjjangllkokaa
open Go Go.CE Go.RowKit
def Qpz:Memo:=
 ⟨98,#[.agg #[.slice (some ⟨3394,0,none⟩) 2 12,inN 200,inN 2,inN 1,inN 1,inN 0,inN 0],.agg #[inN 1030,inN 470,inN 0,inN 0],inN 1,.func (.func 76) #[] #[],.func (.func 77) #[] #[]],[(3394,.cells #[inN 1000,inN 2000,inN 200,inN 300,inN 100,inN 1,inN 200,inN 300,inN 0,inN 50,inN 900,inN 10,inN 500,inN 800,inN 100,inN 200,inN 0,inN (-1),inN 100,inN 200,inN 0,inN 20,inN 450,inN 6] 54 (0,0))],3485,.agg #[inN 1063,inN 440,inN 0,inN 0],[],3526⟩
theorem QrO:Qaz Qpz (Qpz.run YP QaI QaP 100000)=true:=by decide+kernel
def Qos:Memo:=
 ⟨88,#[.slice (some ⟨3394,0,none⟩) 2 12,.agg #[inN 1063,inN 440,inN 0,inN 0]],[(3394,.cells #[inN 1000,inN 2000,inN 200,inN 300,inN 100,inN 1,inN 200,inN 300,inN 0,inN 50,inN 900,inN 10,inN 500,inN 800,inN 100,inN 200,inN 0,inN (-1),inN 100,inN 200,inN 0,inN 20,inN 450,inN 6] 54 (0,0))],3526,.tuple #[.agg #[inN 1,inN 10],.bool true],[],3531⟩
theorem QsK:Qaz Qos (Qos.drun YP QaI QaP 100000)=true:=by decide+kernel
def Qnl:Memo:=
 ⟨98,#[.agg #[.slice (some ⟨3534,0,none⟩) 2 12,inN 200,inN 2,inN 1,inN 1,inN 0,inN 0],.agg #[inN 1000,inN 500,inN 0,inN 0],inN 0,.func (.func 76) #[] #[],.func (.func 77) #[] #[]],[(3534,.cells #[inN 1000,inN 2000,inN 200,inN 300,inN 100,inN 1,inN 200,inN 300,inN 0,inN 50,inN 900,inN 10,inN 500,inN 800,inN 100,inN 200,inN 0,inN (-1),inN 100,inN 200,inN 0,inN 20,inN 450,inN 6] 54 (0,0))],3581,.agg #[inN 1030,inN 470,inN 0,inN 0],[],3622⟩
theorem Qud:Qaz Qnl (Qnl.run YP QaI QaP 100000)=true:=by decide+kernel
def QnT:Memo:=
 ⟨98,#[.agg #[.slice (some ⟨3534,0,none⟩) 2 12,inN 200,inN 2,inN 1,inN 1,inN 0,inN 0],.agg #[inN 1030,inN 470,inN 0,inN 0],inN 1,.func (.func 76) #[] #[],.func (.func 77) #[] #[]],[(3534,.cells #[inN 1000,inN 2000,inN 200,inN 300,inN 100,inN 1,inN 200,inN 300,inN 0,inN 50,inN 900,inN 10,inN 500,inN 800,inN 100,inN 200,inN 0,inN (-1),inN 100,inN 200,inN 0,inN 20,inN 450,inN 6] 54 (0,0))],3625,.agg #[inN 1063,inN 440,inN 0,inN 0],[],3666⟩
theorem Qur:Qaz QnT (QnT.run YP QaI QaP 100000)=true:=by decide+kernel
def QoE:Memo:=
 ⟨88,#[.slice (some ⟨3534,0,none⟩) 2 12,.agg #[inN 1063,inN 440,inN 0,inN 0]],[(3534,.cells #[inN 1000,inN 2000,inN 200,inN 300,inN 100,inN 1,inN 200,inN 300,inN 0,inN 50,inN 900,inN 10,inN 500,inN 800,inN 100,inN 200,inN 0,inN (-1),inN 100,inN 200,inN 0,inN 20,inN 450,inN 6] 54 (0,0))],3666,.tuple #[.agg #[inN 1,inN 10],.bool true],[],3671⟩
theorem QrY:Qaz QoE (QoE.drun YP QaI QaP 100000)=true:=by decide+kernel
def Qph:Memo:=
 ⟨98,#[.agg #[.slice (some ⟨3674,0,none⟩) 2 12,inN 200,inN 2,inN 1,inN 1,inN 0,inN 0],.agg #[inN 1000,inN 500,inN 0,inN 0],inN 0,.func (.func 76) #[] #[],.func (.func 77) #[] #[]],[(3674,.cells #[inN 1000,inN 2000,inN 200,inN 300,inN 100,inN 1,inN 200,inN 300,inN 0,inN 50,inN 900,inN 10,inN 500,inN 800,inN 100,inN 200,inN 0,inN (-1),inN 100,inN 200,inN 0,inN 20,inN 450,inN 6] 54 (0,0))],3721,.agg #[inN 1030,inN 470,inN 0,inN 0],[],3762⟩
theorem Qvk:Qaz Qph (Qph.run YP QaI QaP 100000)=true:=by decide+kernel
def Qnx:Memo:=
 ⟨98,#[.agg #[.slice (some ⟨3674,0,none⟩) 2 12,inN 200,inN 2,inN 1,inN 1,inN 0,inN 0],.agg #[inN 1030,inN 470,inN 0,inN 0],inN 1,.func (.func 76) #[] #[],.func (.func 77) #[] #[]],[(3674,.cells #[inN 1000,inN 2000,inN 200,inN 300,inN 100,inN 1,inN 200,inN 300,inN 0,inN 50,inN 900,inN 10,inN 500,inN 800,inN 100,inN 200,inN 0,inN (-1),inN 100,inN 200,inN 0,inN 20,inN 450,inN 6] 54 (0,0))],3765,.agg #[inN 1063,inN 440,inN 0,inN 0],[],3806⟩
theorem QsY:Qaz Qnx (Qnx.run YP QaI QaP 100000)=true:=by decide+kernel
def QnU:Memo:=
 ⟨88,#[.slice (some ⟨3674,0,none⟩) 2 12,.agg #[inN 1063,inN 440,inN 0,inN 0]],[(3674,.cells #[inN 1000,inN 2000,inN 200,inN 300,inN 100,inN 1,inN 200,inN 300,inN 0,inN 50,inN 900,inN 10,inN 500,inN 800,inN 100,inN 200,inN 0,inN (-1),inN 100,inN 200,inN 0,inN 20,inN 450,inN 6] 54 (0,0))],3806,.tuple #[.agg #[inN 1,inN 10],.bool true],[],3811⟩
theorem QrS:Qaz QnU (QnU.drun YP QaI QaP 100000)=true:=by decide+kernel
def Qny:Memo:=
 ⟨98,#[.agg #[.slice (some ⟨3814,0,none⟩) 2 12,inN 200,inN 2,inN 1,inN 1,inN 0,inN 0],.agg #[inN 1000,inN 500,inN 0,inN 0],inN 0,.func (.func 76) #[] #[],.func (.func 77) #[] #[]],[(3814,.cells #[inN 1000,inN 2000,inN 200,inN 300,inN 100,inN 1,inN 200,inN 300,inN 0,inN 50,inN 900,inN 10,inN 500,inN 800,inN 100,inN 200,inN 0,inN (-1),inN 100,inN 122,inN 0,inN 20,inN 450,inN 6] 54 (0,0))],3861,.agg #[inN 1030,inN 548,inN 0,inN 0],[],3902⟩
theorem Qu5:Qaz Qny (Qny.run YP QaI QaP 100000)=true:=by decide+kernel
def QoQ:Memo:=
 ⟨98,#[.agg #[.slice (some ⟨3814,0,none⟩) 2 12,inN 200,inN 2,inN 1,inN 1,inN 0,inN 0],.agg #[inN 1030,inN 548,inN 0,inN 0],inN 1,.func (.func 76) #[] #[],.func (.func 77) #[] #[]],[(3814,.cells #[inN 1000,inN 2000,inN 200,inN 300,inN 100,inN 1,inN 200,inN 300,inN 0,inN 50,inN 900,inN 10,inN 500,inN 800,inN 100,inN 200,inN 0,inN (-1),inN 100,inN 122,inN 0,inN 20,inN 450,inN 6] 54 (0,0))],3905,.agg #[inN 1063,inN 603,inN 0,inN 0],[],3946⟩
theorem QsB:Qaz QoQ (QoQ.run YP QaI QaP 100000)=true:=by decide+kernel
def QnE:Memo:=
 ⟨88,#[.slice (some ⟨3814,0,none⟩) 2 12,.agg #[inN 1063,inN 603,inN 0,inN 0]],[(3814,.cells #[inN 1000,inN 2000,inN 200,inN 300,inN 100,inN 1,inN 200,inN 300,inN 0,inN 50,inN 900,inN 10,inN 500,inN 800,inN 100,inN 200,inN 0,inN (-1),inN 100,inN 122,inN 0,inN 20,inN 450,inN 6] 54 (0,0))],3946,.tuple #[.agg #[inN 0,inN 0],.bool false],[],3951⟩
theorem Qu9:Qaz QnE (QnE.drun YP QaI QaP 100000)=true:=by decide+kernel
def QnC:Memo:=
 ⟨98,#[.agg #[.slice (some ⟨3954,0,none⟩) 2 12,inN 200,inN 2,inN 1,inN 1,inN 0,inN 0],.agg #[inN 1000,inN 500,inN 0,inN 0],inN 0,.func (.func 76) #[] #[],.func (.func 77) #[] #[]],[(3954,.cells #[inN 1000,inN 2000,inN 200,inN 300,inN 100,inN 1,inN 200,inN 300,inN 0,inN 50,inN 900,inN 10,inN 500,inN 800,inN 100,inN 200,inN 0,inN (-1),inN 100,inN 183,inN 0,inN 20,inN 450,inN 6] 54 (0,0))],4001,.agg #[inN 1030,inN 487,inN 0,inN 0],[],4042⟩
theorem QuR:Qaz QnC (QnC.run YP QaI QaP 100000)=true:=by decide+kernel
def Qof:Memo:=
 ⟨98,#[.agg #[.slice (some ⟨3954,0,none⟩) 2 12,inN 200,inN 2,inN 1,inN 1,inN 0,inN 0],.agg #[inN 1030,inN 487,inN 0,inN 0],inN 1,.func (.func 76) #[] #[],.func (.func 77) #[] #[]],[(3954,.cells #[inN 1000,inN 2000,inN 200,inN 300,inN 100,inN 1,inN 200,inN 300,inN 0,inN 50,inN 900,inN 10,inN 500,inN 800,inN 100,inN 200,inN 0,inN (-1),inN 100,inN 183,inN 0,inN 20,inN 450,inN 6] 54 (0,0))],4045,.agg #[inN 1063,inN 475,inN 0,inN 0],[],4086⟩
theorem Qsv:Qaz Qof (Qof.run YP QaI QaP 100000)=true:=by decide+kernel
def Qo3:Memo:=
 ⟨88,#[.slice (some ⟨3954,0,none⟩) 2 12,.agg #[inN 1063,inN 475,inN 0,inN 0]],[(3954,.cells #[inN 1000,inN 2000,inN 200,inN 300,inN 100,inN 1,inN 200,inN 300,inN 0,inN 50,inN 900,inN 10,inN 500,inN 800,inN 100,inN 200,inN 0,inN (-1),inN 100,inN 183,inN 0,inN 20,inN 450,inN 6] 54 (0,0))],4086,.tuple #[.agg #[inN 0,inN 0],.bool false],[],4091⟩
theorem QsO:Qaz Qo3 (Qo3.drun YP QaI QaP 100000)=true:=by decide+kernel
end Go.Proofs.Ytncjjangllkokaa

namespace Go.Proofs.Ytncjjangllkokaa
open Go Go.CE Go.RowKit
noncomputable section
def Qjc:Orc:=Qbp [QoY,Qpe,Qnb]
theorem Qla (B:Lo):QdD YP B Qjc:=Qam Qaj Qac (Qak _ _) QsE (Qam Qaj Qac (Qak _ _) QuP (QaJ Qaj Qac (Qak _ _) Qvb (Qbs _ _)))
def Qnn:Memo:=
 ⟨93,#[inN 500000,.pointer (some ⟨2130,0,none⟩),.pointer (some ⟨2131,0,none⟩)],[(2104,.cells #[inN 1000,inN 2000,inN 200,inN 300,inN 100,inN 1,inN 200,inN 300,inN 0,inN 50,inN 900,inN 10,inN 500,inN 800,inN 100,inN 200,inN 0,inN (-1),inN 100,inN 200,inN 0,inN 20,inN 450,inN 6] 54 (0,0)),(2131,.cells #[inN 1] 3 (0,0)),(2130,.cells #[.slice (some ⟨2104,0,none⟩) 2 12,inN 200,inN 2,inN 1,inN 1,inN 0,inN 0] 84 (0,0))],2132,.bool true,[],2272⟩
theorem Quy:Qaz Qnn (Qnn.run YP QaI Qjc 100000)=true:=by decide+kernel
def Qir:Orc:=Qbp [Qoa,Qon,Qns]
theorem Qkt (B:Lo):QdD YP B Qir:=Qam Qaj Qac (Qak _ _) Qtu (Qam Qaj Qac (Qak _ _) Qst (QaJ Qaj Qac (Qak _ _) QrP (Qbs _ _)))
def Qn6:Memo:=
 ⟨93,#[inN 250000,.pointer (some ⟨2130,0,none⟩),.pointer (some ⟨2131,0,none⟩)],[(2104,.cells #[inN 1000,inN 2000,inN 200,inN 300,inN 100,inN 1,inN 200,inN 300,inN 0,inN 50,inN 900,inN 10,inN 500,inN 800,inN 100,inN 200,inN 0,inN (-1),inN 100,inN 200,inN 0,inN 20,inN 450,inN 6] 54 (0,0)),(2131,.cells #[inN 1] 3 (0,0)),(2130,.cells #[.slice (some ⟨2104,0,none⟩) 2 12,inN 200,inN 2,inN 1,inN 1,inN 0,inN 0] 84 (0,0))],2272,.bool true,[],2412⟩
theorem QtX:Qaz Qn6 (Qn6.run YP QaI Qir 100000)=true:=by decide+kernel
def Qi4:Orc:=Qbp [QmP,QmS,Qpv]
theorem Qk1 (B:Lo):QdD YP B Qi4:=Qam Qaj Qac (Qak _ _) Qtb (Qam Qaj Qac (Qak _ _) QtB (QaJ Qaj Qac (Qak _ _) Quh (Qbs _ _)))
def QnH:Memo:=
 ⟨93,#[inN 125000,.pointer (some ⟨2130,0,none⟩),.pointer (some ⟨2131,0,none⟩)],[(2104,.cells #[inN 1000,inN 2000,inN 200,inN 300,inN 100,inN 1,inN 200,inN 300,inN 0,inN 50,inN 900,inN 10,inN 500,inN 800,inN 100,inN 200,inN 0,inN (-1),inN 100,inN 200,inN 0,inN 20,inN 450,inN 6] 54 (0,0)),(2131,.cells #[inN 1] 3 (0,0)),(2130,.cells #[.slice (some ⟨2104,0,none⟩) 2 12,inN 200,inN 2,inN 1,inN 1,inN 0,inN 0] 84 (0,0))],2412,.bool true,[],2552⟩
theorem QuX:Qaz QnH (QnH.run YP QaI Qi4 100000)=true:=by decide+kernel
def Qiv:Orc:=Qbp [QmD,QoH,QnQ]
theorem Qkj (B:Lo):QdD YP B Qiv:=Qam Qaj Qac (Qak _ _) Qun (Qam Qaj Qac (Qak _ _) QsG (QaJ Qaj Qac (Qak _ _) Qvm (Qbs _ _)))
def QmA:Memo:=
 ⟨93,#[inN 62500,.pointer (some ⟨2130,0,none⟩),.pointer (some ⟨2131,0,none⟩)],[(2104,.cells #[inN 1000,inN 2000,inN 200,inN 300,inN 100,inN 1,inN 200,inN 300,inN 0,inN 50,inN 900,inN 10,inN 500,inN 800,inN 100,inN 200,inN 0,inN (-1),inN 100,inN 200,inN 0,inN 20,inN 450,inN 6] 54 (0,0)),(2131,.cells #[inN 1] 3 (0,0)),(2130,.cells #[.slice (some ⟨2104,0,none⟩) 2 12,inN 200,inN 2,inN 1,inN 1,inN 0,inN 0] 84 (0,0))],2552,.bool true,[],2692⟩
theorem QuA:Qaz QmA (QmA.run YP QaI Qiv 100000)=true:=by decide+kernel
def QiW:Orc:=Qbp [Qp8,QmT,QoB]
theorem QkP (B:Lo):QdD YP B QiW:=Qam Qaj Qac (Qak _ _) Qvo (Qam Qaj Qac (Qak _ _) QtZ (QaJ Qaj Qac (Qak _ _) Que (Qbs _ _)))
def Qn5:Memo:=
 ⟨93,#[inN 31250,.pointer (some ⟨2130,0,none⟩),.pointer (some ⟨2131,0,none⟩)],[(2104,.cells #[inN 1000,inN 2000,inN 200,inN 300,inN 100,inN 1,inN 200,inN 300,inN 0,inN 50,inN 900,inN 10,inN 500,inN 800,inN 100,inN 200,inN 0,inN (-1),inN 100,inN 200,inN 0,inN 20,inN 450,inN 6] 54 (0,0)),(2131,.cells #[inN 1] 3 (0,0)),(2130,.cells #[.slice (some ⟨2104,0,none⟩) 2 12,inN 200,inN 2,inN 1,inN 1,inN 0,inN 0] 84 (0,0))],2692,.bool true,[],2832⟩
theorem QsM:Qaz Qn5 (Qn5.run YP QaI QiW 100000)=true:=by decide+kernel
def QiT:Orc:=Qbp [QmN,QnR,QmV]
theorem Qke (B:Lo):QdD YP B QiT:=Qam Qaj Qac (Qak _ _) Qsh (Qam Qaj Qac (Qak _ _) QtO (QaJ Qaj Qac (Qak _ _) Qty (Qbs _ _)))
def QoZ:Memo:=
 ⟨93,#[inN 15625,.pointer (some ⟨2130,0,none⟩),.pointer (some ⟨2131,0,none⟩)],[(2104,.cells #[inN 1000,inN 2000,inN 200,inN 300,inN 100,inN 1,inN 200,inN 300,inN 0,inN 50,inN 900,inN 10,inN 500,inN 800,inN 100,inN 200,inN 0,inN (-1),inN 100,inN 200,inN 0,inN 20,inN 450,inN 6] 54 (0,0)),(2131,.cells #[inN 1] 3 (0,0)),(2130,.cells #[.slice (some ⟨2104,0,none⟩) 2 12,inN 200,inN 2,inN 1,inN 1,inN 0,inN 0] 84 (0,0))],2832,.bool true,[],2972⟩
theorem QrH:Qaz QoZ (QoZ.run YP QaI QiT 100000)=true:=by decide+kernel
def Qi0:Orc:=Qbp [Qo4,QoS,QnJ]
theorem Qkm (B:Lo):QdD YP B Qi0:=Qam Qaj Qac (Qak _ _) Qs5 (Qam Qaj Qac (Qak _ _) Qus (QaJ Qaj Qac (Qak _ _) Qti (Qbs _ _)))
def QmG:Memo:=
 ⟨93,#[inN 7812,.pointer (some ⟨2130,0,none⟩),.pointer (some ⟨2131,0,none⟩)],[(2104,.cells #[inN 1000,inN 2000,inN 200,inN 300,inN 100,inN 1,inN 200,inN 300,inN 0,inN 50,inN 900,inN 10,inN 500,inN 800,inN 100,inN 200,inN 0,inN (-1),inN 100,inN 200,inN 0,inN 20,inN 450,inN 6] 54 (0,0)),(2131,.cells #[inN 1] 3 (0,0)),(2130,.cells #[.slice (some ⟨2104,0,none⟩) 2 12,inN 200,inN 2,inN 1,inN 1,inN 0,inN 0] 84 (0,0))],2972,.bool true,[],3112⟩
theorem Qt4:Qaz QmG (QmG.run YP QaI Qi0 100000)=true:=by decide+kernel
def Qi9:Orc:=Qbp [QmI,Qo2,Qnv]
theorem QkX (B:Lo):QdD YP B Qi9:=Qam Qaj Qac (Qak _ _) Qva (Qam Qaj Qac (Qak _ _) Qum (QaJ Qaj Qac (Qak _ _) QuM (Qbs _ _)))
def QnB:Memo:=
 ⟨93,#[inN 3906,.pointer (some ⟨2130,0,none⟩),.pointer (some ⟨2131,0,none⟩)],[(2104,.cells #[inN 1000,inN 2000,inN 200,inN 300,inN 100,inN 1,inN 200,inN 300,inN 0,inN 50,inN 900,inN 10,inN 500,inN 800,inN 100,inN 200,inN 0,inN (-1),inN 100,inN 200,inN 0,inN 20,inN 450,inN 6] 54 (0,0)),(2131,.cells #[inN 1] 3 (0,0)),(2130,.cells #[.slice (some ⟨2104,0,none⟩) 2 12,inN 200,inN 2,inN 1,inN 1,inN 0,inN 0] 84 (0,0))],3112,.bool true,[],3252⟩
theorem QsP:Qaz QnB (QnB.run YP QaI Qi9 100000)=true:=by decide+kernel
def Qjj:Orc:=Qbp [Qol,QoG,Qnt]
theorem QjW (B:Lo):QdD YP B Qjj:=Qam Qaj Qac (Qak _ _) Qut (Qam Qaj Qac (Qak _ _) QuJ (QaJ Qaj Qac (Qak _ _) Qsi (Qbs _ _)))
def QnZ:Memo:=
 ⟨93,#[inN 1953,.pointer (some ⟨2130,0,none⟩),.pointer (some ⟨2131,0,none⟩)],[(2104,.cells #[inN 1000,inN 2000,inN 200,inN 300,inN 100,inN 1,inN 200,inN 300,inN 0,inN 50,inN 900,inN 10,inN 500,inN 800,inN 100,inN 200,inN 0,inN (-1),inN 100,inN 200,inN 0,inN 20,inN 450,inN 6] 54 (0,0)),(2131,.cells #[inN 1] 3 (0,0)),(2130,.cells #[.slice (some ⟨2104,0,none⟩) 2 12,inN 200,inN 2,inN 1,inN 1,inN 0,inN 0] 84 (0,0))],3252,.bool true,[],3392⟩
theorem QrK:Qaz QnZ (QnZ.run YP QaI Qjj 100000)=true:=by decide+kernel
def Qjh:Orc:=Qbp [QmW,Qpz,Qos]
theorem QkG (B:Lo):QdD YP B Qjh:=Qam Qaj Qac (Qak _ _) QsI (Qam Qaj Qac (Qak _ _) QrO (QaJ Qaj Qac (Qak _ _) QsK (Qbs _ _)))
def QmC:Memo:=
 ⟨93,#[inN 976,.pointer (some ⟨2130,0,none⟩),.pointer (some ⟨2131,0,none⟩)],[(2104,.cells #[inN 1000,inN 2000,inN 200,inN 300,inN 100,inN 1,inN 200,inN 300,inN 0,inN 50,inN 900,inN 10,inN 500,inN 800,inN 100,inN 200,inN 0,inN (-1),inN 100,inN 200,inN 0,inN 20,inN 450,inN 6] 54 (0,0)),(2131,.cells #[inN 1] 3 (0,0)),(2130,.cells #[.slice (some ⟨2104,0,none⟩) 2 12,inN 200,inN 2,inN 1,inN 1,inN 0,inN 0] 84 (0,0))],3392,.bool true,[],3532⟩
theorem Quf:Qaz QmC (QmC.run YP QaI Qjh 100000)=true:=by decide+kernel
def Qjd:Orc:=Qbp [Qnl,QnT,QoE]
theorem QjG (B:Lo):QdD YP B Qjd:=Qam Qaj Qac (Qak _ _) Qud (Qam Qaj Qac (Qak _ _) Qur (QaJ Qaj Qac (Qak _ _) QrY (Qbs _ _)))
def Qob:Memo:=
 ⟨93,#[inN 488,.pointer (some ⟨2130,0,none⟩),.pointer (some ⟨2131,0,none⟩)],[(2104,.cells #[inN 1000,inN 2000,inN 200,inN 300,inN 100,inN 1,inN 200,inN 300,inN 0,inN 50,inN 900,inN 10,inN 500,inN 800,inN 100,inN 200,inN 0,inN (-1),inN 100,inN 200,inN 0,inN 20,inN 450,inN 6] 54 (0,0)),(2131,.cells #[inN 1] 3 (0,0)),(2130,.cells #[.slice (some ⟨2104,0,none⟩) 2 12,inN 200,inN 2,inN 1,inN 1,inN 0,inN 0] 84 (0,0))],3532,.bool true,[],3672⟩
theorem QsD:Qaz Qob (Qob.run YP QaI Qjd 100000)=true:=by decide+kernel
def QiI:Orc:=Qbp [Qph,Qnx,QnU]
theorem Qku (B:Lo):QdD YP B QiI:=Qam Qaj Qac (Qak _ _) Qvk (Qam Qaj Qac (Qak _ _) QsY (QaJ Qaj Qac (Qak _ _) QrS (Qbs _ _)))
def QmL:Memo:=
 ⟨93,#[inN 244,.pointer (some ⟨2130,0,none⟩),.pointer (some ⟨2131,0,none⟩)],[(2104,.cells #[inN 1000,inN 2000,inN 200,inN 300,inN 100,inN 1,inN 200,inN 300,inN 0,inN 50,inN 900,inN 10,inN 500,inN 800,inN 100,inN 200,inN 0,inN (-1),inN 100,inN 200,inN 0,inN 20,inN 450,inN 6] 54 (0,0)),(2131,.cells #[inN 1] 3 (0,0)),(2130,.cells #[.slice (some ⟨2104,0,none⟩) 2 12,inN 200,inN 2,inN 1,inN 1,inN 0,inN 0] 84 (0,0))],3672,.bool true,[],3812⟩
theorem Qsy:Qaz QmL (QmL.run YP QaI QiI 100000)=true:=by decide+kernel
def Qiz:Orc:=Qbp [Qny,QoQ,QnE]
theorem Qld (B:Lo):QdD YP B Qiz:=Qam Qaj Qac (Qak _ _) Qu5 (Qam Qaj Qac (Qak _ _) QsB (QaJ Qaj Qac (Qak _ _) Qu9 (Qbs _ _)))
def Qpk:Memo:=
 ⟨93,#[inN 122,.pointer (some ⟨2130,0,none⟩),.pointer (some ⟨2131,0,none⟩)],[(2104,.cells #[inN 1000,inN 2000,inN 200,inN 300,inN 100,inN 1,inN 200,inN 300,inN 0,inN 50,inN 900,inN 10,inN 500,inN 800,inN 100,inN 200,inN 0,inN (-1),inN 100,inN 200,inN 0,inN 20,inN 450,inN 6] 54 (0,0)),(2131,.cells #[inN 1] 3 (0,0)),(2130,.cells #[.slice (some ⟨2104,0,none⟩) 2 12,inN 200,inN 2,inN 1,inN 1,inN 0,inN 0] 84 (0,0))],3812,.bool false,[],3952⟩
theorem Qvl:Qaz Qpk (Qpk.run YP QaI Qiz 100000)=true:=by decide+kernel
def QiR:Orc:=Qbp [QnC,Qof,Qo3]
theorem Qle (B:Lo):QdD YP B QiR:=Qam Qaj Qac (Qak _ _) QuR (Qam Qaj Qac (Qak _ _) Qsv (QaJ Qaj Qac (Qak _ _) QsO (Qbs _ _)))
def Qoe:Memo:=
 ⟨93,#[inN 183,.pointer (some ⟨2130,0,none⟩),.pointer (some ⟨2131,0,none⟩)],[(2104,.cells #[inN 1000,inN 2000,inN 200,inN 300,inN 100,inN 1,inN 200,inN 300,inN 0,inN 50,inN 900,inN 10,inN 500,inN 800,inN 100,inN 200,inN 0,inN (-1),inN 100,inN 200,inN 0,inN 20,inN 450,inN 6] 54 (0,0)),(2131,.cells #[inN 1] 3 (0,0)),(2130,.cells #[.slice (some ⟨2104,0,none⟩) 2 12,inN 200,inN 2,inN 1,inN 1,inN 0,inN 0] 84 (0,0))],3952,.bool false,[],4092⟩
theorem Qtd:Qaz Qoe (Qoe.run YP QaI QiR 100000)=true:=by decide+kernel
end
end Go.Proofs.Ytncjjangllkokaa

namespace Go.Proofs.Ytncjjangllkokaa
open Go Go.CE Go.RowKit
def QnA:Memo:=
 ⟨98,#[.agg #[.slice (some ⟨4094,0,none⟩) 2 12,inN 200,inN 2,inN 1,inN 1,inN 0,inN 0],.agg #[inN 1000,inN 500,inN 0,inN 0],inN 0,.func (.func 76) #[] #[],.func (.func 77) #[] #[]],[(4094,.cells #[inN 1000,inN 2000,inN 200,inN 300,inN 100,inN 1,inN 200,inN 300,inN 0,inN 50,inN 900,inN 10,inN 500,inN 800,inN 100,inN 200,inN 0,inN (-1),inN 100,inN 200,inN 0,inN 20,inN 450,inN 6] 54 (0,0))],4141,.agg #[inN 1030,inN 470,inN 0,inN 0],[],4182⟩
theorem QsU:Qaz QnA (QnA.run YP QaI QaP 100000)=true:=by decide+kernel
def Qpy:Memo:=
 ⟨98,#[.agg #[.slice (some ⟨4094,0,none⟩) 2 12,inN 200,inN 2,inN 1,inN 1,inN 0,inN 0],.agg #[inN 1030,inN 470,inN 0,inN 0],inN 1,.func (.func 76) #[] #[],.func (.func 77) #[] #[]],[(4094,.cells #[inN 1000,inN 2000,inN 200,inN 300,inN 100,inN 1,inN 200,inN 300,inN 0,inN 50,inN 900,inN 10,inN 500,inN 800,inN 100,inN 200,inN 0,inN (-1),inN 100,inN 200,inN 0,inN 20,inN 450,inN 6] 54 (0,0))],4185,.agg #[inN 1063,inN 440,inN 0,inN 0],[],4226⟩
theorem QtF:Qaz Qpy (Qpy.run YP QaI QaP 100000)=true:=by decide+kernel
def Qnf:Memo:=
 ⟨88,#[.slice (some ⟨4094,0,none⟩) 2 12,.agg #[inN 1063,inN 440,inN 0,inN 0]],[(4094,.cells #[inN 1000,inN 2000,inN 200,inN 300,inN 100,inN 1,inN 200,inN 300,inN 0,inN 50,inN 900,inN 10,inN 500,inN 800,inN 100,inN 200,inN 0,inN (-1),inN 100,inN 200,inN 0,inN 20,inN 450,inN 6] 54 (0,0))],4226,.tuple #[.agg #[inN 1,inN 10],.bool true],[],4231⟩
theorem Qsb:Qaz Qnf (Qnf.drun YP QaI QaP 100000)=true:=by decide+kernel
def QnL:Memo:=
 ⟨98,#[.agg #[.slice (some ⟨4234,0,none⟩) 2 12,inN 200,inN 2,inN 1,inN 1,inN 0,inN 0],.agg #[inN 1000,inN 500,inN 0,inN 0],inN 0,.func (.func 76) #[] #[],.func (.func 77) #[] #[]],[(4234,.cells #[inN 1000,inN 2000,inN 200,inN 300,inN 100,inN 1,inN 200,inN 300,inN 0,inN 50,inN 900,inN 10,inN 500,inN 800,inN 100,inN 200,inN 0,inN (-1),inN 100,inN 199,inN 0,inN 20,inN 450,inN 6] 54 (0,0))],4281,.agg #[inN 1030,inN 471,inN 0,inN 0],[],4322⟩
theorem QuO:Qaz QnL (QnL.run YP QaI QaP 100000)=true:=by decide+kernel
def Qoi:Memo:=
 ⟨98,#[.agg #[.slice (some ⟨4234,0,none⟩) 2 12,inN 200,inN 2,inN 1,inN 1,inN 0,inN 0],.agg #[inN 1030,inN 471,inN 0,inN 0],inN 1,.func (.func 76) #[] #[],.func (.func 77) #[] #[]],[(4234,.cells #[inN 1000,inN 2000,inN 200,inN 300,inN 100,inN 1,inN 200,inN 300,inN 0,inN 50,inN 900,inN 10,inN 500,inN 800,inN 100,inN 200,inN 0,inN (-1),inN 100,inN 199,inN 0,inN 20,inN 450,inN 6] 54 (0,0))],4325,.agg #[inN 1063,inN 442,inN 0,inN 0],[],4366⟩
theorem Qt0:Qaz Qoi (Qoi.run YP QaI QaP 100000)=true:=by decide+kernel
def Qpb:Memo:=
 ⟨88,#[.slice (some ⟨4234,0,none⟩) 2 12,.agg #[inN 1063,inN 442,inN 0,inN 0]],[(4234,.cells #[inN 1000,inN 2000,inN 200,inN 300,inN 100,inN 1,inN 200,inN 300,inN 0,inN 50,inN 900,inN 10,inN 500,inN 800,inN 100,inN 200,inN 0,inN (-1),inN 100,inN 199,inN 0,inN 20,inN 450,inN 6] 54 (0,0))],4366,.tuple #[.agg #[inN 1,inN 8],.bool true],[],4371⟩
theorem QuI:Qaz Qpb (Qpb.drun YP QaI QaP 100000)=true:=by decide+kernel
def Qni:Memo:=
 ⟨98,#[.agg #[.slice (some ⟨4374,0,none⟩) 2 12,inN 200,inN 2,inN 1,inN 1,inN 0,inN 0],.agg #[inN 1000,inN 500,inN 0,inN 0],inN 0,.func (.func 76) #[] #[],.func (.func 77) #[] #[]],[(4374,.cells #[inN 1000,inN 2000,inN 200,inN 300,inN 100,inN 1,inN 200,inN 300,inN 0,inN 50,inN 900,inN 10,inN 500,inN 800,inN 100,inN 200,inN 0,inN (-1),inN 100,inN 191,inN 0,inN 20,inN 450,inN 6] 54 (0,0))],4421,.agg #[inN 1030,inN 479,inN 0,inN 0],[],4462⟩
theorem Quu:Qaz Qni (Qni.run YP QaI QaP 100000)=true:=by decide+kernel
def Qna:Memo:=
 ⟨98,#[.agg #[.slice (some ⟨4374,0,none⟩) 2 12,inN 200,inN 2,inN 1,inN 1,inN 0,inN 0],.agg #[inN 1030,inN 479,inN 0,inN 0],inN 1,.func (.func 76) #[] #[],.func (.func 77) #[] #[]],[(4374,.cells #[inN 1000,inN 2000,inN 200,inN 300,inN 100,inN 1,inN 200,inN 300,inN 0,inN 50,inN 900,inN 10,inN 500,inN 800,inN 100,inN 200,inN 0,inN (-1),inN 100,inN 191,inN 0,inN 20,inN 450,inN 6] 54 (0,0))],4465,.agg #[inN 1063,inN 458,inN 0,inN 0],[],4506⟩
theorem Qt8:Qaz Qna (Qna.run YP QaI QaP 100000)=true:=by decide+kernel
def QnW:Memo:=
 ⟨88,#[.slice (some ⟨4374,0,none⟩) 2 12,.agg #[inN 1063,inN 458,inN 0,inN 0]],[(4374,.cells #[inN 1000,inN 2000,inN 200,inN 300,inN 100,inN 1,inN 200,inN 300,inN 0,inN 50,inN 900,inN 10,inN 500,inN 800,inN 100,inN 200,inN 0,inN (-1),inN 100,inN 191,inN 0,inN 20,inN 450,inN 6] 54 (0,0))],4506,.tuple #[.agg #[inN 0,inN 0],.bool false],[],4511⟩
theorem QuE:Qaz QnW (QnW.drun YP QaI QaP 100000)=true:=by decide+kernel
def Qok:Memo:=
 ⟨98,#[.agg #[.slice (some ⟨4514,0,none⟩) 2 12,inN 200,inN 2,inN 1,inN 1,inN 0,inN 0],.agg #[inN 1000,inN 500,inN 0,inN 0],inN 0,.func (.func 76) #[] #[],.func (.func 77) #[] #[]],[(4514,.cells #[inN 1000,inN 2000,inN 200,inN 300,inN 100,inN 1,inN 200,inN 300,inN 0,inN 50,inN 900,inN 10,inN 500,inN 800,inN 100,inN 200,inN 0,inN (-1),inN 100,inN 195,inN 0,inN 20,inN 450,inN 6] 54 (0,0))],4561,.agg #[inN 1030,inN 475,inN 0,inN 0],[],4602⟩
theorem Qsg:Qaz Qok (Qok.run YP QaI QaP 100000)=true:=by decide+kernel
def Qp2:Memo:=
 ⟨98,#[.agg #[.slice (some ⟨4514,0,none⟩) 2 12,inN 200,inN 2,inN 1,inN 1,inN 0,inN 0],.agg #[inN 1030,inN 475,inN 0,inN 0],inN 1,.func (.func 76) #[] #[],.func (.func 77) #[] #[]],[(4514,.cells #[inN 1000,inN 2000,inN 200,inN 300,inN 100,inN 1,inN 200,inN 300,inN 0,inN 50,inN 900,inN 10,inN 500,inN 800,inN 100,inN 200,inN 0,inN (-1),inN 100,inN 195,inN 0,inN 20,inN 450,inN 6] 54 (0,0))],4605,.agg #[inN 1063,inN 450,inN 0,inN 0],[],4646⟩
theorem Quv:Qaz Qp2 (Qp2.run YP QaI QaP 100000)=true:=by decide+kernel
def Qpj:Memo:=
 ⟨88,#[.slice (some ⟨4514,0,none⟩) 2 12,.agg #[inN 1063,inN 450,inN 0,inN 0]],[(4514,.cells #[inN 1000,inN 2000,inN 200,inN 300,inN 100,inN 1,inN 200,inN 300,inN 0,inN 50,inN 900,inN 10,inN 500,inN 800,inN 100,inN 200,inN 0,inN (-1),inN 100,inN 195,inN 0,inN 20,inN 450,inN 6] 54 (0,0))],4646,.tuple #[.agg #[inN 0,inN 0],.bool false],[],4651⟩
theorem Qsl:Qaz Qpj (Qpj.drun YP QaI QaP 100000)=true:=by decide+kernel
def Qpn:Memo:=
 ⟨98,#[.agg #[.slice (some ⟨4654,0,none⟩) 2 12,inN 200,inN 2,inN 1,inN 1,inN 0,inN 0],.agg #[inN 1000,inN 500,inN 0,inN 0],inN 0,.func (.func 76) #[] #[],.func (.func 77) #[] #[]],[(4654,.cells #[inN 1000,inN 2000,inN 200,inN 300,inN 100,inN 1,inN 200,inN 300,inN 0,inN 50,inN 900,inN 10,inN 500,inN 800,inN 100,inN 200,inN 0,inN (-1),inN 100,inN 197,inN 0,inN 20,inN 450,inN 6] 54 (0,0))],4701,.agg #[inN 1030,inN 473,inN 0,inN 0],[],4742⟩
theorem QuH:Qaz Qpn (Qpn.run YP QaI QaP 100000)=true:=by decide+kernel
def Qpi:Memo:=
 ⟨98,#[.agg #[.slice (some ⟨4654,0,none⟩) 2 12,inN 200,inN 2,inN 1,inN 1,inN 0,inN 0],.agg #[inN 1030,inN 473,inN 0,inN 0],inN 1,.func (.func 76) #[] #[],.func (.func 77) #[] #[]],[(4654,.cells #[inN 1000,inN 2000,inN 200,inN 300,inN 100,inN 1,inN 200,inN 300,inN 0,inN 50,inN 900,inN 10,inN 500,inN 800,inN 100,inN 200,inN 0,inN (-1),inN 100,inN 197,inN 0,inN 20,inN 450,inN 6] 54 (0,0))],4745,.agg #[inN 1063,inN 446,inN 0,inN 0],[],4786⟩
theorem Qso:Qaz Qpi (Qpi.run YP QaI QaP 100000)=true:=by decide+kernel
end Go.Proofs.Ytncjjangllkokaa

namespace Go.Proofs.Ytncjjangllkokaa
open Go Go.CE Go.RowKit
def Qng:Memo:=
 ⟨88,#[.slice (some ⟨4654,0,none⟩) 2 12,.agg #[inN 1063,inN 446,inN 0,inN 0]],[(4654,.cells #[inN 1000,inN 2000,inN 200,inN 300,inN 100,inN 1,inN 200,inN 300,inN 0,inN 50,inN 900,inN 10,inN 500,inN 800,inN 100,inN 200,inN 0,inN (-1),inN 100,inN 197,inN 0,inN 20,inN 450,inN 6] 54 (0,0))],4786,.tuple #[.agg #[inN 1,inN 4],.bool true],[],4791⟩
theorem QuU:Qaz Qng (Qng.drun YP QaI QaP 100000)=true:=by decide+kernel
def Qne:Memo:=
 ⟨98,#[.agg #[.slice (some ⟨4794,0,none⟩) 2 12,inN 200,inN 2,inN 1,inN 1,inN 0,inN 0],.agg #[inN 1000,inN 500,inN 0,inN 0],inN 0,.func (.func 76) #[] #[],.func (.func 77) #[] #[]],[(4794,.cells #[inN 1000,inN 2000,inN 200,inN 300,inN 100,inN 1,inN 200,inN 300,inN 0,inN 50,inN 900,inN 10,inN 500,inN 800,inN 100,inN 200,inN 0,inN (-1),inN 100,inN 196,inN 0,inN 20,inN 450,inN 6] 54 (0,0))],4841,.agg #[inN 1030,inN 474,inN 0,inN 0],[],4882⟩
theorem Qse:Qaz Qne (Qne.run YP QaI QaP 100000)=true:=by decide+kernel
def QnP:Memo:=
 ⟨98,#[.agg #[.slice (some ⟨4794,0,none⟩) 2 12,inN 200,inN 2,inN 1,inN 1,inN 0,inN 0],.agg #[inN 1030,inN 474,inN 0,inN 0],inN 1,.func (.func 76) #[] #[],.func (.func 77) #[] #[]],[(4794,.cells #[inN 1000,inN 2000,inN 200,inN 300,inN 100,inN 1,inN 200,inN 300,inN 0,inN 50,inN 900,inN 10,inN 500,inN 800,inN 100,inN 200,inN 0,inN (-1),inN 100,inN 196,inN 0,inN 20,inN 450,inN 6] 54 (0,0))],4885,.agg #[inN 1063,inN 448,inN 0,inN 0],[],4926⟩
theorem Qux:Qaz QnP (QnP.run YP QaI QaP 100000)=true:=by decide+kernel
def QmK:Memo:=
 ⟨88,#[.slice (some ⟨4794,0,none⟩) 2 12,.agg #[inN 1063,inN 448,inN 0,inN 0]],[(4794,.cells #[inN 1000,inN 2000,inN 200,inN 300,inN 100,inN 1,inN 200,inN 300,inN 0,inN 50,inN 900,inN 10,inN 500,inN 800,inN 100,inN 200,inN 0,inN (-1),inN 100,inN 196,inN 0,inN 20,inN 450,inN 6] 54 (0,0))],4926,.tuple #[.agg #[inN 1,inN 2],.bool true],[],4931⟩
theorem Qtl:Qaz QmK (QmK.drun YP QaI QaP 100000)=true:=by decide+kernel
end Go.Proofs.Ytncjjangllkokaa

namespace Go.Proofs.Ytncjjangllkokaa
open Go Go.CE Go.RowKit
noncomputable section
def QiN:Orc:=Qbp [QnA,Qpy,Qnf]
theorem Qkg (B:Lo):QdD YP B QiN:=Qam Qaj Qac (Qak _ _) QsU (Qam Qaj Qac (Qak _ _) QtF (QaJ Qaj Qac (Qak _ _) Qsb (Qbs _ _)))
def Qo1:Memo:=
 ⟨93,#[inN 214,.pointer (some ⟨2130,0,none⟩),.pointer (some ⟨2131,0,none⟩)],[(2104,.cells #[inN 1000,inN 2000,inN 200,inN 300,inN 100,inN 1,inN 200,inN 300,inN 0,inN 50,inN 900,inN 10,inN 500,inN 800,inN 100,inN 200,inN 0,inN (-1),inN 100,inN 200,inN 0,inN 20,inN 450,inN 6] 54 (0,0)),(2131,.cells #[inN 1] 3 (0,0)),(2130,.cells #[.slice (some ⟨2104,0,none⟩) 2 12,inN 200,inN 2,inN 1,inN 1,inN 0,inN 0] 84 (0,0))],4092,.bool true,[],4232⟩
theorem Qsq:Qaz Qo1 (Qo1.run YP QaI QiN 100000)=true:=by decide+kernel
def Qi2:Orc:=Qbp [QnL,Qoi,Qpb]
theorem QlA (B:Lo):QdD YP B Qi2:=Qam Qaj Qac (Qak _ _) QuO (Qam Qaj Qac (Qak _ _) Qt0 (QaJ Qaj Qac (Qak _ _) QuI (Qbs _ _)))
def QoA:Memo:=
 ⟨93,#[inN 199,.pointer (some ⟨2130,0,none⟩),.pointer (some ⟨2131,0,none⟩)],[(2104,.cells #[inN 1000,inN 2000,inN 200,inN 300,inN 100,inN 1,inN 200,inN 300,inN 0,inN 50,inN 900,inN 10,inN 500,inN 800,inN 100,inN 200,inN 0,inN (-1),inN 100,inN 200,inN 0,inN 20,inN 450,inN 6] 54 (0,0)),(2131,.cells #[inN 1] 3 (0,0)),(2130,.cells #[.slice (some ⟨2104,0,none⟩) 2 12,inN 200,inN 2,inN 1,inN 1,inN 0,inN 0] 84 (0,0))],4232,.bool true,[],4372⟩
theorem Qtt:Qaz QoA (QoA.run YP QaI Qi2 100000)=true:=by decide+kernel
def Qi8:Orc:=Qbp [Qni,Qna,QnW]
theorem Qlb (B:Lo):QdD YP B Qi8:=Qam Qaj Qac (Qak _ _) Quu (Qam Qaj Qac (Qak _ _) Qt8 (QaJ Qaj Qac (Qak _ _) QuE (Qbs _ _)))
def Qp1:Memo:=
 ⟨93,#[inN 191,.pointer (some ⟨2130,0,none⟩),.pointer (some ⟨2131,0,none⟩)],[(2104,.cells #[inN 1000,inN 2000,inN 200,inN 300,inN 100,inN 1,inN 200,inN 300,inN 0,inN 50,inN 900,inN 10,inN 500,inN 800,inN 100,inN 200,inN 0,inN (-1),inN 100,inN 200,inN 0,inN 20,inN 450,inN 6] 54 (0,0)),(2131,.cells #[inN 1] 3 (0,0)),(2130,.cells #[.slice (some ⟨2104,0,none⟩) 2 12,inN 200,inN 2,inN 1,inN 1,inN 0,inN 0] 84 (0,0))],4372,.bool false,[],4512⟩
theorem QuC:Qaz Qp1 (Qp1.run YP QaI Qi8 100000)=true:=by decide+kernel
def Qi5:Orc:=Qbp [Qok,Qp2,Qpj]
theorem Qlw (B:Lo):QdD YP B Qi5:=Qam Qaj Qac (Qak _ _) Qsg (Qam Qaj Qac (Qak _ _) Quv (QaJ Qaj Qac (Qak _ _) Qsl (Qbs _ _)))
def Qnm:Memo:=
 ⟨93,#[inN 195,.pointer (some ⟨2130,0,none⟩),.pointer (some ⟨2131,0,none⟩)],[(2104,.cells #[inN 1000,inN 2000,inN 200,inN 300,inN 100,inN 1,inN 200,inN 300,inN 0,inN 50,inN 900,inN 10,inN 500,inN 800,inN 100,inN 200,inN 0,inN (-1),inN 100,inN 200,inN 0,inN 20,inN 450,inN 6] 54 (0,0)),(2131,.cells #[inN 1] 3 (0,0)),(2130,.cells #[.slice (some ⟨2104,0,none⟩) 2 12,inN 200,inN 2,inN 1,inN 1,inN 0,inN 0] 84 (0,0))],4512,.bool false,[],4652⟩
theorem Qvn:Qaz Qnm (Qnm.run YP QaI Qi5 100000)=true:=by decide+kernel
def QiC:Orc:=Qbp [Qpn,Qpi,Qng]
theorem QkR (B:Lo):QdD YP B QiC:=Qam Qaj Qac (Qak _ _) QuH (Qam Qaj Qac (Qak _ _) Qso (QaJ Qaj Qac (Qak _ _) QuU (Qbs _ _)))
def Qoh:Memo:=
 ⟨93,#[inN 197,.pointer (some ⟨2130,0,none⟩),.pointer (some ⟨2131,0,none⟩)],[(2104,.cells #[inN 1000,inN 2000,inN 200,inN 300,inN 100,inN 1,inN 200,inN 300,inN 0,inN 50,inN 900,inN 10,inN 500,inN 800,inN 100,inN 200,inN 0,inN (-1),inN 100,inN 200,inN 0,inN 20,inN 450,inN 6] 54 (0,0)),(2131,.cells #[inN 1] 3 (0,0)),(2130,.cells #[.slice (some ⟨2104,0,none⟩) 2 12,inN 200,inN 2,inN 1,inN 1,inN 0,inN 0] 84 (0,0))],4652,.bool true,[],4792⟩
theorem Qs8:Qaz Qoh (Qoh.run YP QaI QiC 100000)=true:=by decide+kernel
def QiQ:Orc:=Qbp [Qne,QnP,QmK]
theorem QkC (B:Lo):QdD YP B QiQ:=Qam Qaj Qac (Qak _ _) Qse (Qam Qaj Qac (Qak _ _) Qux (QaJ Qaj Qac (Qak _ _) Qtl (Qbs _ _)))
def QmB:Memo:=
 ⟨93,#[inN 196,.pointer (some ⟨2130,0,none⟩),.pointer (some ⟨2131,0,none⟩)],[(2104,.cells #[inN 1000,inN 2000,inN 200,inN 300,inN 100,inN 1,inN 200,inN 300,inN 0,inN 50,inN 900,inN 10,inN 500,inN 800,inN 100,inN 200,inN 0,inN (-1),inN 100,inN 200,inN 0,inN 20,inN 450,inN 6] 54 (0,0)),(2131,.cells #[inN 1] 3 (0,0)),(2130,.cells #[.slice (some ⟨2104,0,none⟩) 2 12,inN 200,inN 2,inN 1,inN 1,inN 0,inN 0] 84 (0,0))],4792,.bool true,[],4932⟩
theorem Qsc:Qaz QmB (QmB.run YP QaI QiQ 100000)=true:=by decide+kernel
end
end Go.Proofs.Ytncjjangllkokaa

namespace Go.Proofs.Ytncjjangllkokaa
open Go Go.CE Go.RowKit
noncomputable def QiP:Orc:=Qbp [Qnn,Qn6,QnH,QmA,Qn5,QoZ,QmG,QnB,QnZ,QmC,Qob,QmL,Qpk,Qoe,Qo1,QoA,Qp1,Qnm,Qoh,QmB]
theorem Qk0 (B:Lo):QdD YP B QiP:=Qam Qaj Qac (Qla _) Quy (Qam Qaj Qac (Qkt _) QtX (Qam Qaj Qac (Qk1 _) QuX (Qam Qaj Qac (Qkj _) QuA (Qam Qaj Qac (QkP _) QsM (Qam Qaj Qac (Qke _) QrH (Qam Qaj Qac (Qkm _) Qt4 (Qam Qaj Qac (QkX _) QsP (Qam Qaj Qac (QjW _) QrK (Qam Qaj Qac (QkG _) Quf (Qam Qaj Qac (QjG _) QsD (Qam Qaj Qac (Qku _) Qsy (Qam Qaj Qac (Qld _) Qvl (Qam Qaj Qac (Qle _) Qtd (Qam Qaj Qac (Qkg _) Qsq (Qam Qaj Qac (QlA _) Qtt (Qam Qaj Qac (Qlb _) QuC (Qam Qaj Qac (Qlw _) Qvn (Qam Qaj Qac (QkR _) Qs8 (Qam Qaj Qac (QkC _) Qsc (Qbs _ _))))))))))))))))))))
def QoL:Memo:=
 ⟨43,#[.agg #[.slice (some ⟨2104,0,none⟩) 2 12,inN 200,inN 2],.slice (some ⟨2105,0,none⟩) 2 1,inN 1],[(2105,.cells #[inN 1,inN 1] 3 (0,0)),(2104,.cells #[inN 1000,inN 2000,inN 200,inN 300,inN 100,inN 1,inN 200,inN 300,inN 0,inN 50,inN 900,inN 10,inN 500,inN 800,inN 100,inN 200,inN 0,inN (-1),inN 100,inN 200,inN 0,inN 20,inN 450,inN 6] 54 (0,0))],2106,.tuple #[inN 195,inN 0],[],4932⟩
theorem QrZ:Qaz QoL (QoL.run YP QaI QiP 100000)=true:=by decide+kernel
end Go.Proofs.Ytncjjangllkokaa

namespace Go.Proofs.Ytncjjangllkokaa
open Go Go.CE Go.RowKit
noncomputable def Q3c:Orc:=Qbp [Qz9,Qua,Qvi,QsT,QoL]
theorem Qzt (B:Lo):QdD YP B Q3c:=Qam Qaj Qac (Qak _ _) QyJ (Qam Qaj Qac (QlR _) Qyi (Qam Qaj Qac (QlX _) QxR (Qam Qaj Qac (QlS _) Qxf (Qam Qaj Qac (Qk0 _) QrZ (Qbs _ _)))))
theorem Q0c:Q2k (QsW YP QaI Q3c 100000 16 #[] (Qgl 0 []) ([]:List (Array Value×TypeId)).length) (.bool true) []=true:=by decide+kernel
theorem QxU (w:World):Calls YP 16 #[] w fun e w'=> e=.returned (.bool true)/\Below w.heap.size w w':=by
 have hc:=Q0w Qaj Qac (at':=[]) (args':=#[]) Q0c (w:=w) (I:=fun _=> True) (hI:=fun _ _ _ _=> trivial) (Qzt _) trivial rfl (fun i x a h=> by simp at h) ⟨rfl,fun i v v' h=> by simp at h⟩;intro cs;obtain ⟨e,w',fr,⟨v',n',H',μ',he,hp,hv,hb,hun,hbel⟩,h1,h2,h3⟩:=hc cs;exact ⟨e,w',fr,⟨by rw [he,Qjo rfl hv],hbel⟩,h1,h2,h3⟩
theorem known:Qa3 YP J0 16 #[] (.bool true):=fun fm w args' _ _ ha=> by
 have e:args'=#[]:=by exact Array.eq_empty_of_size_eq_zero ha.1.symm
 subst e;exact (QxU w).mono fun _ _ h=> ⟨_,h.1,h.2,.simple rfl⟩
end Go.Proofs.Ytncjjangllkokaa

namespace Go.Proofs.Ytncjjangllkokaa
open Go Go.CE Go.RowKit
noncomputable section
set_option maxRecDepth 100000
theorem QaK {rf:Qae} {plan:List Int} (hr:Qav rf=true) (hp:QaO rf plan=true):∀j:Nat,0<=plan.getD j default/\plan.getD j default<=1000000:=fun j=> by
 have h:=Qj5 hr hp j;show 0<=plan.getD j 0/\plan.getD j 0<=1000000;omega
def sizedB (t:Qag):Bool:=(decide (t.starts.length<=8) && (decide (t.grows.length<=8) && decide (t.takes.length<=8))) && ((t.grows.all fun l=> decide (l.length<=8)) && t.takes.all fun l=> decide (l.length<=8))
def Qex (t:Qag) (i:Int):List Value:=[pA 2 0,.int .i64 i]
def Qc7 (t:Qag) (i:Int):List Obj:=[Obj.cells #[Qa1 1 (slT t.starts.length (Qai QaZ t.starts)),Qa1 1 (slT t.grows.length (Qai Qbt t.grows)),Qa1 1 (slT t.takes.length (Qai Qbt t.takes))] 42]
def QeG:List Item:=([.code [1,1,0,1,0,0],.inLoop [1,1,0,1,0,0],.inBlock 0,.code [1,1,1]]).map (it (QaU YP 25))
def Q0e (B:Lo) (c0:CF) (t:Qag) (i:Int):Prop:=∃dJ:Nat->Value,(∀t,QbB (dJ t))/\GoE YP B c0 H00 1 (QaL 25 49 (([1,3]:List Nat).zip (Qex t i)) dJ QeG) (QaG (Qc7 t i)) (2+(Qc7 t i).length) []
def Qez (t:Qag) (i:Int):List Value:=[pA 2 0,.int .i64 i]
def QcH (t:Qag) (i:Int):List Obj:=[Obj.cells #[Qa1 1 (slT t.starts.length (Qai QaZ t.starts)),Qa1 1 (slT t.grows.length (Qai Qbt t.grows)),Qa1 1 (slT t.takes.length (Qai Qbt t.takes))] 42]
def Qe9:List Item:=([.code [1,1,1,0,1,0,0],.inLoop [1,1,1,0,1,0,0],.inBlock 2,.code [1,1,1,1]]).map (it (QaU YP 25))
def QyA (B:Lo) (c0:CF) (t:Qag) (i:Int):Prop:=∃dJ:Nat->Value,(∀t,QbB (dJ t))/\GoE YP B c0 H00 1 (QaL 25 49 (([1,4]:List Nat).zip (Qez t i)) dJ Qe9) (QaG (QcH t i)) (2+(QcH t i).length) []
def QlH (B:Lo) (t:Qag) (i:Int) (dJ0:Nat->Value):List Prop:=[i=(↑i.toNat:Int)/\Int.toNat i < List.length t.grows/\Array.extract (Qai Qbt t.grows) (Int.toNat i * TypeInfo.size Try.t25) (Int.toNat i * TypeInfo.size Try.t25+TypeInfo.size Try.t25)=#[slT (List.length (t.grows.getD i.toNat default)) (Qai QaZ (t.grows.getD i.toNat default))],ltq i (↑t.grows.length:Int)=true]++([]:List Prop)
def Qr4 (t:Qag) (i:Int) (dJ0:Nat->Value):Qaw:=[(4,hvT),(8,Qan.tidx i.toNat #[slT (List.length (t.grows.getD i.toNat default)) (Qai QaZ (t.grows.getD i.toNat default))])]
theorem Qy1 (B:Lo) (t:Qag) (i:Int) (dJ0:Nat->Value):Qbi (Qap YP (QaF YP) J0 B 14 1 (QaL 25 49 (([1,3]:List Nat).zip (Qex t i)) dJ0 QeG) (QaG (Qc7 t i)) (2+(Qc7 t i).length)
 (Qr4 t i dJ0++[(11,hvT)]) 0 [] []) []=some (.bool false,
 [ltq 8 (↑(List.length (t.grows.getD i.toNat default)):Int)=true]++QlH B t i dJ0):=by kernel_rfl
theorem QyI (B:Lo) (t:Qag) (i:Int) (dJ0:Nat->Value):landM (Qap YP (QaF YP) J0 B 14 1 (QaL 25 49 (([1,3]:List Nat).zip (Qex t i)) dJ0 QeG) (QaG (Qc7 t i)) (2+(Qc7 t i).length)
 (Qr4 t i dJ0++[(11,hvF),(13,hvI (i+1))]) 0 [] []) [1,3] [(2,KS.auto)] []=some ⟨25,49,QeG,[],.run,none,Qex t (i+1),Qc7 t (i+1),
 [wq (i+1)=i+1,ltq 8 (↑(List.length (t.grows.getD i.toNat default)):Int)=false]++QlH B t i dJ0⟩:=by kernel_rfl
theorem QzG (B:Lo) (t:Qag) (i:Int) (dJ0:Nat->Value):landM (Qap YP (QaF YP) J0 B 10 1 (QaL 25 49 (([1,3]:List Nat).zip (Qex t i)) dJ0 QeG) (QaG (Qc7 t i)) (2+(Qc7 t i).length)
 [(4,hvF)] 0 [] []) [1,4] [(2,KS.auto)] []=some ⟨25,49,Qe9,[],.run,none,Qez t (0),QcH t (0),
 [ltq i (↑t.grows.length:Int)=false]⟩:=by kernel_rfl
def Ql0 (B:Lo) (t:Qag) (i:Int) (dJ0:Nat->Value):List Prop:=[i=(↑i.toNat:Int)/\Int.toNat i < List.length t.takes/\Array.extract (Qai Qbt t.takes) (Int.toNat i * TypeInfo.size Try.t25) (Int.toNat i * TypeInfo.size Try.t25+TypeInfo.size Try.t25)=#[slT (List.length (t.takes.getD i.toNat default)) (Qai QaZ (t.takes.getD i.toNat default))],ltq i (↑t.takes.length:Int)=true]++([]:List Prop)
def Qqz (t:Qag) (i:Int) (dJ0:Nat->Value):Qaw:=[(4,hvT),(8,Qan.tidx i.toNat #[slT (List.length (t.takes.getD i.toNat default)) (Qai QaZ (t.takes.getD i.toNat default))])]
theorem Q0E (B:Lo) (t:Qag) (i:Int) (dJ0:Nat->Value):Qbi (Qap YP (QaF YP) J0 B 14 1 (QaL 25 49 (([1,4]:List Nat).zip (Qez t i)) dJ0 Qe9) (QaG (QcH t i)) (2+(QcH t i).length)
 (Qqz t i dJ0++[(11,hvT)]) 0 [] []) []=some (.bool false,
 [ltq 8 (↑(List.length (t.takes.getD i.toNat default)):Int)=true]++Ql0 B t i dJ0):=by kernel_rfl
theorem Qz5 (B:Lo) (t:Qag) (i:Int) (dJ0:Nat->Value):landM (Qap YP (QaF YP) J0 B 14 1 (QaL 25 49 (([1,4]:List Nat).zip (Qez t i)) dJ0 Qe9) (QaG (QcH t i)) (2+(QcH t i).length)
 (Qqz t i dJ0++[(11,hvF),(13,hvI (i+1))]) 0 [] []) [1,4] [(2,KS.auto)] []=some ⟨25,49,Qe9,[],.run,none,Qez t (i+1),QcH t (i+1),
 [wq (i+1)=i+1,ltq 8 (↑(List.length (t.takes.getD i.toNat default)):Int)=false]++Ql0 B t i dJ0⟩:=by kernel_rfl
theorem Qzc (B:Lo) (t:Qag) (i:Int) (dJ0:Nat->Value):Qbi (Qap YP (QaF YP) J0 B 9 1 (QaL 25 49 (([1,4]:List Nat).zip (Qez t i)) dJ0 Qe9) (QaG (QcH t i)) (2+(QcH t i).length)
 [(4,hvF)] 0 [] []) []=some (.bool true,
 [ltq i (↑t.takes.length:Int)=false]):=by kernel_rfl
theorem QyK (B:Lo) (t:Qag):Qbi (Qap YP (QaF YP) J0 B 10 1 (Qaq YP 25 49 (([.agg #[slI t.starts,QcI t.grows,QcI t.takes]]).map (Qa6 0 4))) H00 1
 [(5,hvT)] 0 [] []) []=some (.bool false,
 [ltq 8 (↑t.starts.length:Int)=true]):=by kernel_rfl
def QjO (B:Lo) (t:Qag):List Prop:=[ltq 8 (↑t.starts.length:Int)=false]++([]:List Prop)
def QpE (t:Qag):Qaw:=[(5,hvF)]
theorem Qzi (B:Lo) (t:Qag):Qbi (Qap YP (QaF YP) J0 B 10 1 (Qaq YP 25 49 (([.agg #[slI t.starts,QcI t.grows,QcI t.takes]]).map (Qa6 0 4))) H00 1
 (QpE t++[(10,hvT)]) 0 [] []) []=some (.bool false,
 [ltq 8 (↑t.grows.length:Int)=true]++QjO B t):=by kernel_rfl
def Ql7 (B:Lo) (t:Qag):List Prop:=[ltq 8 (↑t.grows.length:Int)=false]++QjO B t
def Qqt (t:Qag):Qaw:=QpE t++[(10,hvF)]
theorem QyS (B:Lo) (t:Qag):Qbi (Qap YP (QaF YP) J0 B 10 1 (Qaq YP 25 49 (([.agg #[slI t.starts,QcI t.grows,QcI t.takes]]).map (Qa6 0 4))) H00 1
 (Qqt t++[(16,hvT)]) 0 [] []) []=some (.bool false,
 [ltq 8 (↑t.takes.length:Int)=true]++Ql7 B t):=by kernel_rfl
theorem Q0k (B:Lo) (t:Qag):landM (Qap YP (QaF YP) J0 B 12 1 (Qaq YP 25 49 (([.agg #[slI t.starts,QcI t.grows,QcI t.takes]]).map (Qa6 0 4))) H00 1
 (Qqt t++[(16,hvF)]) 0 [] []) [1,3] [(1,KS.auto)] []=some ⟨25,49,QeG,[],.run,none,Qex t (0),Qc7 t (0),
 [ltq 8 (↑t.takes.length:Int)=false]++Ql7 B t⟩:=by kernel_rfl
set_option maxHeartbeats 4000000 in
theorem Q07 (t:Qag)  (hfacts:t.starts.length<=9223372036854775807/\t.grows.length<=9223372036854775807/\t.takes.length<=9223372036854775807) {B:Lo} (hJ:∀w,B.has w->J0 w) {c0:CF}:∀m:Nat,(∀(i:Int),(t.grows.length - i.toNat)+1000=m->∀(h0:0<=i) (h8:t.starts.length<=8/\t.grows.length<=8/\t.takes.length<=8),Q0e B c0 t i->EndsT YP B c0 (.bool ((t.grows.drop i.toNat).all (fun l=> decide (l.length<=8)) && t.takes.all fun l=> decide (l.length<=8))))/\(∀(i:Int),(t.takes.length - i.toNat)=m->∀(h0:0<=i) (h8:t.starts.length<=8/\t.grows.length<=8/\t.takes.length<=8),QyA B c0 t i->EndsT YP B c0 (.bool ((t.takes.drop i.toNat).all (fun l=> decide (l.length<=8))))):=by
 intro m0;induction m0 using Nat.strongRecOn with
 | _ m0 ih0=>
   refine ⟨?_, ?_⟩
   ·intro i hm0 h0 h8 ⟨dJ0,hdJ0,hg0⟩;by_cases q0:(i:Int) < ((↑t.grows.length:Int))
    ·have hp0:QaA (QlH B t i dJ0):=by
      have s2:=Qdc (l:=t.grows) (p:=fun l=> decide (l.length<=8)) h0 q0;exact ⟨⟨by omega,by omega,(Qat (z:=1) (fun _=> rfl) (by omega))⟩,⟨(Qbw q0),trivial⟩⟩
     by_cases q1:(8:Int) < ((↑(List.length (t.grows.getD i.toNat default)):Int))
     ·have s2:=Qdc (l:=t.grows) (p:=fun l=> decide (l.length<=8)) h0 q0;exact (GoE.endsT okF hJ Qac hg0 (Qy1 B t i dJ0)
       ⟨(Qbw q1),hp0⟩).cast (by (rw [s2,decide_eq_false (by omega)];rfl))
     ·have s2:=Qdc (l:=t.grows) (p:=fun l=> decide (l.length<=8)) h0 q0;exact ((ih0 _ (by omega)).1 (i+1) rfl (by omega) (by with_reducible assumption)
       (hg0.landM okF hJ Qac (QyI B t i dJ0)
       ⟨(Qbj (by omega) (by omega)),⟨(Qby (Int.not_lt.1 q1)),hp0⟩⟩ (by kernel_rfl) (by kernel_rfl))).cast (by (rw [s2,decide_eq_true (by omega),Bool.true_and];done))
    ·have s2:=Qhp (l:=t.grows) (p:=fun l=> decide (l.length<=8)) (i:=i) (by omega);exact ((ih0 _ (by omega)).2 (0) rfl (by omega) (by with_reducible assumption)
      (hg0.landM okF hJ Qac (QzG B t i dJ0)
      ⟨(Qby (Int.not_lt.1 q0)),trivial⟩ (by kernel_rfl) (by kernel_rfl))).cast (by (rw [s2];simp [*];done))
   ·intro i hm0 h0 h8 ⟨dJ0,hdJ0,hg0⟩;by_cases q0:(i:Int) < ((↑t.takes.length:Int))
    ·have hp1:QaA (Ql0 B t i dJ0):=by
      have s2:=Qdc (l:=t.takes) (p:=fun l=> decide (l.length<=8)) h0 q0;exact ⟨⟨by omega,by omega,(Qat (z:=1) (fun _=> rfl) (by omega))⟩,⟨(Qbw q0),trivial⟩⟩
     by_cases q1:(8:Int) < ((↑(List.length (t.takes.getD i.toNat default)):Int))
     ·have s2:=Qdc (l:=t.takes) (p:=fun l=> decide (l.length<=8)) h0 q0;exact (GoE.endsT okF hJ Qac hg0 (Q0E B t i dJ0)
       ⟨(Qbw q1),hp1⟩).cast (by (rw [s2,decide_eq_false (by omega)];rfl))
     ·have s2:=Qdc (l:=t.takes) (p:=fun l=> decide (l.length<=8)) h0 q0;exact ((ih0 _ (by omega)).2 (i+1) rfl (by omega) (by with_reducible assumption)
       (hg0.landM okF hJ Qac (Qz5 B t i dJ0)
       ⟨(Qbj (by omega) (by omega)),⟨(Qby (Int.not_lt.1 q1)),hp1⟩⟩ (by kernel_rfl) (by kernel_rfl))).cast (by (rw [s2,decide_eq_true (by omega),Bool.true_and];done))
    ·have s2:=Qhp (l:=t.takes) (p:=fun l=> decide (l.length<=8)) (i:=i) (by omega);exact (GoE.endsT okF hJ Qac hg0 (Qzc B t i dJ0)
      ⟨(Qby (Int.not_lt.1 q0)),trivial⟩).cast (by (rw [s2];done))
set_option maxHeartbeats 4000000 in
theorem Q0Z (t:Qag)  (hfacts:t.starts.length<=9223372036854775807/\t.grows.length<=9223372036854775807/\t.takes.length<=9223372036854775807) {B:Lo} (hJ:∀w,B.has w->J0 w):EndsT YP B (Qaq YP 25 49 (([.agg #[slI t.starts,QcI t.grows,QcI t.takes]]).map (Qa6 0 4))) (.bool (sizedB t)):=by
 by_cases q0:(8:Int) < ((↑t.starts.length:Int))
 ·exact (GoE.endsT okF hJ Qac GoE.start (QyK B t)
   ⟨(Qbw q0),trivial⟩).cast (by (simp_all [sizedB];omega))
 ·have hp2:QaA (QjO B t):=by
   exact ⟨(Qby (Int.not_lt.1 q0)),trivial⟩
  by_cases q1:(8:Int) < ((↑t.grows.length:Int))
  ·exact (GoE.endsT okF hJ Qac GoE.start (Qzi B t)
    ⟨(Qbw q1),hp2⟩).cast (by (simp_all [sizedB];omega))
  ·have hp3:QaA (Ql7 B t):=by
    exact ⟨(Qby (Int.not_lt.1 q1)),hp2⟩
   by_cases q2:(8:Int) < ((↑t.takes.length:Int))
   ·exact (GoE.endsT okF hJ Qac GoE.start (QyS B t)
     ⟨(Qbw q2),hp3⟩).cast (by (simp_all [sizedB];omega))
   ·exact ((Q07 t hfacts hJ _).1 (0) rfl (by omega) (by omega)
     (GoE.start.landM okF hJ Qac (Q0k B t)
     ⟨(Qby (Int.not_lt.1 q2)),hp3⟩ (by kernel_rfl) (by kernel_rfl))).cast (by (simp_all [sizedB];omega))
theorem QrA (t:Qag)  :Qa3 YP J0 25 #[.agg #[slI t.starts,QcI t.grows,QcI t.takes]] (.bool (sizedB t)):=
 Qcy (ts:=[.agg #[slI t.starts,QcI t.grows,QcI t.takes]]) (t.starts.length<=9223372036854775807/\t.grows.length<=9223372036854775807/\t.takes.length<=9223372036854775807) (fun _ _ ht=> ⟨ht.ln2 (i:=0) (j:=0) rfl rfl,ht.ln2 (i:=0) (j:=1) rfl rfl,ht.ln2 (i:=0) (j:=2) rfl rfl⟩) Qco (c0:=Qaq YP 25 49 (([.agg #[slI t.starts,QcI t.grows,QcI t.takes]]).map (Qa6 0 4))) (by kernel_rfl) (by kernel_rfl) fun hfacts B hJ=> Q0Z t  hfacts hJ
end
end Go.Proofs.Ytncjjangllkokaa

namespace Go.Proofs.Ytncjjangllkokaa
open Go Go.CE Go.RowKit
def Qv7:Sh:=shS [.int,.int]
def Qyt:Sh:=shS [.int,.int,Qv7,.int,.int,Qv7,Qv7,.int,.int]
def QpH:Sh:=shS [.slice Qyt,.int,.int]
def QkF:Sh:=shS [.slice .int,.slice (.slice .int),.slice (.slice .int)]
theorem Qp6 {cs:List Value} (h:Qv7.ok cs):∃s:Span,cs=QaR s:=by
 obtain ⟨_,_,rfl,⟨a,_,rfl⟩,_,_,rfl,⟨b,_,rfl⟩,rfl⟩:=h;exact ⟨⟨a,b⟩,rfl⟩
theorem Qzv {cs:List Value} (h:Qyt.ok cs):∃s:Qaa,cs=Qad s:=by
 obtain ⟨_,_,rfl,⟨a,_,rfl⟩,_,_,rfl,⟨b,_,rfl⟩,_,_,rfl,h3,_,_,rfl,⟨d,_,rfl⟩,_,_,rfl,⟨e,_,rfl⟩,_,_,rfl,h6,_,_,rfl,h7,_,_,rfl,⟨g,_,rfl⟩,_,_,rfl,⟨w,_,rfl⟩,rfl⟩:=h;obtain ⟨x,rfl⟩:=Qp6 h3;obtain ⟨y,rfl⟩:=Qp6 h6;obtain ⟨z,rfl⟩:=Qp6 h7;exact ⟨⟨a,b,x.lo,x.hi,d,e,y.lo,y.hi,z.lo,z.hi,g,w⟩,rfl⟩
theorem Q2C {v:Value} (h:QpH.arg v):∃r:Qae,v=.agg (Qar r).toArray:=by
 obtain ⟨cs,rfl,h⟩:=h;obtain ⟨_,_,rfl,h1,_,_,rfl,⟨m,_,rfl⟩,_,_,rfl,⟨n,_,rfl⟩,rfl⟩:=h;obtain ⟨xs,rfl⟩:=Qjy (fun _=> Qzv) h1;exact ⟨⟨xs,m,n⟩,rfl⟩
theorem Qjs {cs:List Value} (h:Sh.ok (.slice .int) cs):∃xs:List Int,cs=Qbt xs:=Qjy (fun _=> Q4I) h
theorem Q1v {v:Value} (h:Sh.arg (.slice .int) v):∃xs:List Int,v=slI xs:=by
 obtain ⟨xs,hx⟩:=Qjs (show Sh.ok (.slice .int) [v] from h);exact ⟨xs,by simpa using hx⟩
theorem Qzk {v:Value} (h:QkF.arg v):∃t:Qag,v=.agg #[slI t.starts,QcI t.grows,QcI t.takes]:=by
 obtain ⟨cs,rfl,h⟩:=h;obtain ⟨_,_,rfl,h1,_,_,rfl,h2,_,_,rfl,h3,rfl⟩:=h;obtain ⟨xs,rfl⟩:=Qjs h1;obtain ⟨ys,rfl⟩:=Qjy (fun _=> Qjs) h2;obtain ⟨zs,rfl⟩:=Qjy (fun _=> Qjs) h3;exact ⟨⟨xs,ys,zs⟩,rfl⟩
end Go.Proofs.Ytncjjangllkokaa

namespace Go.Proofs.Ytncjjangllkokaa
open Go Go.CE Go.RowKit
theorem QtY {g h:Int->Int}:∀(k:Nat),(∀m:Int,0<=m->m < k->g m<=h m)->Qa4 0 k g<=Qa4 0 k h
 | 0,_=> by rw [QaB (by omega),QaB (by omega)];omega
 | k+1,H=> by
   have ih:=QtY k fun m h0 h1=> H m h0 (by omega)
   have h2:=H k (by omega) (by omega);rw [show ((k+1:Nat):Int)=(k:Int)+1 by omega,Qah (by omega),Qah (by omega)];omega
theorem QvU {g h:Int->Int}:∀(k:Nat),Qa4 0 k (fun m=> g m+h m)=Qa4 0 k g+Qa4 0 k h
 | 0=> by rw [QaB (by omega),QaB (by omega),QaB (by omega)];omega
 | k+1=> by
   have ih:=QvU (g:=g) (h:=h) k;rw [show ((k+1:Nat):Int)=(k:Int)+1 by omega,Qah (by omega),Qah (by omega),Qah (by omega)];omega
theorem Qhw:∀(k:Nat) {g:Int->Int},(∀m:Int,0<=m->m < k->g m=0)->Qa4 0 k g=0
 | 0,_,_=> QaB (by omega)
 | k+1,g,H=> by
   have ih:=Qhw k fun m h0 h1=> H m h0 (by omega)
   have h2:=H k (by omega) (by omega);rw [show ((k+1:Nat):Int)=(k:Int)+1 by omega,Qah (by omega)];omega
theorem QpK {g:Int->Int->Int} (k:Nat):∀(m:Nat),Qa4 0 m (fun i=> Qa4 0 k (fun s=> g i s))=Qa4 0 k (fun s=> Qa4 0 m (fun i=> g i s))
 | 0=> by
   rw [QaB (by omega)];exact (Qhw k fun s _ _=> QaB (by omega)).symm
 | m+1=> by
   have ih:=QpK (g:=g) k m;have e:(fun s=> Qa4 0 ((m+1:Nat):Int) (fun i=> g i s))=fun s=> Qa4 0 m (fun i=> g i s)+g m s:=by
    funext s;rw [show ((m+1:Nat):Int)=(m:Int)+1 by omega,Qah (by omega)]
   rw [e,QvU,<-ih,show ((m+1:Nat):Int)=(m:Int)+1 by omega,Qah (by omega)]
theorem Q3b {f:F4} {g:Int->Int} {n:Nat} (h:n<=4):(Q4B fun j=> if j < n then f.at j+g j else f.at j).sum=f.sum+Qa4 0 n g:=by
 have e:f.sum=f.at 0+f.at 1+f.at 2+f.at 3:=rfl;have:n=0\/n=1\/n=2\/n=3\/n=4:=by omega
 unfold Q4B;show (if (0:Int) < n then f.at 0+g 0 else f.at 0)+(if (1:Int) < n then f.at 1+g 1 else f.at 1)+(if (2:Int) < n then f.at 2+g 2 else f.at 2)+(if (3:Int) < n then f.at 3+g 3 else f.at 3)=_;rcases this with rfl | rfl | rfl | rfl | rfl
 ·have s:Qa4 0 ((0:Nat):Int) g=0:=QaB (by omega);simp only [s];simp;omega
 ·have s:Qa4 0 ((1:Nat):Int) g=g 0:=Qhh;simp only [s];simp;omega
 ·have s:Qa4 0 ((2:Nat):Int) g=g 0+g 1:=Qzs;simp only [s];simp;omega
 ·have s:Qa4 0 ((3:Nat):Int) g=g 0+g 1+g 2:=Qy0;simp only [s];simp;omega
 ·have s:Qa4 0 ((4:Nat):Int) g=g 0+g 1+g 2+g 3:=Q3q;simp only [s];simp;omega
theorem Qzh {g:Int->Int}:∀(k:Nat),Qa4 0 k (fun m=> - g m)= - Qa4 0 k g
 | 0=> by rw [QaB (by omega),QaB (by omega)];rfl
 | k+1=> by
   have ih:=Qzh (g:=g) k;rw [show ((k+1:Nat):Int)=(k:Int)+1 by omega,Qah (by omega),Qah (by omega)];omega
theorem Q4W {gs:List Int} {ps:List Qaa} {f:F4} (h4:ps.length<=4):(grE gs ps f).sum=f.sum+Qa4 0 ps.length (QbL gs ps f):=Q3b h4
theorem Q5a {ts:List Int} {ps:List Qaa} {b:F4} (h4:ps.length<=4):(tkE ts ps b).sum=b.sum - Qa4 0 ps.length (Qbv ts b):=by
 have h:=Q3b (f:=b) (g:=fun j=> - Qbv ts b j) h4;rw [Qzh] at h;exact h
theorem Q1D {gs ts:List Int} {ps:List Qaa} {f:F4} (hp:Qje ps):(Qa0 gs ts ps f).sum=f.sum+Qa4 0 ps.length (QbL gs ps f) - Qa4 0 ps.length (QbO ps (grE gs ps f)) - Qa4 0 ps.length (Qbv ts (drE ps (grE gs ps f))):=by
 have a:=Q4W (gs:=gs) (f:=f) hp.1;have b:(drE ps (grE gs ps f)).sum=_:=QsV (b:=grE gs ps f) hp ps.length (Nat.le_refl _);have c:=Q5a (ts:=ts) (b:=drE ps (grE gs ps f)) hp.1;show (tkE ts ps (drE ps (grE gs ps f))).sum=_;omega
theorem Q3m {ps:List Qaa} {gs ts:List (List Int)} {f:F4} (hp:Qje ps):∀k:Nat,(stF ps gs ts f k).sum=f.sum+Qa4 0 k (Qba ps gs ts f) - Qa4 0 k (Qbe ps gs ts f) - Qa4 0 k (QaS ps gs ts f)
 | 0=> by
   rw [QaB (by omega),QaB (by omega),QaB (by omega)];show f.sum=_;omega
 | k+1=> by
   have ih:=Q3m (gs:=gs) (ts:=ts) (f:=f) hp k;have h:=Q1D (gs:=gs.getD k default) (ts:=ts.getD k default) (f:=stF ps gs ts f k) hp;have e1:Qba ps gs ts f (k:Int)=Qa4 0 ps.length (QbL (gs.getD k default) ps (stF ps gs ts f k)):=rfl;have e2:Qbe ps gs ts f (k:Int)=Qa4 0 ps.length (QbO ps (grE (gs.getD k default) ps (stF ps gs ts f k))):=rfl;have e3:QaS ps gs ts f (k:Int)=Qa4 0 ps.length (Qbv (ts.getD k default) (drE ps (grE (gs.getD k default) ps (stF ps gs ts f k)))):=rfl;rw [show ((k+1:Nat):Int)=(k:Int)+1 by omega,Qah (by omega),Qah (by omega),Qah (by omega),e1,e2,e3];show (Qa0 (gs.getD k default) (ts.getD k default) ps (stF ps gs ts f k)).sum=_;omega
def Qbu (ts:List (List Int)) (n:Int) (k:Int):Int:=Qa4 0 n fun s=> nth (ts.getD s.toNat default) k
def Q3t (ps:List Qaa) (i:Int):Bool:=(upI 0 i).any fun k=> decide ((plc ps k).into < 0) && decide (0 < (plc ps k).drift)
theorem QaT {ps:List Qaa} {i:Int} (h:0<=i):Q3t ps (i+1)=(Q3t ps i || (decide ((plc ps i).into < 0) && decide (0 < (plc ps i).drift))):=by
 unfold Q3t;rw [Q1e h,List.any_append];simp
theorem Q2a {ps:List Qaa} {gs ts:List (List Int)} {f:F4} {n:Nat} (hp:Qje ps) (h:Q3t ps ps.length=false):Qa4 0 n (Qbe ps gs ts f)=0:=by
 refine Qhw n fun m _ _=> Qhw ps.length fun k k0 k1=> ?_
 unfold Q3t at h;rw [List.any_eq_false] at h;have hk:=h k (by unfold upI;exact List.mem_map.2 ⟨k.toNat,List.mem_range.2 (by omega),by omega⟩);simp only [YB,decide_eq_true_iff,not_and] at hk;unfold QbO;split
 ·rename_i e;have h2:=(hp.2 k k0 k1).2.1;have:(plc ps k).drift=0:=by have:=hk (by omega);omega
  unfold Qfc;rw [this,Int.mul_zero];rfl
 ·rfl
section
variable {ps:List Qaa} {n:Int} {gs ts:List (List Int)} {f:F4}
theorem OkT.want (h:OkT ps n gs ts f) {k:Int} (h0:0<=k) (h1:k < ps.length) {i:Int} (i0:0<=i) (i1:i<=n):0<=Qbu ts i k/\Qbu ts i k<=4000000:=by
 have h4:=h.s4;have:=Qc6 (g:=fun s=> nth (ts.getD s.toNat default) k) (K:=1000000) i.toNat fun m m0 m1=> (h.rt m.toNat (by omega)).2 k h0 h1
 rw [show ((i.toNat:Nat):Int)=i by omega] at this;unfold Qbu;omega
theorem OkT.wants (h:OkT ps n gs ts f) {i:Int} (i0:0<=i) (i1:i<=ps.length):0<=Qa4 0 i (Qbu ts n)/\Qa4 0 i (Qbu ts n)<=16000000:=by
 have h4:=h.hp.1;have h9:=h.s0;have:=Qc6 (g:=Qbu ts n) (K:=4000000) i.toNat fun m m0 m1=> h.want m0 (by omega) (by omega) (Int.le_refl _)
 rw [show ((i.toNat:Nat):Int)=i by omega] at this;omega
theorem OkT.taken_want (h:OkT ps n gs ts f):Qa4 0 n (QaS ps gs ts f)<=Qa4 0 ps.length (Qbu ts n):=by
 have h9:=h.s0;obtain ⟨m,rfl⟩:∃m:Nat,n=m:=⟨n.toNat,by omega⟩
 have e:=QpK (g:=fun i s=> nth (ts.getD s.toNat default) i) m ps.length;show _<=Qa4 0 ps.length (fun i=> Qa4 0 m fun s=> nth (ts.getD s.toNat default) i);rw [e];refine QtY m fun s s0 s1=> ?_
 unfold QaS;refine QtY ps.length fun k k0 k1=> ?_
 unfold Qbv;split <;> omega
theorem QhD {k:Int} (k0:0<=k) (k1:k < n):(Qa9 n ps gs ts f).getD k.toNat default=Q0O ps gs ts f k:=by
 unfold Qa9;exact Qch k0 k1
theorem Qtm {k i:Int} (h4:ps.length<=4) (i0:0<=i) (i1:i < ps.length):(Q0O ps gs ts f k).getD i.toNat default=(stF ps gs ts f (k.toNat+1)).at i:=by
 unfold Q0O;rw [<-Q3N h4];exact Qch i0 i1
theorem OkT.row (h:OkT ps n gs ts f) {k i:Int} (k0:0<=k) (k1:k < n) (i0:0<=i) (i1:i < ps.length):0<=nth ((Qa9 n ps gs ts f).getD k.toNat default) i/\nth ((Qa9 n ps gs ts f).getD k.toNat default) i<=1000000000+16000000:=by
 have h4:=h.s4;have hp4:=h.hp.1;have hs:=h.st (k.toNat+1) (by omega);have ha:=Qge hs.1 i0 (by omega);have h9:=h.hs;rw [QhD k0 k1];unfold nth;rw [Qtm hp4 i0 i1];have:=hs.2;omega
end
theorem Qa7 {rf:Qae} {plan:List Int} {t:Qag} (hr:Qav rf=true) (ht:Qa5 rf plan t=true):(Qab t.starts).sum<=16000000:=by
 have hs:=Qau (Qal hr).1;obtain ⟨h1,h2,h3,h4⟩:=QkD ht;obtain ⟨s1,s2⟩:=Qht h1;rw [List.length_map] at s1;have st:∀k:Int,0<=k->k < 4->nth t.starts k<=4000000:=fun k k0 k1=> by
  by_cases hk:k < rf.places.length
  ·have hp:=QbW ((Qal hr).2 k k0 hk).1;have:=s2 k k0 (by omega);rw [QbE k0 hk] at this;have hm:=QiA (a:=(rf.places.getD k.toNat default).count) (r:=rf.miss) (by omega) (by omega);have hm2:(rf.places.getD k.toNat default).count * rf.miss<=1000000 * 2000:=Int.mul_le_mul hp.1.2 hs.2.1.2 hs.2.1.1 (by omega);have e2:((rf.places.getD k.toNat default).count * rf.miss).tdiv 1000=((rf.places.getD k.toNat default).count * rf.miss) / 1000:=Int.tdiv_eq_ediv_of_nonneg hm.1;simp only [Qbg,Qjr] at this;unfold nth;omega
  ·unfold nth;rw [List.getD_eq_getElem?_getD,List.getElem?_eq_none (by omega)];show (0:Int)<=4000000;omega
 have a0:=st 0 (by omega) (by omega);have a1:=st 1 (by omega) (by omega);have a2:=st 2 (by omega) (by omega);have a3:=st 3 (by omega) (by omega);have es:(Qab t.starts).sum=nth t.starts 0+nth t.starts 1+nth t.starts 2+nth t.starts 3:=rfl;omega
theorem OkT.shape {ps:List Qaa} {n:Int} {gs ts:List (List Int)} {f:F4} (h:OkT ps n gs ts f) (hf:f.sum<=16000000):(Qa9 n ps gs ts f).length=n/\∀s:Int,0<=s->s < n->((Qa9 n ps gs ts f).getD s.toNat default).length=ps.length/\∀i:Int,0<=i->i < ps.length->0<=((Qa9 n ps gs ts f).getD s.toNat default).getD i.toNat default/\((Qa9 n ps gs ts f).getD s.toNat default).getD i.toNat default<=32000000:=by
 have h9:=h.s0;have h4:=h.s4;refine ⟨by unfold Qa9;rw [Qcb];omega,fun s s0 s1=> ?_⟩;rw [QhD s0 s1];refine ⟨Qvw h.hp.1,fun i i0 i1=> ?_⟩;have hp4:=h.hp.1;have hs:=h.st (s.toNat+1) (by omega);have ha:=Qge hs.1 i0 (by omega);rw [Qtm hp4 i0 i1];have:=hs.2;omega
theorem OkT.left {ps:List Qaa} {n:Int} {gs ts:List (List Int)} {l:List Int} (h:OkT ps n gs ts (Qab l)) (hl:l.length=ps.length):Qa4 0 ps.length (nth ((Qa9 n ps gs ts (Qab l)).getD (n - 1).toNat default))=(stF ps gs ts (Qab l) n.toNat).sum:=by
 have h9:=h.s0;have h1:=h.n0;have hp4:=h.hp.1;have hz:zB ps.length (Qab l):=by rw [<-hl];exact Qv5
 rw [<-Q3s (Q60 h.hp hz n.toNat) h1 hp4,QhD (by omega) (by omega)];unfold Qa4;congr 1;refine List.map_congr_left fun k hk=> ?_
 unfold upI at hk;obtain ⟨m,hm,rfl⟩:=List.mem_map.1 hk;have:=List.mem_range.1 hm;unfold nth;rw [Qtm hp4 (by omega) (by omega),show (n - 1).toNat+1=n.toNat by omega]
def Qbm (m:Nat) (n:Int) (l:List (List Int)):Prop:=l.length=n/\∀s:Int,0<=s->s < n->(l.getD s.toNat default).length=m/\∀i:Int,0<=i->i < m->0<=(l.getD s.toNat default).getD i.toNat default/\(l.getD s.toNat default).getD i.toNat default<=32000000
theorem Q0f {rf:Qae} {l:List (List Int)} (h:Qbm rf.places.length rf.seasons l) {s i:Int} (s0:0<=s) (s1:s < rf.seasons) (i0:0<=i) (i1:i<=rf.places.length) (h4:rf.places.length<=4):0<=Qa4 0 i (nth (l.getD s.toNat default))/\Qa4 0 i (nth (l.getD s.toNat default))<=128000000:=by
 have:=Qc6 (g:=nth (l.getD s.toNat default)) (K:=32000000) i.toNat fun m m0 m1=> (h.2 s s0 s1).2 m m0 (by omega)
 rw [show ((i.toNat:Nat):Int)=i by omega] at this;omega
theorem QaN {rf:Qae} {plan:List Int} {t:Qag} (hr:Qav rf=true) (ht:Qa5 rf plan t=true):(Qa4 0 rf.places.length (nth t.starts)=(Qab t.starts).sum/\Qa4 0 rf.places.length (nth ((Qa9 rf.seasons rf.places t.grows t.takes (Qab t.starts)).getD (rf.seasons - 1).toNat default))=(stF rf.places t.grows t.takes (Qab t.starts) rf.seasons.toNat).sum/\Qa4 0 rf.seasons (QaS rf.places t.grows t.takes (Qab t.starts))<=Qa4 0 rf.places.length (Qbu t.takes rf.seasons))/\(stF rf.places t.grows t.takes (Qab t.starts) rf.seasons.toNat).sum=(Qab t.starts).sum+Qa4 0 rf.seasons (Qba rf.places t.grows t.takes (Qab t.starts)) - Qa4 0 rf.seasons (Qbe rf.places t.grows t.takes (Qab t.starts)) - Qa4 0 rf.seasons (QaS rf.places t.grows t.takes (Qab t.starts))/\0<=(stF rf.places t.grows t.takes (Qab t.starts) rf.seasons.toNat).sum/\((0<=Qa4 0 rf.seasons (Qba rf.places t.grows t.takes (Qab t.starts))/\Qa4 0 rf.seasons (Qba rf.places t.grows t.takes (Qab t.starts))<=16000000)/\(0<=Qa4 0 rf.seasons (QaS rf.places t.grows t.takes (Qab t.starts))/\Qa4 0 rf.seasons (QaS rf.places t.grows t.takes (Qab t.starts))<=16000000)/\(0<=Qa4 0 rf.seasons (Qbe rf.places t.grows t.takes (Qab t.starts))/\Qa4 0 rf.seasons (Qbe rf.places t.grows t.takes (Qab t.starts))<=1600000000000)):=by
 obtain ⟨h,hl⟩:=Qbo hr ht;have h9:=h.s0;have hn:((rf.seasons.toNat:Nat):Int)=rf.seasons:=by omega
 refine ⟨⟨?_,h.left hl,h.taken_want⟩, ?_, ?_,h.sums (by omega) (Int.le_refl _)⟩
 ·have:=Qyx h hl;rwa [hl] at this
 ·have:=Q3m (gs:=t.grows) (ts:=t.takes) (f:=Qab t.starts) h.hp rf.seasons.toNat;rwa [hn] at this
 ·have:=(h.st rf.seasons.toNat (by omega)).1.1;show 0<=_+_+_+_;omega
theorem Qcl {rf:Qae} {t:Qag} {ob:Bool} {i:Int} (h:OkT rf.places rf.seasons t.grows t.takes (Qab t.starts)) (e:ob=Q3t rf.places i) (en:i=rf.places.length) (ho:ob=false):Qa4 0 rf.seasons (Qbe rf.places t.grows t.takes (Qab t.starts))=0:=by
 have h9:=h.s0;have:=Q2a (n:=rf.seasons.toNat) (gs:=t.grows) (ts:=t.takes) (f:=Qab t.starts) h.hp (by rw [<-en,<-e,ho]);rwa [show ((rf.seasons.toNat:Nat):Int)=rf.seasons by omega] at this
end Go.Proofs.Ytncjjangllkokaa
