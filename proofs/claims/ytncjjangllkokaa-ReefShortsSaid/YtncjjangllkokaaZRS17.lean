/- Reef: truths. -/
import Derived.Test.YtncjjangllkokaaZRS16
import Derived.Test.YtncjjangllkokaaZRS07
import Derived.Test.YtncjjangllkokaaZRS11
import Derived.Test.YtncjjangllkokaaZRS10
set_option linter.all false
open List renaming getD_eq_getElem?_getD->Lu,getElem?_eq_none->LL,range->Ln,set->Lj,replicate->Lm,length->Li,length_set->LS,length_replicate->LR,getD->Lg,getElem?_toArray->LX,length_append->Ly,length_cons->LB,length_nil->LK,range'->LD,mem_cons_of_mem->Lw
open Int renaming le_refl->LW,toNat->Lf,tdiv_eq_ediv_of_nonneg->Ma
open Nat renaming ble->LO,blt->Ls,beq->Lk,strongRecOn->LQ,min->LU,le_refl->LC,zero_add->LF,lt_of_lt_of_eq->LY
open Array renaming eq_empty_of_size_eq_zero->LN,size->L4,extract->Lz
open Inhabited renaming default->Le
namespace Go.Proofs.Ytncjjangllkokaa
open Go Go.CE Go.RowKit
set_option maxRecDepth 100000
end Go.Proofs.Ytncjjangllkokaa

namespace Go.Proofs.Ytncjjangllkokaa
open Go Go.CE Go.RowKit
set_option maxRecDepth 100000
theorem Hd{n:Nat}(h:n<=4):((Vd n:Nat):Int)<=16:=by
 unfold Vd;have:n=0\/n=1\/n=2\/n=3\/n=4:=by omega
 rcases this with rfl|rfl|rfl|rfl|rfl <;> decide
theorem XS{rf:Qg}{Qb:List Int}(hr:Zq rf=true)(hp:XN rf Qb=true)(j:Nat):0<=Qb.getD j 0/\Qb.getD j 0<=15:=by
 have h:=(Xy hp).2;have h4:=Hd (n:=rf.Qa.length) (by have:=QG (Qz hr).1;omega);by_cases hj:j<Qb.length
 ·have e:Qb.getD j 0=Qb[j]:=by simp[Lu,hj]
  have:=h Qb[j] (List.getElem_mem hj);rw[e];omega
 ·rw[Lu,LL (by omega)];exact⟨LW _,by decide⟩
theorem Cw{rf:Qg}(hr:Zq rf=true):J3 rf.Qa:=by
 have hs:=QG (Qz hr).1;refine⟨by omega,fun k h0 h1=> ?_⟩;have h:=(Qz hr).2 k h0 h1;have hp:=Xc h.1;exact⟨hp.2.1,hp.2.2.2.2.2.1,h.2.1,h.2.2⟩
theorem eP{ps:List Qc}{p k:Int}(h0:0<=k)(h:k<ps.length):(Zh ps p).getD k.toNat Le=U8 p k (ps.getD k.toNat Le):=X4 h0 h
theorem Kc{ps:List Qc}{p:Int}:(Zh ps p).length=ps.length:=by rw[Zh,Xk];omega
theorem mS{rf:Qg}(hr:Zq rf=true){p k:Int}(h0:0<=k)(h:k<rf.Qa.length):0<=(U8 p k (rf.Qa.getD k.toNat Le)).lo/\(U8 p k (rf.Qa.getD k.toNat Le)).lo<=(U8 p k (rf.Qa.getD k.toNat Le)).hi/\(U8 p k (rf.Qa.getD k.toNat Le)).hi<=1000000:=by
 have hp:=Xc ((Qz hr).2 k h0 h).1;unfold U8;split
 ·exact hp.2.2.2.2.2.2.2.1
 ·exact hp.2.2.2.2.2.2.1
end Go.Proofs.Ytncjjangllkokaa

namespace Go.Proofs.Ytncjjangllkokaa
open Go Go.CE Go.RowKit
def Qw(n:Int):Value:=.int .i64 n
def Xp(g:FuncId):Bool:=LO 3 g && (Ls g 116 && !([]:List Nat).any (Lk g))
theorem QL:∀g,Xp g=true->QE YP g=true:=by
 have h:(Ln 116).all (fun g=> !(Xp g) || QE YP g)=true:=by decide+kernel
 intro g hg;have hg':=hg;simp only[Xp,YB]at hg;have h1:g<116:=YL hg.2.1;have:=List.all_eq_true.1 h g (List.mem_range.2 h1);rw[hg']at this;simpa using this
def Uf:Obj:=.cells #[Qw 1000,Qw 2000,Qw 200,Qw 300,Qw 100,Qw 1,Qw 200,Qw 300,Qw 0,Qw 50,Qw 900,Qw 10,Qw 500,Qw 800,Qw 100,Qw 200,Qw 0,Qw (-1),Qw 100,Qw 200,Qw 0,Qw 20,Qw 450,Qw 6] 54 (0,0)
def ov:Obj:=.cells #[.slice (some ⟨2104,0,none⟩) 2 12,Qw 200,Qw 2,Qw 1,Qw 1,Qw 0,Qw 0] 84 (0,0)
def Ld:Obj:=.cells #[Qw 1000,Qw 2000,Qw 200,Qw 300,Qw 100,Qw 1,Qw 200,Qw 300,Qw 0,Qw 50,Qw 900,Qw 10,Qw 500,Qw 800,Qw 100,Qw 200,Qw 0,Qw (-1),Qw 100,Qw 122,Qw 0,Qw 20,Qw 450,Qw 6] 54 (0,0)
def Lc:Obj:=.cells #[Qw 1000,Qw 2000,Qw 200,Qw 300,Qw 100,Qw 1,Qw 200,Qw 300,Qw 0,Qw 50,Qw 900,Qw 10,Qw 500,Qw 800,Qw 100,Qw 200,Qw 0,Qw (-1),Qw 100,Qw 183,Qw 0,Qw 20,Qw 450,Qw 6] 54 (0,0)
def Lb:Obj:=.cells #[Qw 1000,Qw 2000,Qw 200,Qw 300,Qw 100,Qw 1,Qw 200,Qw 300,Qw 0,Qw 50,Qw 900,Qw 10,Qw 500,Qw 800,Qw 100,Qw 200,Qw 0,Qw (-1),Qw 100,Qw 199,Qw 0,Qw 20,Qw 450,Qw 6] 54 (0,0)
def La:Obj:=.cells #[Qw 1000,Qw 2000,Qw 200,Qw 300,Qw 100,Qw 1,Qw 200,Qw 300,Qw 0,Qw 50,Qw 900,Qw 10,Qw 500,Qw 800,Qw 100,Qw 200,Qw 0,Qw (-1),Qw 100,Qw 191,Qw 0,Qw 20,Qw 450,Qw 6] 54 (0,0)
def IZ:Obj:=.cells #[Qw 1000,Qw 2000,Qw 200,Qw 300,Qw 100,Qw 1,Qw 200,Qw 300,Qw 0,Qw 50,Qw 900,Qw 10,Qw 500,Qw 800,Qw 100,Qw 200,Qw 0,Qw (-1),Qw 100,Qw 195,Qw 0,Qw 20,Qw 450,Qw 6] 54 (0,0)
def IY:Obj:=.cells #[Qw 1000,Qw 2000,Qw 200,Qw 300,Qw 100,Qw 1,Qw 200,Qw 300,Qw 0,Qw 50,Qw 900,Qw 10,Qw 500,Qw 800,Qw 100,Qw 200,Qw 0,Qw (-1),Qw 100,Qw 197,Qw 0,Qw 20,Qw 450,Qw 6] 54 (0,0)
def IX:Obj:=.cells #[Qw 1000,Qw 2000,Qw 200,Qw 300,Qw 100,Qw 1,Qw 200,Qw 300,Qw 0,Qw 50,Qw 900,Qw 10,Qw 500,Qw 800,Qw 100,Qw 200,Qw 0,Qw (-1),Qw 100,Qw 196,Qw 0,Qw 20,Qw 450,Qw 6] 54 (0,0)
end Go.Proofs.Ytncjjangllkokaa

namespace Go.Proofs.Ytncjjangllkokaa
open Go Go.CE Go.RowKit
def wL:Memo:=
 ⟨26,#[.agg #[.slice (some ⟨7,0,none⟩) 2 12,Qw 200,Qw 2],.slice (some ⟨8,0,none⟩) 2 1,.agg #[.slice (some ⟨9,0,none⟩) 2 1,.slice (some ⟨12,0,none⟩) 2 1,.slice (some ⟨15,0,none⟩) 2 1]],[(9,.cells #[Qw 1100,Qw 550] 3 (0,0)),(12,.cells #[.slice (some ⟨10,0,none⟩) 2 1,.slice (some ⟨11,0,none⟩) 2 1] 25 (0,0)),(10,.cells #[Qw 250,Qw 150] 3 (0,0)),(15,.cells #[.slice (some ⟨13,0,none⟩) 2 1,.slice (some ⟨14,0,none⟩) 2 1] 25 (0,0)),(13,.cells #[Qw 250,Qw 150] 3 (0,0)),(11,.cells #[Qw 200,Qw 100] 3 (0,0)),(14,.cells #[Qw 200,Qw 100] 3 (0,0)),(8,.cells #[Qw 0,Qw 0] 3 (0,0)),(7,Uf)],16,.tuple #[.slice (some ⟨107,0,none⟩) 2 1,.agg #[Qw 1650,Qw 615,Qw 700,Qw 0,Qw 1565],Qw 0],[(121,.cells #[Qw 867,Qw 698] 3 (0,0)),(114,.cells #[Qw 988,Qw 619] 3 (0,0)),(107,.cells #[.slice (some ⟨114,0,none⟩) 2 1,.slice (some ⟨121,0,none⟩) 2 1] 25 (0,0))],123⟩
theorem zT:QX wL (wL.run YP Xp X5 100000)=true:=by decide+kernel
def pL:Memo:=
 ⟨18,#[.agg #[.slice (some ⟨131,0,none⟩) 2 12,Qw 200,Qw 2],.slice (some ⟨132,0,none⟩) 2 1],[(132,.cells #[Qw 0,Qw 0] 3 (0,0)),(131,Uf)],133,.tuple #[.slice (some ⟨191,0,none⟩) 2 1,Qw 0],[(375,.cells #[Qw 543,Qw 1209,Qw 410,Qw 856] 38 (0,0)),(283,.cells #[Qw 780,Qw 1204,Qw 470,Qw 776] 38 (0,0)),(191,.cells #[.slice (some ⟨283,0,none⟩) 2 2,.slice (some ⟨375,0,none⟩) 2 2] 36 (0,0))],376⟩
theorem wM:QX pL (pL.run YP Xp X5 100000)=true:=by decide+kernel
def pI:Memo:=
 ⟨88,#[.slice (some ⟨383,0,none⟩) 2 12,.agg #[Qw 1063,Qw 440,Qw 0,Qw 0]],[(383,Uf)],539,.tuple #[.agg #[Qw 1,Qw 10],.bool true],[],544⟩
theorem wI:QX pI (pI.drun YP Xp X5 100000)=true:=by decide+kernel
def pD:Memo:=
 ⟨98,#[.agg #[.slice (some ⟨552,0,none⟩) 2 12,Qw 200,Qw 2,Qw 3,Qw 3,Qw 0,Qw 0],.agg #[Qw 1000,Qw 500,Qw 0,Qw 0],Qw 0,.func (.func 76) #[] #[],.func (.func 77) #[] #[]],[(552,Uf)],622,.agg #[Qw 1030,Qw 650,Qw 0,Qw 0],[],663⟩
theorem wD:QX pD (pD.run YP Xp X5 100000)=true:=by decide+kernel
def pC:Memo:=
 ⟨98,#[.agg #[.slice (some ⟨552,0,none⟩) 2 12,Qw 200,Qw 2,Qw 3,Qw 3,Qw 0,Qw 0],.agg #[Qw 1030,Qw 650,Qw 0,Qw 0],Qw 1,.func (.func 76) #[] #[],.func (.func 77) #[] #[]],[(552,Uf)],666,.agg #[Qw 1063,Qw 818,Qw 0,Qw 0],[],707⟩
theorem wC:QX pC (pC.run YP Xp X5 100000)=true:=by decide+kernel
def pH:Memo:=
 ⟨88,#[.slice (some ⟨552,0,none⟩) 2 12,.agg #[Qw 1063,Qw 818,Qw 0,Qw 0]],[(552,Uf)],707,.tuple #[.agg #[Qw 0,Qw 0],.bool false],[],712⟩
theorem wH:QX pH (pH.drun YP Xp X5 100000)=true:=by decide+kernel
def pB:Memo:=
 ⟨98,#[.agg #[.slice (some ⟨552,0,none⟩) 2 12,Qw 200,Qw 2,Qw 0,Qw 0,Qw 0,Qw 0],.agg #[Qw 1000,Qw 500,Qw 0,Qw 0],Qw 0,.func (.func 76) #[] #[],.func (.func 77) #[] #[]],[(552,Uf)],760,.agg #[Qw 780,Qw 470,Qw 0,Qw 0],[],801⟩
theorem wB:QX pB (pB.run YP Xp X5 100000)=true:=by decide+kernel
def p9:Memo:=
 ⟨98,#[.agg #[.slice (some ⟨552,0,none⟩) 2 12,Qw 200,Qw 2,Qw 0,Qw 0,Qw 0,Qw 0],.agg #[Qw 780,Qw 470,Qw 0,Qw 0],Qw 1,.func (.func 76) #[] #[],.func (.func 77) #[] #[]],[(552,Uf)],804,.agg #[Qw 543,Qw 410,Qw 0,Qw 0],[],845⟩
theorem wA:QX p9 (p9.run YP Xp X5 100000)=true:=by decide+kernel
def pG:Memo:=
 ⟨88,#[.slice (some ⟨552,0,none⟩) 2 12,.agg #[Qw 543,Qw 410,Qw 0,Qw 0]],[(552,Uf)],845,.tuple #[.agg #[Qw 0,Qw 357],.bool true],[],849⟩
theorem wG:QX pG (pG.drun YP Xp X5 100000)=true:=by decide+kernel
def p8:Memo:=
 ⟨98,#[.agg #[.slice (some ⟨552,0,none⟩) 2 12,Qw 200,Qw 2,Qw 0,Qw 1,Qw 0,Qw 0],.agg #[Qw 780,Qw 470,Qw 0,Qw 0],Qw 1,.func (.func 76) #[] #[],.func (.func 77) #[] #[]],[(552,Uf)],876,.agg #[Qw 793,Qw 410,Qw 0,Qw 0],[],917⟩
theorem w9:QX p8 (p8.run YP Xp X5 100000)=true:=by decide+kernel
def pF:Memo:=
 ⟨88,#[.slice (some ⟨552,0,none⟩) 2 12,.agg #[Qw 793,Qw 410,Qw 0,Qw 0]],[(552,Uf)],917,.tuple #[.agg #[Qw 0,Qw 107],.bool true],[],921⟩
theorem wF:QX pF (pF.drun YP Xp X5 100000)=true:=by decide+kernel
def pz:Memo:=
 ⟨98,#[.agg #[.slice (some ⟨552,0,none⟩) 2 12,Qw 200,Qw 2,Qw 0,Qw 2,Qw 0,Qw 0],.agg #[Qw 780,Qw 470,Qw 0,Qw 0],Qw 1,.func (.func 76) #[] #[],.func (.func 77) #[] #[]],[(552,Uf)],948,.agg #[Qw 543,Qw 590,Qw 0,Qw 0],[],989⟩
theorem w8:QX pz (pz.run YP Xp X5 100000)=true:=by decide+kernel
def pE:Memo:=
 ⟨88,#[.slice (some ⟨552,0,none⟩) 2 12,.agg #[Qw 543,Qw 590,Qw 0,Qw 0]],[(552,Uf)],989,.tuple #[.agg #[Qw 0,Qw 357],.bool true],[],993⟩
theorem wE:QX pE (pE.drun YP Xp X5 100000)=true:=by decide+kernel
def k8:Memo:=
 ⟨98,#[.agg #[.slice (some ⟨552,0,none⟩) 2 12,Qw 200,Qw 2,Qw 0,Qw 3,Qw 0,Qw 0],.agg #[Qw 780,Qw 470,Qw 0,Qw 0],Qw 1,.func (.func 76) #[] #[],.func (.func 77) #[] #[]],[(552,Uf)],1020,.agg #[Qw 793,Qw 590,Qw 0,Qw 0],[],1061⟩
theorem sZ:QX k8 (k8.run YP Xp X5 100000)=true:=by decide+kernel
end Go.Proofs.Ytncjjangllkokaa

namespace Go.Proofs.Ytncjjangllkokaa
open Go Go.CE Go.RowKit
noncomputable def fD:Vn:=XZ [pI]
theorem jT(B:Lo):WK YP B fD:=Xe QL Qh (QR _ _) wI (Zo _ _)
def pK:Memo:=
 ⟨35,#[.agg #[.slice (some ⟨383,0,none⟩) 2 12,Qw 200,Qw 2],.slice (some ⟨384,0,none⟩) 2 1],[(384,.cells #[Qw 1,Qw 1] 3 (0,0)),(383,Uf)],385,.tuple #[Qw 1,Qw 10,Qw 0],[],545⟩
theorem wK:QX pK (pK.run YP Xp fD 100000)=true:=by decide+kernel
end Go.Proofs.Ytncjjangllkokaa

namespace Go.Proofs.Ytncjjangllkokaa
open Go Go.CE Go.RowKit
def lH:Memo:=
 ⟨88,#[.slice (some ⟨552,0,none⟩) 2 12,.agg #[Qw 793,Qw 590,Qw 0,Qw 0]],[(552,Uf)],1061,.tuple #[.agg #[Qw 0,Qw 107],.bool true],[],1065⟩
theorem ui:QX lH (lH.drun YP Xp X5 100000)=true:=by decide+kernel
def kz:Memo:=
 ⟨98,#[.agg #[.slice (some ⟨552,0,none⟩) 2 12,Qw 200,Qw 2,Qw 1,Qw 0,Qw 0,Qw 0],.agg #[Qw 1000,Qw 500,Qw 0,Qw 0],Qw 0,.func (.func 76) #[] #[],.func (.func 77) #[] #[]],[(552,Uf)],1112,.agg #[Qw 1030,Qw 470,Qw 0,Qw 0],[],1153⟩
theorem sY:QX kz (kz.run YP Xp X5 100000)=true:=by decide+kernel
def ky:Memo:=
 ⟨98,#[.agg #[.slice (some ⟨552,0,none⟩) 2 12,Qw 200,Qw 2,Qw 1,Qw 0,Qw 0,Qw 0],.agg #[Qw 1030,Qw 470,Qw 0,Qw 0],Qw 1,.func (.func 76) #[] #[],.func (.func 77) #[] #[]],[(552,Uf)],1156,.agg #[Qw 813,Qw 440,Qw 0,Qw 0],[],1197⟩
theorem sX:QX ky (ky.run YP Xp X5 100000)=true:=by decide+kernel
def lG:Memo:=
 ⟨88,#[.slice (some ⟨552,0,none⟩) 2 12,.agg #[Qw 813,Qw 440,Qw 0,Qw 0]],[(552,Uf)],1197,.tuple #[.agg #[Qw 0,Qw 87],.bool true],[],1201⟩
theorem uh:QX lG (lG.drun YP Xp X5 100000)=true:=by decide+kernel
def kx:Memo:=
 ⟨98,#[.agg #[.slice (some ⟨552,0,none⟩) 2 12,Qw 200,Qw 2,Qw 1,Qw 1,Qw 0,Qw 0],.agg #[Qw 1030,Qw 470,Qw 0,Qw 0],Qw 1,.func (.func 76) #[] #[],.func (.func 77) #[] #[]],[(552,Uf)],1228,.agg #[Qw 1063,Qw 440,Qw 0,Qw 0],[],1269⟩
theorem sW:QX kx (kx.run YP Xp X5 100000)=true:=by decide+kernel
def lF:Memo:=
 ⟨88,#[.slice (some ⟨552,0,none⟩) 2 12,.agg #[Qw 1063,Qw 440,Qw 0,Qw 0]],[(552,Uf)],1269,.tuple #[.agg #[Qw 1,Qw 10],.bool true],[],1274⟩
theorem ug:QX lF (lF.drun YP Xp X5 100000)=true:=by decide+kernel
def ku:Memo:=
 ⟨98,#[.agg #[.slice (some ⟨552,0,none⟩) 2 12,Qw 200,Qw 2,Qw 1,Qw 2,Qw 0,Qw 0],.agg #[Qw 1030,Qw 470,Qw 0,Qw 0],Qw 1,.func (.func 76) #[] #[],.func (.func 77) #[] #[]],[(552,Uf)],1301,.agg #[Qw 813,Qw 620,Qw 0,Qw 0],[],1342⟩
theorem sU:QX ku (ku.run YP Xp X5 100000)=true:=by decide+kernel
def lE:Memo:=
 ⟨88,#[.slice (some ⟨552,0,none⟩) 2 12,.agg #[Qw 813,Qw 620,Qw 0,Qw 0]],[(552,Uf)],1342,.tuple #[.agg #[Qw 0,Qw 87],.bool true],[],1346⟩
theorem uf:QX lE (lE.drun YP Xp X5 100000)=true:=by decide+kernel
def kq:Memo:=
 ⟨98,#[.agg #[.slice (some ⟨552,0,none⟩) 2 12,Qw 200,Qw 2,Qw 1,Qw 3,Qw 0,Qw 0],.agg #[Qw 1030,Qw 470,Qw 0,Qw 0],Qw 1,.func (.func 76) #[] #[],.func (.func 77) #[] #[]],[(552,Uf)],1373,.agg #[Qw 1063,Qw 620,Qw 0,Qw 0],[],1414⟩
theorem sT:QX kq (kq.run YP Xp X5 100000)=true:=by decide+kernel
def lD:Memo:=
 ⟨88,#[.slice (some ⟨552,0,none⟩) 2 12,.agg #[Qw 1063,Qw 620,Qw 0,Qw 0]],[(552,Uf)],1414,.tuple #[.agg #[Qw 0,Qw 0],.bool false],[],1419⟩
theorem ue:QX lD (lD.drun YP Xp X5 100000)=true:=by decide+kernel
def kj:Memo:=
 ⟨98,#[.agg #[.slice (some ⟨552,0,none⟩) 2 12,Qw 200,Qw 2,Qw 2,Qw 0,Qw 0,Qw 0],.agg #[Qw 1000,Qw 500,Qw 0,Qw 0],Qw 0,.func (.func 76) #[] #[],.func (.func 77) #[] #[]],[(552,Uf)],1486,.agg #[Qw 780,Qw 650,Qw 0,Qw 0],[],1527⟩
theorem sS:QX kj (kj.run YP Xp X5 100000)=true:=by decide+kernel
def ki:Memo:=
 ⟨98,#[.agg #[.slice (some ⟨552,0,none⟩) 2 12,Qw 200,Qw 2,Qw 2,Qw 0,Qw 0,Qw 0],.agg #[Qw 780,Qw 650,Qw 0,Qw 0],Qw 1,.func (.func 76) #[] #[],.func (.func 77) #[] #[]],[(552,Uf)],1530,.agg #[Qw 543,Qw 608,Qw 0,Qw 0],[],1571⟩
theorem sR:QX ki (ki.run YP Xp X5 100000)=true:=by decide+kernel
def lC:Memo:=
 ⟨88,#[.slice (some ⟨552,0,none⟩) 2 12,.agg #[Qw 543,Qw 608,Qw 0,Qw 0]],[(552,Uf)],1571,.tuple #[.agg #[Qw 0,Qw 357],.bool true],[],1575⟩
theorem ud:QX lC (lC.drun YP Xp X5 100000)=true:=by decide+kernel
def kh:Memo:=
 ⟨98,#[.agg #[.slice (some ⟨552,0,none⟩) 2 12,Qw 200,Qw 2,Qw 2,Qw 1,Qw 0,Qw 0],.agg #[Qw 780,Qw 650,Qw 0,Qw 0],Qw 1,.func (.func 76) #[] #[],.func (.func 77) #[] #[]],[(552,Uf)],1622,.agg #[Qw 793,Qw 608,Qw 0,Qw 0],[],1663⟩
theorem sQ:QX kh (kh.run YP Xp X5 100000)=true:=by decide+kernel
end Go.Proofs.Ytncjjangllkokaa

namespace Go.Proofs.Ytncjjangllkokaa
open Go Go.CE Go.RowKit
def lB:Memo:=
 ⟨88,#[.slice (some ⟨552,0,none⟩) 2 12,.agg #[Qw 793,Qw 608,Qw 0,Qw 0]],[(552,Uf)],1663,.tuple #[.agg #[Qw 0,Qw 107],.bool true],[],1667⟩
theorem uc:QX lB (lB.drun YP Xp X5 100000)=true:=by decide+kernel
def kg:Memo:=
 ⟨98,#[.agg #[.slice (some ⟨552,0,none⟩) 2 12,Qw 200,Qw 2,Qw 2,Qw 2,Qw 0,Qw 0],.agg #[Qw 780,Qw 650,Qw 0,Qw 0],Qw 1,.func (.func 76) #[] #[],.func (.func 77) #[] #[]],[(552,Uf)],1714,.agg #[Qw 543,Qw 788,Qw 0,Qw 0],[],1755⟩
theorem sP:QX kg (kg.run YP Xp X5 100000)=true:=by decide+kernel
def lA:Memo:=
 ⟨88,#[.slice (some ⟨552,0,none⟩) 2 12,.agg #[Qw 543,Qw 788,Qw 0,Qw 0]],[(552,Uf)],1755,.tuple #[.agg #[Qw 0,Qw 357],.bool true],[],1759⟩
theorem ub:QX lA (lA.drun YP Xp X5 100000)=true:=by decide+kernel
def kf:Memo:=
 ⟨98,#[.agg #[.slice (some ⟨552,0,none⟩) 2 12,Qw 200,Qw 2,Qw 2,Qw 3,Qw 0,Qw 0],.agg #[Qw 780,Qw 650,Qw 0,Qw 0],Qw 1,.func (.func 76) #[] #[],.func (.func 77) #[] #[]],[(552,Uf)],1806,.agg #[Qw 793,Qw 788,Qw 0,Qw 0],[],1847⟩
theorem sO:QX kf (kf.run YP Xp X5 100000)=true:=by decide+kernel
def l9:Memo:=
 ⟨88,#[.slice (some ⟨552,0,none⟩) 2 12,.agg #[Qw 793,Qw 788,Qw 0,Qw 0]],[(552,Uf)],1847,.tuple #[.agg #[Qw 0,Qw 107],.bool true],[],1851⟩
theorem ua:QX l9 (l9.drun YP Xp X5 100000)=true:=by decide+kernel
def kb:Memo:=
 ⟨98,#[.agg #[.slice (some ⟨552,0,none⟩) 2 12,Qw 200,Qw 2,Qw 3,Qw 0,Qw 0,Qw 0],.agg #[Qw 1030,Qw 650,Qw 0,Qw 0],Qw 1,.func (.func 76) #[] #[],.func (.func 77) #[] #[]],[(552,Uf)],1898,.agg #[Qw 813,Qw 638,Qw 0,Qw 0],[],1939⟩
theorem sN:QX kb (kb.run YP Xp X5 100000)=true:=by decide+kernel
def l8:Memo:=
 ⟨88,#[.slice (some ⟨552,0,none⟩) 2 12,.agg #[Qw 813,Qw 638,Qw 0,Qw 0]],[(552,Uf)],1939,.tuple #[.agg #[Qw 0,Qw 87],.bool true],[],1943⟩
theorem tZ:QX l8 (l8.drun YP Xp X5 100000)=true:=by decide+kernel
def ka:Memo:=
 ⟨98,#[.agg #[.slice (some ⟨552,0,none⟩) 2 12,Qw 200,Qw 2,Qw 3,Qw 2,Qw 0,Qw 0],.agg #[Qw 1030,Qw 650,Qw 0,Qw 0],Qw 1,.func (.func 76) #[] #[],.func (.func 77) #[] #[]],[(552,Uf)],2014,.agg #[Qw 813,Qw 818,Qw 0,Qw 0],[],2055⟩
theorem sM:QX ka (ka.run YP Xp X5 100000)=true:=by decide+kernel
def l7:Memo:=
 ⟨88,#[.slice (some ⟨552,0,none⟩) 2 12,.agg #[Qw 813,Qw 818,Qw 0,Qw 0]],[(552,Uf)],2055,.tuple #[.agg #[Qw 0,Qw 87],.bool true],[],2059⟩
theorem tY:QX l7 (l7.drun YP Xp X5 100000)=true:=by decide+kernel
def l6:Memo:=
 ⟨88,#[.slice (some ⟨2134,0,none⟩) 2 12,.agg #[Qw 1063,Qw 440,Qw 0,Qw 0]],[(2134,Uf)],2266,.tuple #[.agg #[Qw 1,Qw 10],.bool true],[],2271⟩
theorem tX:QX l6 (l6.drun YP Xp X5 100000)=true:=by decide+kernel
def l5:Memo:=
 ⟨88,#[.slice (some ⟨2274,0,none⟩) 2 12,.agg #[Qw 1063,Qw 440,Qw 0,Qw 0]],[(2274,Uf)],2406,.tuple #[.agg #[Qw 1,Qw 10],.bool true],[],2411⟩
theorem tW:QX l5 (l5.drun YP Xp X5 100000)=true:=by decide+kernel
def lz:Memo:=
 ⟨88,#[.slice (some ⟨2414,0,none⟩) 2 12,.agg #[Qw 1063,Qw 440,Qw 0,Qw 0]],[(2414,Uf)],2546,.tuple #[.agg #[Qw 1,Qw 10],.bool true],[],2551⟩
theorem tV:QX lz (lz.drun YP Xp X5 100000)=true:=by decide+kernel
def ly:Memo:=
 ⟨88,#[.slice (some ⟨2554,0,none⟩) 2 12,.agg #[Qw 1063,Qw 440,Qw 0,Qw 0]],[(2554,Uf)],2686,.tuple #[.agg #[Qw 1,Qw 10],.bool true],[],2691⟩
theorem tU:QX ly (ly.drun YP Xp X5 100000)=true:=by decide+kernel
def lx:Memo:=
 ⟨88,#[.slice (some ⟨2694,0,none⟩) 2 12,.agg #[Qw 1063,Qw 440,Qw 0,Qw 0]],[(2694,Uf)],2826,.tuple #[.agg #[Qw 1,Qw 10],.bool true],[],2831⟩
theorem tT:QX lx (lx.drun YP Xp X5 100000)=true:=by decide+kernel
end Go.Proofs.Ytncjjangllkokaa

namespace Go.Proofs.Ytncjjangllkokaa
open Go Go.CE Go.RowKit
noncomputable def fC:Vn:=XZ [pD,pC,pH,pB,p9,pG,p8,pF,pz,pE,k8,lH,kz,ky,lG,kx,lF,ku,lE,kq,lD,kj,ki,lC,kh,lB,kg,lA,kf,l9,kb,l8,ka,l7]
theorem jS(B:Lo):WK YP B fC:=Xb QL Qh (QR _ _) wD (Xb QL Qh (QR _ _) wC (Xe QL Qh (QR _ _) wH (Xb QL Qh (QR _ _) wB (Xb QL Qh (QR _ _) wA (Xe QL Qh (QR _ _) wG (Xb QL Qh (QR _ _) w9 (Xe QL Qh (QR _ _) wF (Xb QL Qh (QR _ _) w8 (Xe QL Qh (QR _ _) wE (Xb QL Qh (QR _ _) sZ (Xe QL Qh (QR _ _) ui (Xb QL Qh (QR _ _) sY (Xb QL Qh (QR _ _) sX (Xe QL Qh (QR _ _) uh (Xb QL Qh (QR _ _) sW (Xe QL Qh (QR _ _) ug (Xb QL Qh (QR _ _) sU (Xe QL Qh (QR _ _) uf (Xb QL Qh (QR _ _) sT (Xe QL Qh (QR _ _) ue (Xb QL Qh (QR _ _) sS (Xb QL Qh (QR _ _) sR (Xe QL Qh (QR _ _) ud (Xb QL Qh (QR _ _) sQ (Xe QL Qh (QR _ _) uc (Xb QL Qh (QR _ _) sP (Xe QL Qh (QR _ _) ub (Xb QL Qh (QR _ _) sO (Xe QL Qh (QR _ _) ua (Xb QL Qh (QR _ _) sN (Xe QL Qh (QR _ _) tZ (Xb QL Qh (QR _ _) sM (Xe QL Qh (QR _ _) tY (Zo _ _))))))))))))))))))))))))))))))))))
def pJ:Memo:=
 ⟨37,#[.agg #[.slice (some ⟨552,0,none⟩) 2 12,Qw 200,Qw 2]],[(552,Uf)],553,.tuple #[.slice (some ⟨2086,0,none⟩) 2 1,Qw 26,Qw 0],[(2086,.cells #[Qw 1,Qw 3] 3 (0,0))],2097⟩
theorem wJ:QX pJ (pJ.run YP Xp fC 100000)=true:=by decide+kernel
end Go.Proofs.Ytncjjangllkokaa

namespace Go.Proofs.Ytncjjangllkokaa
open Go Go.CE Go.RowKit
def lv:Memo:=
 ⟨88,#[.slice (some ⟨2834,0,none⟩) 2 12,.agg #[Qw 1063,Qw 440,Qw 0,Qw 0]],[(2834,Uf)],2966,.tuple #[.agg #[Qw 1,Qw 10],.bool true],[],2971⟩
theorem tS:QX lv (lv.drun YP Xp X5 100000)=true:=by decide+kernel
def lu:Memo:=
 ⟨88,#[.slice (some ⟨2974,0,none⟩) 2 12,.agg #[Qw 1063,Qw 440,Qw 0,Qw 0]],[(2974,Uf)],3106,.tuple #[.agg #[Qw 1,Qw 10],.bool true],[],3111⟩
theorem tR:QX lu (lu.drun YP Xp X5 100000)=true:=by decide+kernel
def lr:Memo:=
 ⟨88,#[.slice (some ⟨3114,0,none⟩) 2 12,.agg #[Qw 1063,Qw 440,Qw 0,Qw 0]],[(3114,Uf)],3246,.tuple #[.agg #[Qw 1,Qw 10],.bool true],[],3251⟩
theorem tQ:QX lr (lr.drun YP Xp X5 100000)=true:=by decide+kernel
def lq:Memo:=
 ⟨88,#[.slice (some ⟨3254,0,none⟩) 2 12,.agg #[Qw 1063,Qw 440,Qw 0,Qw 0]],[(3254,Uf)],3386,.tuple #[.agg #[Qw 1,Qw 10],.bool true],[],3391⟩
theorem tP:QX lq (lq.drun YP Xp X5 100000)=true:=by decide+kernel
def lp:Memo:=
 ⟨88,#[.slice (some ⟨3394,0,none⟩) 2 12,.agg #[Qw 1063,Qw 440,Qw 0,Qw 0]],[(3394,Uf)],3526,.tuple #[.agg #[Qw 1,Qw 10],.bool true],[],3531⟩
theorem tO:QX lp (lp.drun YP Xp X5 100000)=true:=by decide+kernel
def ll:Memo:=
 ⟨88,#[.slice (some ⟨3534,0,none⟩) 2 12,.agg #[Qw 1063,Qw 440,Qw 0,Qw 0]],[(3534,Uf)],3666,.tuple #[.agg #[Qw 1,Qw 10],.bool true],[],3671⟩
theorem tN:QX ll (ll.drun YP Xp X5 100000)=true:=by decide+kernel
def lk:Memo:=
 ⟨88,#[.slice (some ⟨3674,0,none⟩) 2 12,.agg #[Qw 1063,Qw 440,Qw 0,Qw 0]],[(3674,Uf)],3806,.tuple #[.agg #[Qw 1,Qw 10],.bool true],[],3811⟩
theorem tM:QX lk (lk.drun YP Xp X5 100000)=true:=by decide+kernel
def lj:Memo:=
 ⟨88,#[.slice (some ⟨3814,0,none⟩) 2 12,.agg #[Qw 1063,Qw 603,Qw 0,Qw 0]],[(3814,Ld)],3946,.tuple #[.agg #[Qw 0,Qw 0],.bool false],[],3951⟩
theorem tL:QX lj (lj.drun YP Xp X5 100000)=true:=by decide+kernel
def lh:Memo:=
 ⟨88,#[.slice (some ⟨3954,0,none⟩) 2 12,.agg #[Qw 1063,Qw 475,Qw 0,Qw 0]],[(3954,Lc)],4086,.tuple #[.agg #[Qw 0,Qw 0],.bool false],[],4091⟩
theorem tK:QX lh (lh.drun YP Xp X5 100000)=true:=by decide+kernel
def kZ:Memo:=
 ⟨88,#[.slice (some ⟨4094,0,none⟩) 2 12,.agg #[Qw 1063,Qw 440,Qw 0,Qw 0]],[(4094,Uf)],4226,.tuple #[.agg #[Qw 1,Qw 10],.bool true],[],4231⟩
theorem tJ:QX kZ (kZ.drun YP Xp X5 100000)=true:=by decide+kernel
def kY:Memo:=
 ⟨88,#[.slice (some ⟨4234,0,none⟩) 2 12,.agg #[Qw 1063,Qw 442,Qw 0,Qw 0]],[(4234,Lb)],4366,.tuple #[.agg #[Qw 1,Qw 8],.bool true],[],4371⟩
theorem tI:QX kY (kY.drun YP Xp X5 100000)=true:=by decide+kernel
def kX:Memo:=
 ⟨88,#[.slice (some ⟨4374,0,none⟩) 2 12,.agg #[Qw 1063,Qw 458,Qw 0,Qw 0]],[(4374,La)],4506,.tuple #[.agg #[Qw 0,Qw 0],.bool false],[],4511⟩
theorem tH:QX kX (kX.drun YP Xp X5 100000)=true:=by decide+kernel
def kW:Memo:=
 ⟨88,#[.slice (some ⟨4514,0,none⟩) 2 12,.agg #[Qw 1063,Qw 450,Qw 0,Qw 0]],[(4514,IZ)],4646,.tuple #[.agg #[Qw 0,Qw 0],.bool false],[],4651⟩
theorem tG:QX kW (kW.drun YP Xp X5 100000)=true:=by decide+kernel
def kU:Memo:=
 ⟨88,#[.slice (some ⟨4654,0,none⟩) 2 12,.agg #[Qw 1063,Qw 446,Qw 0,Qw 0]],[(4654,IY)],4786,.tuple #[.agg #[Qw 1,Qw 4],.bool true],[],4791⟩
theorem tF:QX kU (kU.drun YP Xp X5 100000)=true:=by decide+kernel
end Go.Proofs.Ytncjjangllkokaa

namespace Go.Proofs.Ytncjjangllkokaa
open Go Go.CE Go.RowKit
noncomputable section
def cW:Vn:=XZ [l6]
theorem gA(B:Lo):WK YP B cW:=Xe QL Qh (QR _ _) tX (Zo _ _)
def kS:Memo:=
 ⟨93,#[Qw 500000,.pointer (some ⟨2130,0,none⟩),.pointer (some ⟨2131,0,none⟩)],[(2104,Uf),(2131,.cells #[Qw 1] 3 (0,0)),(2130,ov)],2132,.bool true,[],2272⟩
theorem tC:QX kS (kS.run YP Xp cW 100000)=true:=by decide+kernel
def cV:Vn:=XZ [l5]
theorem g9(B:Lo):WK YP B cV:=Xe QL Qh (QR _ _) tW (Zo _ _)
def kR:Memo:=
 ⟨93,#[Qw 250000,.pointer (some ⟨2130,0,none⟩),.pointer (some ⟨2131,0,none⟩)],[(2104,Uf),(2131,.cells #[Qw 1] 3 (0,0)),(2130,ov)],2272,.bool true,[],2412⟩
theorem tB:QX kR (kR.run YP Xp cV 100000)=true:=by decide+kernel
def cU:Vn:=XZ [lz]
theorem g8(B:Lo):WK YP B cU:=Xe QL Qh (QR _ _) tV (Zo _ _)
def kQ:Memo:=
 ⟨93,#[Qw 125000,.pointer (some ⟨2130,0,none⟩),.pointer (some ⟨2131,0,none⟩)],[(2104,Uf),(2131,.cells #[Qw 1] 3 (0,0)),(2130,ov)],2412,.bool true,[],2552⟩
theorem tA:QX kQ (kQ.run YP Xp cU 100000)=true:=by decide+kernel
def cS:Vn:=XZ [ly]
theorem gz(B:Lo):WK YP B cS:=Xe QL Qh (QR _ _) tU (Zo _ _)
def kP:Memo:=
 ⟨93,#[Qw 62500,.pointer (some ⟨2130,0,none⟩),.pointer (some ⟨2131,0,none⟩)],[(2104,Uf),(2131,.cells #[Qw 1] 3 (0,0)),(2130,ov)],2552,.bool true,[],2692⟩
theorem tz:QX kP (kP.run YP Xp cS 100000)=true:=by decide+kernel
def cR:Vn:=XZ [lx]
theorem gy(B:Lo):WK YP B cR:=Xe QL Qh (QR _ _) tT (Zo _ _)
def kO:Memo:=
 ⟨93,#[Qw 31250,.pointer (some ⟨2130,0,none⟩),.pointer (some ⟨2131,0,none⟩)],[(2104,Uf),(2131,.cells #[Qw 1] 3 (0,0)),(2130,ov)],2692,.bool true,[],2832⟩
theorem tx:QX kO (kO.run YP Xp cR 100000)=true:=by decide+kernel
def cQ:Vn:=XZ [lv]
theorem gx(B:Lo):WK YP B cQ:=Xe QL Qh (QR _ _) tS (Zo _ _)
def kN:Memo:=
 ⟨93,#[Qw 15625,.pointer (some ⟨2130,0,none⟩),.pointer (some ⟨2131,0,none⟩)],[(2104,Uf),(2131,.cells #[Qw 1] 3 (0,0)),(2130,ov)],2832,.bool true,[],2972⟩
theorem tw:QX kN (kN.run YP Xp cQ 100000)=true:=by decide+kernel
def cP:Vn:=XZ [lu]
theorem gv(B:Lo):WK YP B cP:=Xe QL Qh (QR _ _) tR (Zo _ _)
def kM:Memo:=
 ⟨93,#[Qw 7812,.pointer (some ⟨2130,0,none⟩),.pointer (some ⟨2131,0,none⟩)],[(2104,Uf),(2131,.cells #[Qw 1] 3 (0,0)),(2130,ov)],2972,.bool true,[],3112⟩
theorem tv:QX kM (kM.run YP Xp cP 100000)=true:=by decide+kernel
def cO:Vn:=XZ [lr]
theorem gu(B:Lo):WK YP B cO:=Xe QL Qh (QR _ _) tQ (Zo _ _)
def kL:Memo:=
 ⟨93,#[Qw 3906,.pointer (some ⟨2130,0,none⟩),.pointer (some ⟨2131,0,none⟩)],[(2104,Uf),(2131,.cells #[Qw 1] 3 (0,0)),(2130,ov)],3112,.bool true,[],3252⟩
theorem tu:QX kL (kL.run YP Xp cO 100000)=true:=by decide+kernel
def cN:Vn:=XZ [lq]
theorem gq(B:Lo):WK YP B cN:=Xe QL Qh (QR _ _) tP (Zo _ _)
def kK:Memo:=
 ⟨93,#[Qw 1953,.pointer (some ⟨2130,0,none⟩),.pointer (some ⟨2131,0,none⟩)],[(2104,Uf),(2131,.cells #[Qw 1] 3 (0,0)),(2130,ov)],3252,.bool true,[],3392⟩
theorem tt:QX kK (kK.run YP Xp cN 100000)=true:=by decide+kernel
def cM:Vn:=XZ [lp]
theorem gp(B:Lo):WK YP B cM:=Xe QL Qh (QR _ _) tO (Zo _ _)
def kJ:Memo:=
 ⟨93,#[Qw 976,.pointer (some ⟨2130,0,none⟩),.pointer (some ⟨2131,0,none⟩)],[(2104,Uf),(2131,.cells #[Qw 1] 3 (0,0)),(2130,ov)],3392,.bool true,[],3532⟩
theorem tq:QX kJ (kJ.run YP Xp cM 100000)=true:=by decide+kernel
def cL:Vn:=XZ [ll]
theorem gj(B:Lo):WK YP B cL:=Xe QL Qh (QR _ _) tN (Zo _ _)
def kI:Memo:=
 ⟨93,#[Qw 488,.pointer (some ⟨2130,0,none⟩),.pointer (some ⟨2131,0,none⟩)],[(2104,Uf),(2131,.cells #[Qw 1] 3 (0,0)),(2130,ov)],3532,.bool true,[],3672⟩
theorem tp:QX kI (kI.run YP Xp cL 100000)=true:=by decide+kernel
def cK:Vn:=XZ [lk]
theorem gi(B:Lo):WK YP B cK:=Xe QL Qh (QR _ _) tM (Zo _ _)
def kH:Memo:=
 ⟨93,#[Qw 244,.pointer (some ⟨2130,0,none⟩),.pointer (some ⟨2131,0,none⟩)],[(2104,Uf),(2131,.cells #[Qw 1] 3 (0,0)),(2130,ov)],3672,.bool true,[],3812⟩
theorem tn:QX kH (kH.run YP Xp cK 100000)=true:=by decide+kernel
def cJ:Vn:=XZ [lj]
theorem gh(B:Lo):WK YP B cJ:=Xe QL Qh (QR _ _) tL (Zo _ _)
def kG:Memo:=
 ⟨93,#[Qw 122,.pointer (some ⟨2130,0,none⟩),.pointer (some ⟨2131,0,none⟩)],[(2104,Uf),(2131,.cells #[Qw 1] 3 (0,0)),(2130,ov)],3812,.bool false,[],3952⟩
theorem tl:QX kG (kG.run YP Xp cJ 100000)=true:=by decide+kernel
def cI:Vn:=XZ [lh]
theorem gg(B:Lo):WK YP B cI:=Xe QL Qh (QR _ _) tK (Zo _ _)
def kF:Memo:=
 ⟨93,#[Qw 183,.pointer (some ⟨2130,0,none⟩),.pointer (some ⟨2131,0,none⟩)],[(2104,Uf),(2131,.cells #[Qw 1] 3 (0,0)),(2130,ov)],3952,.bool false,[],4092⟩
theorem tk:QX kF (kF.run YP Xp cI 100000)=true:=by decide+kernel
end
end Go.Proofs.Ytncjjangllkokaa

namespace Go.Proofs.Ytncjjangllkokaa
open Go Go.CE Go.RowKit
def kT:Memo:=
 ⟨88,#[.slice (some ⟨4794,0,none⟩) 2 12,.agg #[Qw 1063,Qw 448,Qw 0,Qw 0]],[(4794,IX)],4926,.tuple #[.agg #[Qw 1,Qw 2],.bool true],[],4931⟩
theorem tE:QX kT (kT.drun YP Xp X5 100000)=true:=by decide+kernel
end Go.Proofs.Ytncjjangllkokaa

namespace Go.Proofs.Ytncjjangllkokaa
open Go Go.CE Go.RowKit
noncomputable section
def cG:Vn:=XZ [kZ]
theorem gf(B:Lo):WK YP B cG:=Xe QL Qh (QR _ _) tJ (Zo _ _)
def kE:Memo:=
 ⟨93,#[Qw 214,.pointer (some ⟨2130,0,none⟩),.pointer (some ⟨2131,0,none⟩)],[(2104,Uf),(2131,.cells #[Qw 1] 3 (0,0)),(2130,ov)],4092,.bool true,[],4232⟩
theorem tj:QX kE (kE.run YP Xp cG 100000)=true:=by decide+kernel
def cF:Vn:=XZ [kY]
theorem gd(B:Lo):WK YP B cF:=Xe QL Qh (QR _ _) tI (Zo _ _)
def kD:Memo:=
 ⟨93,#[Qw 199,.pointer (some ⟨2130,0,none⟩),.pointer (some ⟨2131,0,none⟩)],[(2104,Uf),(2131,.cells #[Qw 1] 3 (0,0)),(2130,ov)],4232,.bool true,[],4372⟩
theorem ti:QX kD (kD.run YP Xp cF 100000)=true:=by decide+kernel
def cE:Vn:=XZ [kX]
theorem ga(B:Lo):WK YP B cE:=Xe QL Qh (QR _ _) tH (Zo _ _)
def kC:Memo:=
 ⟨93,#[Qw 191,.pointer (some ⟨2130,0,none⟩),.pointer (some ⟨2131,0,none⟩)],[(2104,Uf),(2131,.cells #[Qw 1] 3 (0,0)),(2130,ov)],4372,.bool false,[],4512⟩
theorem th:QX kC (kC.run YP Xp cE 100000)=true:=by decide+kernel
def cD:Vn:=XZ [kW]
theorem fZ(B:Lo):WK YP B cD:=Xe QL Qh (QR _ _) tG (Zo _ _)
def kB:Memo:=
 ⟨93,#[Qw 195,.pointer (some ⟨2130,0,none⟩),.pointer (some ⟨2131,0,none⟩)],[(2104,Uf),(2131,.cells #[Qw 1] 3 (0,0)),(2130,ov)],4512,.bool false,[],4652⟩
theorem tg:QX kB (kB.run YP Xp cD 100000)=true:=by decide+kernel
def cC:Vn:=XZ [kU]
theorem fY(B:Lo):WK YP B cC:=Xe QL Qh (QR _ _) tF (Zo _ _)
def kA:Memo:=
 ⟨93,#[Qw 197,.pointer (some ⟨2130,0,none⟩),.pointer (some ⟨2131,0,none⟩)],[(2104,Uf),(2131,.cells #[Qw 1] 3 (0,0)),(2130,ov)],4652,.bool true,[],4792⟩
theorem tf:QX kA (kA.run YP Xp cC 100000)=true:=by decide+kernel
def cB:Vn:=XZ [kT]
theorem fX(B:Lo):WK YP B cB:=Xe QL Qh (QR _ _) tE (Zo _ _)
def k9:Memo:=
 ⟨93,#[Qw 196,.pointer (some ⟨2130,0,none⟩),.pointer (some ⟨2131,0,none⟩)],[(2104,Uf),(2131,.cells #[Qw 1] 3 (0,0)),(2130,ov)],4792,.bool true,[],4932⟩
theorem tc:QX k9 (k9.run YP Xp cB 100000)=true:=by decide+kernel
end
end Go.Proofs.Ytncjjangllkokaa

namespace Go.Proofs.Ytncjjangllkokaa
open Go Go.CE Go.RowKit
noncomputable def cX:Vn:=XZ [kS,kR,kQ,kP,kO,kN,kM,kL,kK,kJ,kI,kH,kG,kF,kE,kD,kC,kB,kA,k9]
theorem gB(B:Lo):WK YP B cX:=Xb QL Qh (gA _) tC (Xb QL Qh (g9 _) tB (Xb QL Qh (g8 _) tA (Xb QL Qh (gz _) tz (Xb QL Qh (gy _) tx (Xb QL Qh (gx _) tw (Xb QL Qh (gv _) tv (Xb QL Qh (gu _) tu (Xb QL Qh (gq _) tt (Xb QL Qh (gp _) tq (Xb QL Qh (gj _) tp (Xb QL Qh (gi _) tn (Xb QL Qh (gh _) tl (Xb QL Qh (gg _) tk (Xb QL Qh (gf _) tj (Xb QL Qh (gd _) ti (Xb QL Qh (ga _) th (Xb QL Qh (fZ _) tg (Xb QL Qh (fY _) tf (Xb QL Qh (fX _) tc (Zo _ _))))))))))))))))))))
def lI:Memo:=
 ⟨43,#[.agg #[.slice (some ⟨2104,0,none⟩) 2 12,Qw 200,Qw 2],.slice (some ⟨2105,0,none⟩) 2 1,Qw 1],[(2105,.cells #[Qw 1,Qw 1] 3 (0,0)),(2104,Uf)],2106,.tuple #[Qw 195,Qw 0],[],4932⟩
theorem uk:QX lI (lI.run YP Xp cX 100000)=true:=by decide+kernel
end Go.Proofs.Ytncjjangllkokaa

namespace Go.Proofs.Ytncjjangllkokaa
open Go Go.CE Go.RowKit
noncomputable def CI:Vn:=XZ [wL,pL,pK,pJ,lI]
theorem zP(B:Lo):WK YP B CI:=Xb QL Qh (QR _ _) zT (Xb QL Qh (QR _ _) wM (Xb QL Qh (jT _) wK (Xb QL Qh (jS _) wJ (Xb QL Qh (gB _) uk (Zo _ _)))))
theorem Ab:yb (mq YP Xp CI 100000 16 #[] (P6 0 []) ([]:List (Array Value×TypeId)).length) (.bool true) []=true:=by decide+kernel
theorem wS(w:World):Calls YP 16 #[] w fun e w'=>e=.returned (.bool true)/\Below w.heap.size w w':=by
 have hc:=Am QL Qh (at':=[]) (args':=#[]) Ab (w:=w) (I:=fun _=>True) (hI:=fun _ _ _ _=>trivial) (zP _) trivial rfl (fun i x a h=>by simp at h) ⟨rfl,fun i v v' h=>by simp at h⟩;intro cs;obtain⟨e,w',fr,⟨v',n',H',μ',he,hp,hv,hb,hun,S4⟩,h1,h2,h3⟩:=hc cs;exact⟨e,w',fr,⟨by rw[he,RK rfl hv],S4⟩,h1,h2,h3⟩
theorem known:Q6 YP J0 16 #[] (.bool true):=fun fm w args' _ _ ha=>by
 have e:args'=#[]:=by exact LN ha.1.symm
 subst e;exact(wS w).mono fun _ _ h=>⟨_,h.1,h.2,.simple rfl⟩
end Go.Proofs.Ytncjjangllkokaa

namespace Go.Proofs.Ytncjjangllkokaa
open Go Go.CE Go.RowKit
set_option maxRecDepth 100000
end Go.Proofs.Ytncjjangllkokaa

namespace Go.Proofs.Ytncjjangllkokaa
open Go Go.CE Go.RowKit
def oB:Sh:=ID [.int,.int]
def xF:Sh:=ID [.int,.int,oB,.int,.int,oB,oB,.int,.int]
def iD:Sh:=ID [.slice xF,.int,.int]
theorem mm{cs:List Value}(h:oB.ok cs):∃s:Span,cs=QM s:=by
 obtain⟨_,_,rfl,⟨a,_,rfl⟩,_,_,rfl,⟨b,_,rfl⟩,rfl⟩:=h;exact⟨⟨a,b⟩,rfl⟩
theorem Ak{cs:List Value}(h:xF.ok cs):∃s:Qc,cs=Qn s:=by
 obtain⟨_,_,rfl,⟨a,_,rfl⟩,_,_,rfl,⟨b,_,rfl⟩,_,_,rfl,h3,_,_,rfl,⟨d,_,rfl⟩,_,_,rfl,⟨e,_,rfl⟩,_,_,rfl,h6,_,_,rfl,h7,_,_,rfl,⟨g,_,rfl⟩,_,_,rfl,⟨w,_,rfl⟩,rfl⟩:=h;obtain⟨x,rfl⟩:=mm h3;obtain⟨y,rfl⟩:=mm h6;obtain⟨z,rfl⟩:=mm h7;exact⟨⟨a,b,x.lo,x.hi,d,e,y.lo,y.hi,z.lo,z.hi,g,w⟩,rfl⟩
theorem DS{v:Value}(h:iD.arg v):∃r:Qg,v=.agg (Q9 r).toArray:=by
 obtain⟨cs,rfl,h⟩:=h;obtain⟨_,_,rfl,h1,_,_,rfl,⟨m,_,rfl⟩,_,_,rfl,⟨n,_,rfl⟩,rfl⟩:=h;obtain⟨xs,rfl⟩:=rm (fun _=>Ak) h1;exact⟨⟨xs,m,n⟩,rfl⟩
theorem DB{cs:List Value}(h:Sh.ok (.slice .int) cs):∃xs:List Int,cs=XE xs:=rm (fun _=>GI) h
theorem DT{v:Value}(h:Sh.arg (.slice .int) v):∃xs:List Int,v=Zj xs:=by
 obtain⟨xs,hx⟩:=DB (show Sh.ok (.slice .int) [v]from h);exact⟨xs,by simpa using hx⟩
end Go.Proofs.Ytncjjangllkokaa

namespace Go.Proofs.Ytncjjangllkokaa
open Go Go.CE Go.RowKit
noncomputable section
set_option maxRecDepth 100000
def SJ(s:Span):Int:=s.lo
def gS(s:Span):Int:=s.hi
def Zv(rf:Qg):List Int:=(rf.Qa.map (XY rf.Qq)).map SJ
def ZC(rf:Qg):List Int:=(rf.Qa.map (XY rf.Qq)).map gS
def Ue(rf:Qg):List Int:=(rf.Qa.map ZM).map SJ
def Ad(rf:Qg):List Int:=(rf.Qa.map ZM).map gS
def yx(rf:Qg)(p:Int):List Int:=(Zh rf.Qa p).map SJ
def JT(rf:Qg)(p:Int):List Int:=(Zh rf.Qa p).map gS
theorem Sv{α:Type}[Inhabited α]{l:List α}{f:α->Span}{g:Span->Int}{k:Int}(h0:0<=k)(h:k<l.length):nth ((l.map f).map g) k=g (f (l.getD k.toNat Le)):=by
 obtain⟨m,rfl⟩:∃m:Nat,k=m:=⟨k.toNat,by omega⟩
 have hm:m<l.length:=by omega
 show((l.map f).map g).getD ((m:Int).toNat) Le=_;simp[Lu,hm]
theorem ew{rf:Qg}(hr:Zq rf=true):K8 rf.Qa.length (Ue rf) 2000/\K8 rf.Qa.length (Ad rf) 2000:=by
 refine⟨⟨by simp[Ue],fun k h0 h1=> ?_⟩,⟨by simp[Ad],fun k h0 h1=> ?_⟩⟩
 ·have hp:=Xc ((Qz hr).2 k h0 h1).1;unfold Ue;rw[Sv h0 h1];simp only[ZM,SJ];omega
 ·have hp:=Xc ((Qz hr).2 k h0 h1).1;unfold Ad;rw[Sv h0 h1];simp only[ZM,gS];omega
theorem jY{l:List Span}{g:Span->Int}{k:Int}(h0:0<=k)(h:k<l.length):nth (l.map g) k=g (l.getD k.toNat Le):=by
 obtain⟨m,rfl⟩:∃m:Nat,k=m:=⟨k.toNat,by omega⟩
 have hm:m<l.length:=by omega
 show(l.map g).getD ((m:Int).toNat) Le=_;simp[Lu,hm]
theorem dz{rf:Qg}(hr:Zq rf=true)(p:Int):K8 rf.Qa.length (yx rf p) 1000000/\K8 rf.Qa.length (JT rf p) 1000000:=by
 refine⟨⟨by simp[yx,Kc],fun k h0 h1=> ?_⟩,⟨by simp[JT,Kc],fun k h0 h1=> ?_⟩⟩
 ·have hp:=mS hr (p:=p) h0 h1;unfold yx;rw[jY h0 (by rw[Kc];exact h1),eP h0 h1];simp only[SJ];omega
 ·have hp:=mS hr (p:=p) h0 h1;unfold JT;rw[jY h0 (by rw[Kc];exact h1),eP h0 h1];simp only[gS];omega
def Rg(xs:List Span)(i:Int)(ys:List Int):List Value:=[Value.func (Fn.func 76) #[] #[],.slice (some {block:=2,off:=0}) xs.length 1,Q4 1 (QV xs.length (Qf QM xs)),.int .i64 (↑xs.length:Int),.int .i64 i]
def Ko(xs:List Span)(i:Int)(ys:List Int):List Obj:=[.cells (Qf Qp ys) 3 (0,0)]
def Rh:List Item:=([.code [1,1,0,1,0,0],.inLoop [1,1,0,1,0,0],.inBlock 0,.code [1,1,1]]).map (it (Xa YP 97))
def z6(B:Lo)(c0:CF)(xs:List Span)(i:Int)(ys:List Int):Prop:=∃dJ:Nat->Value,(∀t,XH (dJ t))/\GoE YP B c0 Z9 1 (QS 97 26 (([1,5,11,12,13]:List Nat).zip (Rg xs i ys)) dJ Rh) (QN (Ko xs i ys)) (2+(Ko xs i ys).length) []
def Rf(xs:List Span)(i:Int):=(Span.lo (xs.getD i.toNat Le))
def ei(xs:List Span)(i:Int):Array Value:=#[.int .i64 (Rf xs i),.int .i64 (Span.hi (xs.getD i.toNat Le))]
def ae(xs:List Span)(i:Int)(ys:List Int):Array Value:=(Qf Qp (Lj ys i.toNat (Rf xs i)))
def nM(xs:List Span):Array Value:=(Qf (Kk [.int .i64 0]) (Lm xs.length ()))
theorem z4(B:Lo)(xs:List Span)(i:Int)(ys:List Int)(Q0:Nat->Value):landM (Q2 YP (QE YP) J0 B 13 1 (QS 97 26 (([1,5,11,12,13]:List Nat).zip (Rg xs i ys)) Q0 Rh) (QN (Ko xs i ys)) (2+(Ko xs i ys).length)
 [(0,Vh),(2,Qk.tidx i.toNat (ei xs i)),(11,Qk.pure (.int .i64 (Rf xs i)) []),(12,Qk.Zl (Hint.idx i.toNat)),(13,Qk.Zl (Hint.st (ae xs i ys))),(14,WL (i+1))] 0 [] []) [1,5,11,12,13] [(2,KS.cells [] (ae xs i ys))] []=some ⟨97,26,Rh,[],.run,none,Rg xs (i+1) (Lj ys i.toNat (Rf xs i)),Ko xs (i+1) (Lj ys i.toNat (Rf xs i)),
 [QQ 1 [] (ae xs i ys) (ae xs i ys),wq (i+1)=i+1,0+Lf i*1+TypeInfo.size Try.t3<=L4 (Qf Qp ys)/\splice (Qf Qp ys) (0+Lf i*1) (Value.cells (XJ {len:=16000,tr:=Tri.set 14 (Tri.set 14 Tri.lf 22 (.int .i64 (Span.lo (xs.getD i.toNat Le)))) 23 (.pointer (some {block:=2,off:=0+Lf i*1}))} 22))=Qf Qp (Lj ys i.toNat (Span.lo (xs.getD i.toNat Le))),i=(↑i.toNat:Int)/\Lf i<Li xs,QB []/\Q6 YP J0 76 #[.agg (ei xs i)] (.int .i64 (Span.lo (xs.getD i.toNat Le))),Vs i xs.length (Qf QM xs) Try.t38.size (ei xs i),Zs i (↑xs.length:Int)=true]⟩:=by kernel_rfl
theorem z3(B:Lo)(xs:List Span)(i:Int)(ys:List Int)(Q0:Nat->Value):X2 (Q2 YP (QE YP) J0 B 9 1 (QS 97 26 (([1,5,11,12,13]:List Nat).zip (Rg xs i ys)) Q0 Rh) (QN (Ko xs i ys)) (2+(Ko xs i ys).length)
 [(0,Ud)] 0 [] []) [{k:=2,rs:=[],cs:=Qf Qp ys}]=some (QV xs.length (Fz.cs {k:=2,rs:=[],cs:=Qf Qp ys}),
 [Zk (Fz.rs {k:=2,rs:=[],cs:=Qf Qp ys}) (Qf Qp ys) (Fz.cs {k:=2,rs:=[],cs:=Qf Qp ys}),Zs i (↑xs.length:Int)=false]):=by kernel_rfl
theorem z2(B:Lo)(xs:List Span):landM (Q2 YP (QE YP) J0 B 9 1 (Q3 YP 97 26 (([Pz xs,.func (.func 76) #[] #[]]).map (QD 0 4))) Z9 1
 [(3,Qk.Zl (Hint.mk xs.length (nM xs)))] 0 [] []) [1,5,11,12,13] [(1,KS.rows [] [] [] (Qf Qp (Lm xs.length 0)))] []=some ⟨97,26,Rh,[],.run,none,Rg xs (0) (Lm xs.length 0),Ko xs (0) (Lm xs.length 0),
 [X3 1 [] [] [] (nM xs) (Qf Qp (Lm xs.length 0)),SG YP 25 (XJ {len:=16000,tr:=Tri.set 14 Tri.lf 9 (.int .i64 (↑xs.length:Int))} 9) (XJ {len:=16000,tr:=Tri.set 14 Tri.lf 9 (.int .i64 (↑xs.length:Int))} 9)=some (3,Qf (Kk [.int .i64 0]) (Lm xs.length ()),Li xs,TypeInfo.size Try.t3)]⟩:=by kernel_rfl
set_option maxHeartbeats 4000000 in
theorem z5(xs:List Span)(hn:xs.length<=1000000){B:Lo}(hJ:∀w,B.has w->J0 w){c0:CF}:∀m:Nat,(∀(i:Int) (ys:List Int),(xs.length-i.toNat)=m->∀(h0:0<=i) (hy:ys=Ps SJ 0 xs i),z6 B c0 xs i ys->EndsT YP B c0 (Zj (xs.map SJ))):=by
 intro m0;induction m0 using LQ with
 |_ m0 ih0=>
  intro i ys S1 h0 hy ⟨Q0,VE,Za⟩;have hyl:ys.length=xs.length:=by rw[hy];exact RB
  by_cases q0:(i:Int)<((↑xs.length:Int))
  ·exact((ih0 _ (by omega)) (i+1) (Lj ys i.toNat (Span.lo (xs.getD i.toNat Le))) rfl (by omega) (by(subst hy;exact RA (f:=SJ) h0 q0))
    (Za.landM okF hJ Qh (z4 B xs i ys Q0)
    ⟨(Qs (Q1 (fun x=>List.all_eq_true.1 (by rfl)))),⟨(Xi (by omega) (by omega)),⟨(by exact WV (z:=1) (k:=Lf i) (fun _=>rfl) (by first|omega|(rw[LS];omega)|(rw[LR];omega)) rfl rfl),⟨⟨by omega,by omega⟩,⟨⟨trivial,IH (Span.lo (xs.getD i.toNat Le)) (Span.hi (xs.getD i.toNat Le))⟩,⟨⟨by omega,by omega,(Qy (z:=2) (fun _=>rfl) (by omega))⟩,⟨(XT q0),trivial⟩⟩⟩⟩⟩⟩⟩ (by kernel_rfl) (by kernel_rfl))).cast (by rfl)
  ·exact(GoE.endsT okF hJ Qh Za (z3 B xs i ys Q0)
    ⟨(XP (fun x=>List.all_eq_true.1 (by rfl))),⟨(Zw (Int.not_lt.1 q0)),trivial⟩⟩).cast (by exact bD (hy.trans (RC (by omega))) (by simp))
set_option maxHeartbeats 4000000 in
theorem C9(xs:List Span)(hn:xs.length<=1000000){B:Lo}(hJ:∀w,B.has w->J0 w):EndsT YP B (Q3 YP 97 26 (([Pz xs,.func (.func 76) #[] #[]]).map (QD 0 4))) (Zj (xs.map SJ)):=by
 exact((z5 xs hn hJ _) (0) (Lm xs.length 0) rfl (by omega) (by exact dt)
  (GoE.start.landM okF hJ Qh (z2 B xs)
  ⟨(by exact(Ku (by exact⟨(.simple rfl),trivial⟩) _)),⟨(mz (bytes:=8) (by kernel_rfl) (by omega) (by omega) (by omega)),trivial⟩⟩ (by kernel_rfl) (by kernel_rfl))).cast (by rfl)
theorem CA(xs:List Span)(hn:xs.length<=1000000):Q6 YP J0 97 #[Pz xs,.func (.func 76) #[] #[]] (Zj (xs.map SJ)):=
 XD (ts:=[Pz xs,.func (.func 76) #[] #[]]) ZF (c0:=Q3 YP 97 26 (([Pz xs,.func (.func 76) #[] #[]]).map (QD 0 4))) (by kernel_rfl) (by kernel_rfl) fun B hJ=>C9 xs hn hJ
def Rj(xs:List Span)(i:Int)(ys:List Int):List Value:=[Value.func (Fn.func 77) #[] #[],.slice (some {block:=2,off:=0}) xs.length 1,Q4 1 (QV xs.length (Qf QM xs)),.int .i64 (↑xs.length:Int),.int .i64 i]
def Kp(xs:List Span)(i:Int)(ys:List Int):List Obj:=[.cells (Qf Qp ys) 3 (0,0)]
def Rk:List Item:=([.code [1,1,0,1,0,0],.inLoop [1,1,0,1,0,0],.inBlock 0,.code [1,1,1]]).map (it (Xa YP 97))
def zC(B:Lo)(c0:CF)(xs:List Span)(i:Int)(ys:List Int):Prop:=∃dJ:Nat->Value,(∀t,XH (dJ t))/\GoE YP B c0 Z9 1 (QS 97 26 (([1,5,11,12,13]:List Nat).zip (Rj xs i ys)) dJ Rk) (QN (Kp xs i ys)) (2+(Kp xs i ys).length) []
def Ri(xs:List Span)(i:Int):=(Span.hi (xs.getD i.toNat Le))
def ej(xs:List Span)(i:Int):Array Value:=#[.int .i64 (Span.lo (xs.getD i.toNat Le)),.int .i64 (Ri xs i)]
def ag(xs:List Span)(i:Int)(ys:List Int):Array Value:=(Qf Qp (Lj ys i.toNat (Ri xs i)))
def nN(xs:List Span):Array Value:=(Qf (Kk [.int .i64 0]) (Lm xs.length ()))
theorem z9(B:Lo)(xs:List Span)(i:Int)(ys:List Int)(Q0:Nat->Value):landM (Q2 YP (QE YP) J0 B 13 1 (QS 97 26 (([1,5,11,12,13]:List Nat).zip (Rj xs i ys)) Q0 Rk) (QN (Kp xs i ys)) (2+(Kp xs i ys).length)
 [(0,Vh),(2,Qk.tidx i.toNat (ej xs i)),(11,Qk.pure (.int .i64 (Ri xs i)) []),(12,Qk.Zl (Hint.idx i.toNat)),(13,Qk.Zl (Hint.st (ag xs i ys))),(14,WL (i+1))] 0 [] []) [1,5,11,12,13] [(2,KS.cells [] (ag xs i ys))] []=some ⟨97,26,Rk,[],.run,none,Rj xs (i+1) (Lj ys i.toNat (Ri xs i)),Kp xs (i+1) (Lj ys i.toNat (Ri xs i)),
 [QQ 1 [] (ag xs i ys) (ag xs i ys),wq (i+1)=i+1,0+Lf i*1+TypeInfo.size Try.t3<=L4 (Qf Qp ys)/\splice (Qf Qp ys) (0+Lf i*1) (Value.cells (XJ {len:=16000,tr:=Tri.set 14 (Tri.set 14 Tri.lf 22 (.int .i64 (Span.hi (xs.getD i.toNat Le)))) 23 (.pointer (some {block:=2,off:=0+Lf i*1}))} 22))=Qf Qp (Lj ys i.toNat (Span.hi (xs.getD i.toNat Le))),i=(↑i.toNat:Int)/\Lf i<Li xs,QB []/\Q6 YP J0 77 #[.agg (ej xs i)] (.int .i64 (Span.hi (xs.getD i.toNat Le))),Vs i xs.length (Qf QM xs) Try.t38.size (ej xs i),Zs i (↑xs.length:Int)=true]⟩:=by kernel_rfl
theorem z8(B:Lo)(xs:List Span)(i:Int)(ys:List Int)(Q0:Nat->Value):X2 (Q2 YP (QE YP) J0 B 9 1 (QS 97 26 (([1,5,11,12,13]:List Nat).zip (Rj xs i ys)) Q0 Rk) (QN (Kp xs i ys)) (2+(Kp xs i ys).length)
 [(0,Ud)] 0 [] []) [{k:=2,rs:=[],cs:=Qf Qp ys}]=some (QV xs.length (Fz.cs {k:=2,rs:=[],cs:=Qf Qp ys}),
 [Zk (Fz.rs {k:=2,rs:=[],cs:=Qf Qp ys}) (Qf Qp ys) (Fz.cs {k:=2,rs:=[],cs:=Qf Qp ys}),Zs i (↑xs.length:Int)=false]):=by kernel_rfl
theorem z7(B:Lo)(xs:List Span):landM (Q2 YP (QE YP) J0 B 9 1 (Q3 YP 97 26 (([Pz xs,.func (.func 77) #[] #[]]).map (QD 0 4))) Z9 1
 [(3,Qk.Zl (Hint.mk xs.length (nN xs)))] 0 [] []) [1,5,11,12,13] [(1,KS.rows [] [] [] (Qf Qp (Lm xs.length 0)))] []=some ⟨97,26,Rk,[],.run,none,Rj xs (0) (Lm xs.length 0),Kp xs (0) (Lm xs.length 0),
 [X3 1 [] [] [] (nN xs) (Qf Qp (Lm xs.length 0)),SG YP 25 (XJ {len:=16000,tr:=Tri.set 14 Tri.lf 9 (.int .i64 (↑xs.length:Int))} 9) (XJ {len:=16000,tr:=Tri.set 14 Tri.lf 9 (.int .i64 (↑xs.length:Int))} 9)=some (3,Qf (Kk [.int .i64 0]) (Lm xs.length ()),Li xs,TypeInfo.size Try.t3)]⟩:=by kernel_rfl
set_option maxHeartbeats 4000000 in
theorem zA(xs:List Span)(hn:xs.length<=1000000){B:Lo}(hJ:∀w,B.has w->J0 w){c0:CF}:∀m:Nat,(∀(i:Int) (ys:List Int),(xs.length-i.toNat)=m->∀(h0:0<=i) (hy:ys=Ps gS 0 xs i),zC B c0 xs i ys->EndsT YP B c0 (Zj (xs.map gS))):=by
 intro m0;induction m0 using LQ with
 |_ m0 ih0=>
  intro i ys S1 h0 hy ⟨Q0,VE,Za⟩;have hyl:ys.length=xs.length:=by rw[hy];exact RB
  by_cases q0:(i:Int)<((↑xs.length:Int))
  ·exact((ih0 _ (by omega)) (i+1) (Lj ys i.toNat (Span.hi (xs.getD i.toNat Le))) rfl (by omega) (by(subst hy;exact RA (f:=gS) h0 q0))
    (Za.landM okF hJ Qh (z9 B xs i ys Q0)
    ⟨(Qs (Q1 (fun x=>List.all_eq_true.1 (by rfl)))),⟨(Xi (by omega) (by omega)),⟨(by exact WV (z:=1) (k:=Lf i) (fun _=>rfl) (by first|omega|(rw[LS];omega)|(rw[LR];omega)) rfl rfl),⟨⟨by omega,by omega⟩,⟨⟨trivial,Ij (Span.lo (xs.getD i.toNat Le)) (Span.hi (xs.getD i.toNat Le))⟩,⟨⟨by omega,by omega,(Qy (z:=2) (fun _=>rfl) (by omega))⟩,⟨(XT q0),trivial⟩⟩⟩⟩⟩⟩⟩ (by kernel_rfl) (by kernel_rfl))).cast (by rfl)
  ·exact(GoE.endsT okF hJ Qh Za (z8 B xs i ys Q0)
    ⟨(XP (fun x=>List.all_eq_true.1 (by rfl))),⟨(Zw (Int.not_lt.1 q0)),trivial⟩⟩).cast (by exact bD (hy.trans (RC (by omega))) (by simp))
set_option maxHeartbeats 4000000 in
theorem CB(xs:List Span)(hn:xs.length<=1000000){B:Lo}(hJ:∀w,B.has w->J0 w):EndsT YP B (Q3 YP 97 26 (([Pz xs,.func (.func 77) #[] #[]]).map (QD 0 4))) (Zj (xs.map gS)):=by
 exact((zA xs hn hJ _) (0) (Lm xs.length 0) rfl (by omega) (by exact dt)
  (GoE.start.landM okF hJ Qh (z7 B xs)
  ⟨(by exact(Ku (by exact⟨(.simple rfl),trivial⟩) _)),⟨(mz (bytes:=8) (by kernel_rfl) (by omega) (by omega) (by omega)),trivial⟩⟩ (by kernel_rfl) (by kernel_rfl))).cast (by rfl)
theorem Hm(xs:List Span)(hn:xs.length<=1000000):Q6 YP J0 97 #[Pz xs,.func (.func 77) #[] #[]] (Zj (xs.map gS)):=
 XD (ts:=[Pz xs,.func (.func 77) #[] #[]]) ZF (c0:=Q3 YP 97 26 (([Pz xs,.func (.func 77) #[] #[]]).map (QD 0 4))) (by kernel_rfl) (by kernel_rfl) fun B hJ=>CB xs hn hJ
def Uq(rf:Qg):=(List.map (XY rf.Qq) rf.Qa)
def bc(rf:Qg):Array Value:=#[.int .i64 (Lg (List.map SJ (Uq rf)) 0 Le),.int .i64 (Lg (List.map SJ (Uq rf)) 1 Le),.int .i64 (Lg (List.map SJ (Uq rf)) 2 Le),.int .i64 (Lg (List.map SJ (Uq rf)) 3 Le)]
def KM(rf:Qg):Array Value:=(Qf Qp (List.map SJ (Uq rf)))
def jJ  :Array Value:=#[.int .i64 0,.int .i64 0,.int .i64 0,.int .i64 0]
theorem wi(B:Lo)(rf:Qg)(Qb:List Int):X2 (Q2 YP (QE YP) J0 B 10 1 (Q3 YP 75 13 (([.agg (X8 rf Qb).toArray,.func (.func 76) #[] #[]]).map (QD 0 4))) Z9 1
 [(5,Qk.pure (QV (Li (Uq rf)) (Qf QM (Uq rf))) []),(7,Qk.pure (QV (Li (List.map SJ (Uq rf))) (KM rf)) []),(8,Qk.tcpy (bc rf))] 0 [] []) []=some (.agg (bc rf),
 [0<Li (List.map SJ (List.map (XY rf.Qq) rf.Qa))/\0+LU (Li (List.map SJ (List.map (XY rf.Qq) rf.Qa))) 4*TypeInfo.size Try.t3<=L4 jJ/\LU (Li (List.map SJ (List.map (XY rf.Qq) rf.Qa))) 4*TypeInfo.size Try.t3<=L4 (KM rf)/\(Array.all (KM rf) fun v=>simple v || Vg v)=true/\ones (Array.map (Wm 5) (Lz (KM rf) 0 (LU (Li (List.map SJ (List.map (XY rf.Qq) rf.Qa))) 4*TypeInfo.size Try.t3)))=true/\splice jJ 0 (Array.map (Wm 5) (Lz (KM rf) 0 (LU (Li (List.map SJ (List.map (XY rf.Qq) rf.Qa))) 4*TypeInfo.size Try.t3)))=(bc rf),QB []/\Q6 YP J0 97 #[QV (Li (List.map (XY rf.Qq) rf.Qa)) (Qf QM (List.map (XY rf.Qq) rf.Qa)),Value.func (Fn.func 76) #[] #[]] (QV (Li (List.map SJ (List.map (XY rf.Qq) rf.Qa))) (KM rf)),QB []/\Q6 YP J0 82 #[.agg #[QV rf.Qa.length (Qf Qn rf.Qa),.int .i64 rf.Qq,.int .i64 rf.Qd,.int .i64 (Qb.getD 0 0),.int .i64 (Qb.getD 1 0),.int .i64 (Qb.getD 2 0),.int .i64 (Qb.getD 3 0)]] (QV (Li (List.map (XY rf.Qq) rf.Qa)) (Qf QM (List.map (XY rf.Qq) rf.Qa)))]):=by kernel_rfl
set_option maxHeartbeats 4000000 in
theorem zo(rf:Qg)(Qb:List Int)(hr:Zq rf=true){B:Lo}(hJ:∀w,B.has w->J0 w):EndsT YP B (Q3 YP 75 13 (([.agg (X8 rf Qb).toArray,.func (.func 76) #[] #[]]).map (QD 0 4))) (.agg #[.int .i64 ((Zv rf).getD 0 Le),.int .i64 ((Zv rf).getD 1 Le),.int .i64 ((Zv rf).getD 2 Le),.int .i64 ((Zv rf).getD 3 Le)]):=by
 have Wx:=QG (Qz hr).1;have hle1:((rf.Qa.map (XY rf.Qq)).map SJ).length=rf.Qa.length:=by simp
 have hle2:((rf.Qa.map (XY rf.Qq)).map gS).length=rf.Qa.length:=by simp
 have hle3:(rf.Qa.map (XY rf.Qq)).length=rf.Qa.length:=by simp
 have hcc:∀k:Int,0<=k->k<rf.Qa.length->0<=(rf.Qa.getD k.toNat Le).count/\(rf.Qa.getD k.toNat Le).count<=1000000:=fun k h0 h1=>(Xc ((Qz hr).2 k h0 h1).1).1
 exact(GoE.endsT okF hJ Qh GoE.start (wi B rf Qb)
  ⟨(uO (fun _=>rfl) rfl (by omega) (by omega) rfl (YL rfl) rfl),⟨⟨trivial,CA (List.map (XY rf.Qq) rf.Qa) (by omega)⟩,⟨⟨trivial,EU (rf) (Qb) (by omega) (by omega) (by with_reducible assumption)⟩,trivial⟩⟩⟩).cast (by rfl)
theorem Fb(rf:Qg)(Qb:List Int)(hr:Zq rf=true):Q6 YP J0 75 #[.agg (X8 rf Qb).toArray,.func (.func 76) #[] #[]] (.agg #[.int .i64 ((Zv rf).getD 0 Le),.int .i64 ((Zv rf).getD 1 Le),.int .i64 ((Zv rf).getD 2 Le),.int .i64 ((Zv rf).getD 3 Le)]):=
 XD (ts:=[.agg (X8 rf Qb).toArray,.func (.func 76) #[] #[]]) ZF (c0:=Q3 YP 75 13 (([.agg (X8 rf Qb).toArray,.func (.func 76) #[] #[]]).map (QD 0 4))) (by kernel_rfl) (by kernel_rfl) fun B hJ=>zo rf Qb hr hJ
def J6(rf:Qg)(Qb:List Int)(fa fb fc fd k:Int):Qr:=[(3,Obj.cells #[.int .i64 0,.int .i64 0,.int .i64 0,.int .i64 0] 111),(2,Obj.cells #[.int .i64 fa,.int .i64 fb,.int .i64 fc,.int .i64 fd] 111),(1,Obj.cells #[Q4 0 (QV rf.Qa.length (Qf Qn rf.Qa)),.int .i64 rf.Qq,.int .i64 rf.Qd,.int .i64 (Qb.getD 0 0),.int .i64 (Qb.getD 1 0),.int .i64 (Qb.getD 2 0),.int .i64 (Qb.getD 3 0)] 84),(0,Obj.coro none)]
def Sq(rf:Qg)(Qb:List Int)(fa fb fc fd k:Int):CF:=⟨98,ofList 28 [.agg #[Q4 0 (QV rf.Qa.length (Qf Qn rf.Qa)),.int .i64 rf.Qq,.int .i64 rf.Qd,.int .i64 (Qb.getD 0 0),.int .i64 (Qb.getD 1 0),.int .i64 (Qb.getD 2 0),.int .i64 (Qb.getD 3 0)],.agg #[.int .i64 fa,.int .i64 fb,.int .i64 fc,.int .i64 fd],.int .i64 k,Value.func (Fn.func 76) #[] #[],Value.func (Fn.func 77) #[] #[]],[Item.code (Xa YP 98)],[],.run,none⟩
def V9(rf:Qg)(Qb:List Int)(k:Int):=(List.map gS (Zh rf.Qa (Qb.getD k.toNat 0)))
def V8(rf:Qg):=(List.map SJ (List.map ZM rf.Qa))
def Sp(rf:Qg)(Qb:List Int)(fa fb fc fd k:Int):Array Value:=#[.int .i64 (F4.a (Xn (V8 rf) (V9 rf Qb k) rf.Qa {a:=fa,b:=fb,c:=fc,d:=fd})),.int .i64 (F4.b (Xn (V8 rf) (V9 rf Qb k) rf.Qa {a:=fa,b:=fb,c:=fc,d:=fd})),.int .i64 (F4.c (Xn (V8 rf) (V9 rf Qb k) rf.Qa {a:=fa,b:=fb,c:=fc,d:=fd})),.int .i64 (F4.d (Xn (V8 rf) (V9 rf Qb k) rf.Qa {a:=fa,b:=fb,c:=fc,d:=fd}))]
def jM(rf:Qg)(Qb:List Int):Array Value:=#[QV rf.Qa.length (Qf Qn rf.Qa),.int .i64 rf.Qq,.int .i64 rf.Qd,.int .i64 (Qb.getD 0 0),.int .i64 (Qb.getD 1 0),.int .i64 (Qb.getD 2 0),.int .i64 (Qb.getD 3 0)]
def jL(rf:Qg)(Qb:List Int)(k:Int):Value:=(QV (Li (Zh rf.Qa (Qb.getD k.toNat 0))) (Qf QM (Zh rf.Qa (Qb.getD k.toNat 0))))
def jK(rf:Qg):Value:=(QV (Li (List.map ZM rf.Qa)) (Qf QM (List.map ZM rf.Qa)))
theorem wk(B:Lo)(rf:Qg)(Qb:List Int)(fa fb fc fd k:Int):CE.finK 4 (Q2 YP (QE YP) J0 B 10 4 (Sq rf Qb fa fb fc fd k) (J6 rf Qb fa fb fc fd k) 4
 [(10,Qk.pure (jK rf) []),(12,Qk.pure (QV (Li (V8 rf)) (Qf Qp (V8 rf))) []),(15,Qk.pure (jL rf Qb k) []),(17,Qk.pure (QV (Li (V9 rf Qb k)) (Qf Qp (V9 rf Qb k))) []),(18,Qk.wri [7] [9,11,0] [false] [] (oR rf.Qa rf.Qq rf.Qd fa fb fc fd (.slice none 0 0) (.slice none 0 0) (V8 rf) (V9 rf Qb k) 0 0 0 0 0) (oQ rf.Qa rf.Qq rf.Qd fa fb fc fd (.slice none 0 0) (.slice none 0 0) (V8 rf) (V9 rf Qb k) 0 0 0 0 0) (oS rf.Qa rf.Qq rf.Qd fa fb fc fd (.slice none 0 0) (.slice none 0 0) (V8 rf) (V9 rf Qb k) 0 0 0 0 0))] 0 [] []) [] [] []=some (OO.ret (.agg (Sp rf Qb fa fb fc fd k)),[],[],
 [QB []/\EW rf.Qa rf.Qq rf.Qd (fa) (fb) (fc) (fd) (.slice none 0 0) (.slice none 0 0) (List.map SJ (List.map ZM rf.Qa)) (List.map gS (Zh rf.Qa (Qb.getD k.toNat 0))) (0) (0) (0) (0) (0),QB []/\Q6 YP J0 97 #[QV (Li (Zh rf.Qa (Qb.getD k.toNat 0))) (Qf QM (Zh rf.Qa (Qb.getD k.toNat 0))),Value.func (Fn.func 77) #[] #[]] (QV (Li (List.map gS (Zh rf.Qa (Qb.getD k.toNat 0)))) (Qf Qp (List.map gS (Zh rf.Qa (Qb.getD k.toNat 0))))),QB []/\Q6 YP J0 84 #[.agg (jM rf Qb),.int .i64 k] (jL rf Qb k),QB []/\Q6 YP J0 97 #[QV (Li (List.map ZM rf.Qa)) (Qf QM (List.map ZM rf.Qa)),Value.func (Fn.func 76) #[] #[]] (QV (Li (List.map SJ (List.map ZM rf.Qa))) (Qf Qp (List.map SJ (List.map ZM rf.Qa)))),QB []/\Q6 YP J0 83 #[.agg (jM rf Qb)] (jK rf)]):=by kernel_rfl
theorem wj(B:Lo)(rf:Qg)(Qb:List Int)(fa fb fc fd k:Int):X2 (Q2 YP (QE YP) J0 B 6 1 (Q3 YP 78 11 (([.agg (X8 rf Qb).toArray,.agg #[.int .i64 fa,.int .i64 fb,.int .i64 fc,.int .i64 fd],.int .i64 k]).map (QD 0 4))) Z9 1
 [(6,Qk.call (Ln 4) (OO.ret (.agg (Sp rf Qb fa fb fc fd k))) ([]++(4,XG)::XF 5 []) 5 [])] 0 [] []) []=some (.agg (Sp rf Qb fa fb fc fd k),
 [FJ YP B (Sq rf Qb fa fb fc fd k) (J6 rf Qb fa fb fc fd k) 4 (OO.ret (.agg (Sp rf Qb fa fb fc fd k))) (([]++((4,XG)::XF (4+1) []))++J6 rf Qb fa fb fc fd k) 5 (Ln 4) []]):=by kernel_rfl
set_option maxHeartbeats 4000000 in
theorem zp(rf:Qg)(Qb:List Int)(fa fb fc fd k:Int)(hr:Zq rf=true)(hl:Qb.length<=4)(hp:∀j:Nat,0<=Qb.getD j 0/\Qb.getD j 0<=1000000)(k0:0<=k)(k1:k<4)(hf:PC ⟨fa,fb,fc,fd⟩)(hs:F4.sum ⟨fa,fb,fc,fd⟩<=10000000000){B:Lo}(hJ:∀w,B.has w->J0 w):EndsT YP B (Q3 YP 78 11 (([.agg (X8 rf Qb).toArray,.agg #[.int .i64 fa,.int .i64 fb,.int .i64 fc,.int .i64 fd],.int .i64 k]).map (QD 0 4))) (.agg #[.int .i64 (Xn (Ue rf) (JT rf (Qb.getD k.toNat 0)) rf.Qa ⟨fa,fb,fc,fd⟩).a,.int .i64 (Xn (Ue rf) (JT rf (Qb.getD k.toNat 0)) rf.Qa ⟨fa,fb,fc,fd⟩).b,.int .i64 (Xn (Ue rf) (JT rf (Qb.getD k.toNat 0)) rf.Qa ⟨fa,fb,fc,fd⟩).c,.int .i64 (Xn (Ue rf) (JT rf (Qb.getD k.toNat 0)) rf.Qa ⟨fa,fb,fc,fd⟩).d]):=by
 have Wx:=QG (Qz hr).1;have hpc:=Cw hr;have hg1:K8 rf.Qa.length ((rf.Qa.map ZM).map SJ) 2000:=(ew hr).1;have ht1:K8 rf.Qa.length ((Zh rf.Qa (Qb.getD k.toNat 0)).map gS) 1000000:=(dz hr (Qb.getD k.toNat 0)).2;have hle1:(Zh rf.Qa (Qb.getD k.toNat 0)).length=rf.Qa.length:=Kc;have hle2:(rf.Qa.map ZM).length=rf.Qa.length:=by simp
 have rj0:FJ YP B (Sq rf Qb fa fb fc fd k) (J6 rf Qb fa fb fc fd k) 4 (OO.ret (.agg #[.int .i64 (F4.a (Xn (List.map SJ (List.map ZM rf.Qa)) (List.map gS (Zh rf.Qa (Qb.getD k.toNat 0))) rf.Qa {a:=fa,b:=fb,c:=fc,d:=fd})),.int .i64 (F4.b (Xn (List.map SJ (List.map ZM rf.Qa)) (List.map gS (Zh rf.Qa (Qb.getD k.toNat 0))) rf.Qa {a:=fa,b:=fb,c:=fc,d:=fd})),.int .i64 (F4.c (Xn (List.map SJ (List.map ZM rf.Qa)) (List.map gS (Zh rf.Qa (Qb.getD k.toNat 0))) rf.Qa {a:=fa,b:=fb,c:=fc,d:=fd})),.int .i64 (F4.d (Xn (List.map SJ (List.map ZM rf.Qa)) (List.map gS (Zh rf.Qa (Qb.getD k.toNat 0))) rf.Qa {a:=fa,b:=fb,c:=fc,d:=fd}))])) (([]++((4,XG)::XF (4+1) []))++J6 rf Qb fa fb fc fd k) 5 (Ln 4) []:=by
  exact FinK.fjB (GoE.finK okF hJ Qh (QF (by kernel_rfl)) (Q5 (by kernel_rfl)) ((GoE.refl (P:=YP) (B:=B) (c0:=Sq rf Qb fa fb fc fd k) (QF (by kernel_rfl))).widen (Wf:=((([]):List (Nat×KS)).map (·.1))) (by simp) (Q5 (by kernel_rfl))) (wk B rf Qb fa fb fc fd k)
   ⟨⟨trivial,Ie rf.Qa rf.Qq rf.Qd (fa) (fb) (fc) (fd) (.slice none 0 0) (.slice none 0 0) (List.map SJ (List.map ZM rf.Qa)) (List.map gS (Zh rf.Qa (Qb.getD k.toNat 0))) (0) (0) (0) (0) (0) (by with_reducible assumption) (by with_reducible assumption) (by with_reducible assumption) (by with_reducible assumption) (by with_reducible assumption) (by omega) (by omega) (by omega)⟩,⟨⟨trivial,Hm (Zh rf.Qa (Qb.getD k.toNat 0)) (by omega)⟩,⟨⟨trivial,Ha (rf) (Qb) (k) (by omega) (by with_reducible assumption) (by with_reducible assumption) (by with_reducible assumption) (by with_reducible assumption)⟩,⟨⟨trivial,CA (List.map ZM rf.Qa) (by omega)⟩,⟨⟨trivial,He (rf) (Qb) (by omega)⟩,trivial⟩⟩⟩⟩⟩) (ex:=[]) (by kernel_rfl) (KA _)
 exact(GoE.endsT okF hJ Qh GoE.start (wj B rf Qb fa fb fc fd k)
  ⟨rj0,trivial⟩).cast (by rfl)
theorem gN(rf:Qg)(Qb:List Int)(fa fb fc fd k:Int)(hr:Zq rf=true)(hl:Qb.length<=4)(hp:∀j:Nat,0<=Qb.getD j 0/\Qb.getD j 0<=1000000)(k0:0<=k)(k1:k<4)(hf:PC ⟨fa,fb,fc,fd⟩)(hs:F4.sum ⟨fa,fb,fc,fd⟩<=10000000000):Q6 YP J0 78 #[.agg (X8 rf Qb).toArray,.agg #[.int .i64 fa,.int .i64 fb,.int .i64 fc,.int .i64 fd],.int .i64 k] (.agg #[.int .i64 (Xn (Ue rf) (JT rf (Qb.getD k.toNat 0)) rf.Qa ⟨fa,fb,fc,fd⟩).a,.int .i64 (Xn (Ue rf) (JT rf (Qb.getD k.toNat 0)) rf.Qa ⟨fa,fb,fc,fd⟩).b,.int .i64 (Xn (Ue rf) (JT rf (Qb.getD k.toNat 0)) rf.Qa ⟨fa,fb,fc,fd⟩).c,.int .i64 (Xn (Ue rf) (JT rf (Qb.getD k.toNat 0)) rf.Qa ⟨fa,fb,fc,fd⟩).d]):=
 XD (ts:=[.agg (X8 rf Qb).toArray,.agg #[.int .i64 fa,.int .i64 fb,.int .i64 fc,.int .i64 fd],.int .i64 k]) ZF (c0:=Q3 YP 78 11 (([.agg (X8 rf Qb).toArray,.agg #[.int .i64 fa,.int .i64 fb,.int .i64 fc,.int .i64 fd],.int .i64 k]).map (QD 0 4))) (by kernel_rfl) (by kernel_rfl) fun B hJ=>zp rf Qb fa fb fc fd k hr hl hp k0 k1 hf hs hJ
end
end Go.Proofs.Ytncjjangllkokaa

namespace Go.Proofs.Ytncjjangllkokaa
open Go Go.CE Go.RowKit
set_option maxRecDepth 100000
abbrev iz(l:List Span):List Value:=[Pz l]
def Xr(rf:Qg):List (List Int):=Z5 rf.Qd fun _=>Ue rf
def Xt(rf:Qg):List (List Int):=Z5 rf.Qd fun _=>Ad rf
def Xs(rf:Qg)(Qb:List Int):List (List Int):=Z5 rf.Qd fun s=>yx rf (Qb.getD s.toNat 0)
def Xq(rf:Qg)(Qb:List Int):List (List Int):=Z5 rf.Qd fun s=>JT rf (Qb.getD s.toNat 0)
def Q7(rf:Qg)(Qb:List Int)(k:Nat):F4:=Z6 rf.Qa (Xr rf) (Xq rf Qb) (Qe (Zv rf)) k
def Is(rf:Qg)(Qb:List Int)(k:Nat):F4:=Z6 rf.Qa (Xt rf) (Xs rf Qb) (Qe (ZC rf)) k
def fV(rf:Qg)(Qb:List Int)(s k:Int):Span:=⟨(Q7 rf Qb (s.toNat+1)).at k,(Is rf Qb (s.toNat+1)).at k⟩
def iF(rf:Qg)(Qb:List Int)(s:Int):List Span:=Z5 rf.Qa.length fun k=>fV rf Qb s k
def Zb(rf:Qg)(Qb:List Int):List (List Span):=Z5 rf.Qd fun k=>iF rf Qb k
theorem mT{l:List Int}(h:∀k:Int,0<=k->k<4->0<=nth l k/\nth l k<=4000000):PC (Qe l)/\(Qe l).sum<=16000000:=by
 have a0:=h 0 (by omega) (by omega);have a1:=h 1 (by omega) (by omega);have a2:=h 2 (by omega) (by omega);have a3:=h 3 (by omega) (by omega);have es:(Qe l).sum=nth l 0+nth l 1+nth l 2+nth l 3:=rfl;exact⟨⟨⟨a0.1,a1.1,a2.1,a3.1⟩,by omega⟩,by omega⟩
theorem Gi{rf:Qg}(hr:Zq rf=true){g:Span->Int}(hg:∀s:Span,g s=s.lo\/g s=s.hi):∀k:Int,0<=k->k<4->0<=nth ((rf.Qa.map (XY rf.Qq)).map g) k/\nth ((rf.Qa.map (XY rf.Qq)).map g) k<=4000000:=fun k k0 k1=>by
 have hs:=QG (Qz hr).1;by_cases hk:k<rf.Qa.length
 ·have hp:=Xc ((Qz hr).2 k k0 hk).1;have hm:=K9 (a:=(rf.Qa.getD k.toNat Le).count) (r:=rf.Qq) (by omega) (by omega);have hm2:(rf.Qa.getD k.toNat Le).count*rf.Qq<=1000000*2000:=Int.mul_le_mul hp.1.2 hs.2.1.2 hs.2.1.1 (by omega);have e2:((rf.Qa.getD k.toNat Le).count*rf.Qq).tdiv 1000=((rf.Qa.getD k.toNat Le).count*rf.Qq) / 1000:=Ma hm.1;rw[Sv k0 hk];rcases hg (XY rf.Qq (rf.Qa.getD k.toNat Le))with e|e
  ·rw[e];simp only[XY];omega
  ·rw[e];simp only[XY,Ub];omega
 ·unfold nth;rw[Lu,LL (by simp;omega)];exact⟨LW _,by decide⟩
theorem D4{rf:Qg}(hr:Zq rf=true){gs ts:List (List Int)}{l:List Int}(hg:gs.length=rf.Qd)(ht:ts.length=rf.Qd)(rg:∀k:Nat,k<rf.Qd->K8 rf.Qa.length (gs.getD k Le) 2000)(rt:∀k:Nat,k<rf.Qd->K8 rf.Qa.length (ts.getD k Le) 1000000)(hl:PC (Qe l)/\(Qe l).sum<=16000000):OkT rf.Qa rf.Qd gs ts (Qe l):=by
 have hs:=QG (Qz hr).1;exact⟨Cw hr,by omega,by omega,by omega,hg,ht,rg,rt,hl.1,by omega⟩
theorem zW{rf:Qg}(hr:Zq rf=true):PC (Qe (Zv rf))/\(Qe (Zv rf)).sum<=16000000:=mT (Gi hr fun _=>.inl rfl)
theorem wU{rf:Qg}(hr:Zq rf=true):PC (Qe (ZC rf))/\(Qe (ZC rf)).sum<=16000000:=mT (Gi hr fun _=>.inr rfl)
theorem ep{rf:Qg}(Qb:List Int)(hr:Zq rf=true):OkT rf.Qa rf.Qd (Xr rf) (Xq rf Qb) (Qe (Zv rf)):=by
 have hs:=QG (Qz hr).1;refine D4 hr (by rw[Xr,Xk];omega) (by rw[Xq,Xk];omega) (fun k hk=> ?_) (fun k hk=> ?_) (zW hr)
 ·have e:(Xr rf).getD k Le=Ue rf:=X4 (k:=(k:Int)) (by omega) hk;rw[e];exact(ew hr).1
 ·have e:(Xq rf Qb).getD k Le=JT rf (Qb.getD ((k:Int)).toNat 0):=X4 (k:=(k:Int)) (by omega) hk;rw[e];exact(dz hr _).2
theorem gR{rf:Qg}(Qb:List Int)(hr:Zq rf=true):OkT rf.Qa rf.Qd (Xt rf) (Xs rf Qb) (Qe (ZC rf)):=by
 have hs:=QG (Qz hr).1;refine D4 hr (by rw[Xt,Xk];omega) (by rw[Xs,Xk];omega) (fun k hk=> ?_) (fun k hk=> ?_) (wU hr)
 ·have e:(Xt rf).getD k Le=Ad rf:=X4 (k:=(k:Int)) (by omega) hk;rw[e];exact(ew hr).2
 ·have e:(Xs rf Qb).getD k Le=yx rf (Qb.getD ((k:Int)).toNat 0):=X4 (k:=(k:Int)) (by omega) hk;rw[e];exact(dz hr _).1
theorem CY{rf:Qg}{Qb:List Int}{i:Int}(h0:0<=i)(h:i<rf.Qd):Q7 rf Qb (i+1).toNat=Xn (Ue rf) (JT rf (Qb.getD i.toNat 0)) rf.Qa (Q7 rf Qb i.toNat):=by
 rw[show(i+1).toNat=i.toNat+1 by omega];show Xn _ _ _ _=_;have e1:(Xr rf).getD i.toNat Le=Ue rf:=X4 h0 h;have e2:(Xq rf Qb).getD i.toNat Le=JT rf (Qb.getD i.toNat 0):=X4 h0 h;rw[e1,e2];rfl
theorem rr{rf:Qg}{Qb:List Int}{s:Int}:(iF rf Qb s).length=rf.Qa.length:=by rw[iF,Xk];omega
end Go.Proofs.Ytncjjangllkokaa

namespace Go.Proofs.Ytncjjangllkokaa
open Go Go.CE Go.RowKit
abbrev y2(xs:List (List Span)):Value:=QV xs.length (Qf iz xs)
end Go.Proofs.Ytncjjangllkokaa

namespace Go.CE
open Go Go.RowKit
section
variable {α β:Type}
def Sw(ke:α->Value)(ve:β->Value):List (α×β)->Nat->List MapEntry
 |[],_=>[]
 |p::l,i=>{key:=ke p.1,val:=ve p.2,born:=i}::Sw ke ve l (i+1)
structure qH (α β:Type) where
 ke:α->Value
 ve:β->Value
 eq:α->α->Bool
def mapA(M:qH α β)(l:List (α×β)):Array MapEntry:=(Sw M.ke M.ve l 0).toArray
def YH(eq:α->α->Bool)(l:List (α×β))(k:α):Bool:=l.any fun p=>eq k p.1
def uu[Inhabited β](eq:α->α->Bool):List (α×β)->α->β
 |[],_=>Le
 |p::l,k=>bif eq k p.1 then p.2 else uu eq l k
def JD(eq:α->α->Bool):List (α×β)->α->Nat->Option (Nat×β)
 |[],_,_=>none
 |p::l,k,i=>bif eq k p.1 then some (i,p.2)else JD eq l k (i+1)
def vH(eq:α->α->Bool):List (α×β)->α->β->List (α×β)
 |[],k,x=>[(k,x)]
 |p::l,k,x=>bif eq k p.1 then(k,x)::l else p::vH eq l k x
def S5(M:qH α β)(l:List (α×β))(k:α):Bool:=YH M.eq l k
def JG[Inhabited β](M:qH α β)(l:List (α×β))(k:α):β:=uu M.eq l k
def U1(M:qH α β)(l:List (α×β))(k:α)(x:β):List (α×β):=vH M.eq l k x
theorem lK[Inhabited β]{eq:α->α->Bool}:∀{l:List (α×β)} {k:α} {i:Nat},YH eq l k=true->∃j,JD eq l k i=some (j,uu eq l k)
 |[],k,i,h=>by simp[YH]at h
 |p::l,k,i,h=>by
  unfold JD uu;cases e:eq k p.1 with
  |true=>exact⟨i,rfl⟩
  |false=>
   have h':YH eq l k=true:=by
    unfold YH at h ⊢;rw[List.any_cons,e,Bool.false_or]at h;exact h
   exact lK h'
theorem fE{eq:α->α->Bool}:∀{l:List (α×β)} {k:α} {i:Nat},YH eq l k=false->JD eq l k i=none
 |[],k,i,h=>rfl
 |p::l,k,i,h=>by
  unfold YH at h;rw[List.any_cons,Bool.or_eq_false_iff]at h;unfold JD;rw[h.1];exact fE (by unfold YH;exact h.2)
theorem uv{eq:α->α->Bool}:∀{l:List (α×β)} {k:α} {i j:Nat} {x:β},JD eq l k i=some (j,x)->i<=j/\∃p,l[j-i]? =some p/\eq k p.1=true/\∀y,vH eq l k y=l.set (j-i) (k,y)
 |[],k,i,j,x,h=>by cases h
 |p::l,k,i,j,x,h=>by
  unfold JD at h;cases e:eq k p.1 with
  |true=>
   rw[e]at h;simp only[cond_true,YO,YR]at h;obtain⟨rfl,_⟩:=h;exact⟨LC _,p,by simp,e,fun y=>by simp[vH,e]⟩
  |false=>
   rw[e]at h;simp only[cond_false]at h;obtain⟨h1,q,h2,h3,h4⟩:=uv h;have e2:j-i=(j-(i+1))+1:=by omega
   exact⟨by omega,q,by rw[e2];simpa using h2,h3,fun y=>by rw[e2];simp[vH,e,h4 y]⟩
theorem sq{eq:α->α->Bool}:∀{l:List (α×β)} {k:α} {x:β},YH eq l k=false->vH eq l k x=l++[(k,x)]
 |[],k,x,_=>rfl
 |p::l,k,x,h=>by
  unfold YH at h;rw[List.any_cons,Bool.or_eq_false_iff]at h;unfold vH;rw[h.1];exact congrArg (p::·) (sq (by unfold YH;exact h.2))
structure KeyC (P:Program) (kt:TypeId) (ke:α->Value) (eq:α->α->Bool):Prop where
 af:∀k,af (ke k)=true
 ck:∀b k,Xx P (Instr.checkKey b 10000 kt (ke k))=some ()
 sb:∀k,Instr.sameBits 10000 (ke k) (ke k)=true
 same:∀k k',eq k k'=true->k=k'
 un:∃d,Xx P (underlying kt)=some d/\((∀k k',Instr.sameNow d (ke k) (ke k')=some (eq k k'))\/((∀k k',Instr.sameNow d (ke k) (ke k')=none)/\∀k k',Xx P (Op.equal kt (ke k) (ke k'))=some (eq k k')))
theorem JA{ke:α->Value}{ve:β->Value}:∀{l:List (α×β)} {i j:Nat},(Sw ke ve l i)[j]? =(l[j]?).map fun p=>{key:=ke p.1,val:=ve p.2,born:=i+j}
 |[],i,j=>by simp[Sw]
 |p::l,i,0=>by simp[Sw]
 |p::l,i,j+1=>by
  simp only[Sw,List.getElem?_cons_succ];rw[JA (l:=l),show i+1+j=i+(j+1)by omega]
theorem jZ{ke:α->Value}{ve:β->Value}:∀{l:List (α×β)} {i:Nat},(Sw ke ve l i).length=l.length
 |[],i=>rfl
 |p::l,i=>by simp[Sw,jZ (l:=l)]
variable {P:Program} {kt:TypeId} {ke:α->Value} {ve:β->Value} {eq:α->α->Bool}
theorem uI{d:TypeDesc}(h:∀k k',Instr.sameNow d (ke k) (ke k')=some (eq k k')){k:α}:∀{l:List (α×β)} {i n:Nat},Instr.findNow d (ke k) (Sw ke ve l n) i=some ((JD eq l k i).map fun p=>(p.1,ve p.2))
 |[],i,n=>rfl
 |p::l,i,n=>by
  simp only[Sw,Instr.findNow,h,JD];cases e:eq k p.1 with
  |true=>rfl
  |false=>exact uI h (l:=l)
theorem uJ(h:∀k k',Xx P (Op.equal kt (ke k) (ke k'))=some (eq k k')){k:α}:∀{l:List (α×β)} {i n:Nat},Xx P (Instr.findAsking kt (ke k) (Sw ke ve l n) i)=some ((JD eq l k i).map fun p=>(p.1,ve p.2))
 |[],i,n=>rfl
 |p::l,i,n=>by
  simp only[Sw,Instr.findAsking,Zx,h,JD];cases e:eq k p.1 with
  |true=>rfl
  |false=>simpa using uJ h (l:=l)
theorem KeyC.find(h:KeyC P kt ke eq){k:α}{l:List (α×β)}:Xx P (Instr.findKey kt (ke k) (Sw ke ve l 0))=some ((JD eq l k 0).map fun p=>(p.1,ve p.2)):=by
 obtain⟨d,hd,h1|⟨h1,h2⟩⟩:=h.un
 ·simp only[Instr.findKey,Zx,hd,uI h1,WG]
 ·simp only[Instr.findKey,Zx,hd];cases l with
  |nil=>rfl
  |cons p l=>
   have e:Instr.findNow d (ke k) (Sw ke ve (p::l) 0) 0=none:=by simp[Sw,Instr.findNow,h1]
   rw[e];exact uJ h2
theorem pw[Inhabited β]{M:qH α β}(hk:KeyC P kt M.ke M.eq){t e:TypeId}(hu:JO P t=some (.map kt e)){l:List (α×β)}{k:α}{ok:Bool}(h:S5 M l k=true):JM P t (mapA M l) ok (M.ke k) (bif ok then .tuple #[M.ve (JG M l k),.bool true]else M.ve (JG M l k)):=by
 intro H r JS hg;obtain⟨j,hj⟩:=lK (eq:=M.eq) (i:=0) h;unfold SA;rw[hu];simp only[hg,hk.af,cond_true,hk.ck];have hf:Xx P (Instr.findKey kt (M.ke k) (mapA M l).toList)=some (some (j,M.ve (JG M l k))):=by
  show Xx P (Instr.findKey kt (M.ke k) (Sw M.ke M.ve l 0))=_;rw[hk.find,hj];rfl
 rw[hf]
theorem px{M:qH α β}(hk:KeyC P kt M.ke M.eq){t e:TypeId}{z:Value}(hu:JO P t=some (.map kt e))(hz:zeroOf P e=some z)(ha:Go.CE.af z=true){l:List (α×β)}{k:α}{ok:Bool}(h:S5 M l k=false):JM P t (mapA M l) ok (M.ke k) (bif ok then .tuple #[z,.bool false]else z):=by
 intro H r JS hg;unfold SA;rw[hu];simp only[hg,hk.af,cond_true,hk.ck];have hf:Xx P (Instr.findKey kt (M.ke k) (mapA M l).toList)=some none:=by
  show Xx P (Instr.findKey kt (M.ke k) (Sw M.ke M.ve l 0))=_;rw[hk.find,fE h];rfl
 rw[hf,hz];simp only[ha,cond_true]
theorem Fu{M:qH α β}(hk:KeyC P kt M.ke M.eq){t e:TypeId}(hu:JO P t=some (.map kt e)){l:List (α×β)}{k:α}{x:β}:eJ P t (mapA M l) l.length (M.ke k) (M.ve x) (mapA M (U1 M l k x)) (U1 M l k x).length:=by
 intro H r hg;unfold Kj;rw[hu];simp only[hg,hk.af,cond_true,hk.ck];cases hb:JD M.eq l k 0 with
 |some p=>
  obtain⟨j,y⟩:=p;have hf:Xx P (Instr.findKey kt (M.ke k) (mapA M l).toList)=some (some (j,M.ve y)):=by
   show Xx P (Instr.findKey kt (M.ke k) (Sw M.ke M.ve l 0))=_;rw[hk.find,hb];rfl
  rw[hf];obtain⟨_,q,h2,h3,h4⟩:=uv hb;have eq1:=hk.same _ _ h3;have h4:∀y,U1 M l k y=l.set (j-0) (k,y):=h4;have hj:j<l.length:=(List.getElem?_eq_some_iff.1 h2).1;have hg2:(mapA M l)[j]? =some {key:=M.ke q.1,val:=M.ve q.2,born:=j}:=by
   unfold mapA;rw[LX,JA,show l[j]? =some q by simpa using h2];simp
  simp only[hg2];rw[<-eq1,hk.sb];simp only[cond_true];have es:(mapA M l).setIfInBounds j {key:=M.ke k,val:=M.ve x,born:=j}=mapA M (U1 M l k x):=by
   rw[h4 x];apply Array.ext_getElem?;intro i;unfold mapA;rw[Array.getElem?_setIfInBounds,LX,LX,JA,JA,List.getElem?_set];simp only[Nat.sub_zero,LF,List.size_toArray,jZ];by_cases Pq:j=i
   ·subst Pq;simp[hj]
   ·simp[Pq]
  rw[es,h4 x,LS]
 |none=>
  have hf:Xx P (Instr.findKey kt (M.ke k) (mapA M l).toList)=some none:=by
   show Xx P (Instr.findKey kt (M.ke k) (Sw M.ke M.ve l 0))=_;rw[hk.find,hb];rfl
  rw[hf];have hnb:S5 M l k=false:=by
   cases hq:YH M.eq l k with
   |false=>exact hq
   |true=>
    exfalso;have:∀(l:List (α×β)) (i:Nat),YH M.eq l k=true->JD M.eq l k i≠none:=by
     intro l;induction l with
     |nil=>intro i h;simp[YH]at h
     |cons p l ih=>
      intro i h;unfold JD;cases e:M.eq k p.1 with
      |true=>simp
      |false=>
       simp only[cond_false];refine ih _ ?_;unfold YH at h ⊢;rw[List.any_cons,e,Bool.false_or]at h;exact h
    exact this l 0 hq hb
  rw[show U1 M l k x=l++[(k,x)]from sq hnb];have es:(mapA M l).push {key:=M.ke k,val:=M.ve x,born:=l.length}=mapA M (l++[(k,x)]):=by
   apply Array.ext_getElem?;intro i;unfold mapA;rw[Array.getElem?_push,LX,LX,JA,JA,List.getElem?_append];simp only[LF,List.size_toArray,jZ];by_cases h1:i=l.length
   ·subst h1;simp
   ·by_cases h2:i<l.length
    ·simp[h1,h2]
    ·have h3:i-l.length≠0:=by omega
     obtain⟨m,hm⟩:∃m,i-l.length=m+1:=⟨i-l.length-1,by omega⟩
     simp[h1,h2,hm]
  simp only[es,Ly,LB,LK,LF]
theorem XL{M:qH α β}(h:∀x,af (M.ve x)=true){l:List (α×β)}:XW (mapA M l):=by
 intro i e he;unfold mapA at he;rw[LX,JA]at he;obtain⟨p,_,rfl⟩:=Option.map_eq_some_iff.1 he;exact h _
end
end Go.CE

namespace Go.Proofs.Ytncjjangllkokaa
open Go Go.CE Go.RowKit
set_option maxRecDepth 100000
def T5(Qb:List Int)(s:Int):F4:=⟨if 0<s then Qb.getD 0 0 else -1,if 1<s then Qb.getD 1 0 else -1,if 2<s then Qb.getD 2 0 else -1,if 3<s then Qb.getD 3 0 else -1⟩
def H7(x y:F4):Bool:=decide (x.a=y.a) && (decide (x.b=y.b) && (decide (x.c=y.c) && decide (x.d=y.d)))
theorem uM{x y:F4}:H7 x y=true<->x=y:=by
 cases x;cases y;simp[H7]
abbrev v4(f:F4):Value:=.agg #[.int .i64 f.a,.int .i64 f.b,.int .i64 f.c,.int .i64 f.d]
def QA:qH F4 F4:=⟨v4,v4,H7⟩
theorem oP{P:Program}{t:TypeId}{a b:Int}{d:Nat}(hu:Xx P (underlying t)=some (.int .i64)):Xx P (Op.equalIn (d+1) t (.int .i64 a) (.int .i64 b))=some (decide (a=b)):=by
 rw[Op.equalIn,Zx,hu];simp only[if_true,WG];congr 1
theorem WR:KeyC YP 82 QA.ke QA.eq:=⟨fun _=>by kernel_rfl,fun _ _=>by kernel_rfl,fun k=>by
 show((true && ((decide (IntKind.i64=.i64) && k.a==k.a) && _)):Bool)=true;simp[Instr.sameBits],fun k k' h=>uM.1 h,⟨.array 4 3,by kernel_rfl,.inr ⟨fun _ _=>by kernel_rfl,fun k k'=>by
  have hi:Xx YP (underlying 3)=some (.int .i64):=by kernel_rfl
  have hs:Xx YP (sizeOf 3)=some 1:=by kernel_rfl
  have hk:Xx YP (underlying 82)=some (.array 4 3):=by kernel_rfl
  have h0:∀(a b c d:Int),Xx YP (part 3 #[.int .i64 a,.int .i64 b,.int .i64 c,.int .i64 d] (0*1))=some (.int .i64 a):=fun a b c d=>by kernel_rfl
  have h1:∀(a b c d:Int),Xx YP (part 3 #[.int .i64 a,.int .i64 b,.int .i64 c,.int .i64 d] ((0+1)*1))=some (.int .i64 b):=fun a b c d=>by kernel_rfl
  have h2:∀(a b c d:Int),Xx YP (part 3 #[.int .i64 a,.int .i64 b,.int .i64 c,.int .i64 d] ((0+1+1)*1))=some (.int .i64 c):=fun a b c d=>by kernel_rfl
  have h3:∀(a b c d:Int),Xx YP (part 3 #[.int .i64 a,.int .i64 b,.int .i64 c,.int .i64 d] ((0+1+1+1)*1))=some (.int .i64 d):=fun a b c d=>by kernel_rfl
  show Xx YP (Op.equalIn (9998+1+1) 82 (.agg #[.int .i64 k.a,.int .i64 k.b,.int .i64 k.c,.int .i64 k.d]) (.agg #[.int .i64 k'.a,.int .i64 k'.b,.int .i64 k'.c,.int .i64 k'.d]))=_;rw[Op.equalIn,Zx,hk];simp only[Zx,hs];rw[Std.Legacy.Range.forIn_eq_forIn_range'];simp only[Std.Legacy.Range.size,LD,List.forIn_cons,List.forIn_nil,Zx];show _=some (decide (k.a=k'.a) && (decide (k.b=k'.b) && (decide (k.c=k'.c) && decide (k.d=k'.d))));simp only[Zx,h0,oP hi];cases decide (k.a=k'.a)with
  |false=>rfl
  |true=>
   simp only[Bool.not_true,Bool.false_eq_true,if_false,WG,Bool.true_and];simp only[Zx,h1,oP hi];cases decide (k.b=k'.b)with
   |false=>rfl
   |true=>
    simp only[Bool.not_true,Bool.false_eq_true,if_false,WG,Bool.true_and];simp only[Zx,h2,oP hi];cases decide (k.c=k'.c)with
    |false=>rfl
    |true=>
     simp only[Bool.not_true,Bool.false_eq_true,if_false,WG,Bool.true_and];simp only[Zx,h3,oP hi];cases decide (k.d=k'.d)with
     |false=>rfl
     |true=>
      simp only[Bool.not_true,Bool.false_eq_true,if_false,WG,Bool.true_and]⟩⟩⟩
def JN(rf:Qg)(es:List (F4×F4)):Prop:=∀p∈es,∃(pl:List Int) (s:Nat),XN rf pl=true/\1<=s/\(s:Int)<=rf.Qd/\p.1=T5 pl s/\p.2=Q7 rf pl s
def Xg(rf:Qg)(Qb:List Int):Nat->List (F4×F4)->List (F4×F4)
 |0,es=>es
 |s+1,es=>bif S5 QA es (T5 Qb ((s+1:Nat):Int))then es else U1 QA (Xg rf Qb s es) (T5 Qb ((s+1:Nat):Int)) (Xn (Ue rf) (JT rf (Qb.getD s 0)) rf.Qa (Q7 rf Qb s))
theorem Y2{rf:Qg}:JN rf []:=fun p h=>by cases h
theorem FF{es:List (F4×F4)}{k:F4}(h:S5 QA es k=true):(k,JG QA es k)∈es:=by
 induction es with
 |nil=>cases h
 |cons p l ih=>
  unfold S5 YH at h;unfold JG uu;rw[List.any_cons]at h;cases e:QA.eq k p.1 with
  |true=>rw[uM.1 e];exact List.mem_cons_self ..
  |false=>
   rw[e,Bool.false_or]at h;exact Lw _ (ih h)
theorem DP{rf:Qg}(hr:Zq rf=true){pl pl':List Int}{s s':Nat}(h:XN rf pl=true)(h':XN rf pl'=true)(hs:(s:Int)<=rf.Qd)(hs':(s':Int)<=rf.Qd)(e:T5 pl s=T5 pl' s'):s=s'/\∀k:Nat,k<s->pl.getD k 0=pl'.getD k 0:=by
 have Wx:=QG (Qz hr).1;have g:=fun j=>XS hr h j
 have g':=fun j=>XS hr h' j
 have e0:=congrArg F4.a e;have e1:=congrArg F4.b e;have e2:=congrArg F4.c e;have e3:=congrArg F4.d e;simp only[T5]at e0 e1 e2 e3;have g0:=g 0;have g1:=g 1;have g2:=g 2;have g3:=g 3;have g0':=g' 0;have g1':=g' 1;have g2':=g' 2;have g3':=g' 3;have es:s=s':=by
  repeat' split at e0
  all_goals (repeat' split at e1)
  all_goals (repeat' split at e2)
  all_goals (repeat' split at e3)
  all_goals omega
 subst es;refine⟨rfl,fun k hk=> ?_⟩;rcases(show k=0\/k=1\/k=2\/k=3 by omega)with rfl|rfl|rfl|rfl
 ·rw[if_pos (by omega),if_pos (by omega)]at e0;exact e0
 ·rw[if_pos (by omega),if_pos (by omega)]at e1;exact e1
 ·rw[if_pos (by omega),if_pos (by omega)]at e2;exact e2
 ·rw[if_pos (by omega),if_pos (by omega)]at e3;exact e3
theorem Ji{rf:Qg}{Qb:List Int}{s:Nat}(h:((s+1:Nat):Int)<=rf.Qd):Q7 rf Qb (s+1)=Xn (Ue rf) (JT rf (Qb.getD s 0)) rf.Qa (Q7 rf Qb s):=CY (i:=(s:Int)) (by omega) (by omega)
theorem um{rf:Qg}{pl pl':List Int}:∀s:Nat,(s:Int)<=rf.Qd->(∀k:Nat,k<s->pl.getD k 0=pl'.getD k 0)->Q7 rf pl s=Q7 rf pl' s
 |0,_,_=>rfl
 |s+1,hs,h=>by
  rw[Ji hs,Ji hs,um s (by omega) fun k hk=>h k (by omega),h s (by omega)]
theorem ay{rf:Qg}{Qb:List Int}{es:List (F4×F4)}{s:Nat}(hr:Zq rf=true)(hp:XN rf Qb=true)(he:JN rf es)(hs:(s:Int)<=rf.Qd)(h:S5 QA es (T5 Qb s)=true):JG QA es (T5 Qb s)=Q7 rf Qb s:=by
 obtain⟨pl,s',h1,_,h3,h4,h5⟩:=he _ (FF h);obtain⟨rfl,hk⟩:=DP hr hp h1 hs h3 h4;rw[show JG QA es (T5 Qb s)=_ from h5];exact(um s hs hk).symm
theorem Y9{rf:Qg}{Qb:List Int}(hr:Zq rf=true){s:Nat}(hs:(s:Int)<=rf.Qd):PC ⟨(Q7 rf Qb s).a,(Q7 rf Qb s).b,(Q7 rf Qb s).c,(Q7 rf Qb s).d⟩/\F4.sum ⟨(Q7 rf Qb s).a,(Q7 rf Qb s).b,(Q7 rf Qb s).c,(Q7 rf Qb s).d⟩<=10000000000:=by
 have Wx:=QG (Qz hr).1;have h:=(ep Qb hr).st s (by omega);have hh:=(ep Qb hr).hs;refine⟨h.1, ?_⟩;have:=h.2;show(Q7 rf Qb s).sum<=_;unfold Q7;omega
def c7(a b c d k:Int)(w x y z i:Int):List Value:=[pA 2 0,pA 3 0,.int .i64 i]
def Pm(a b c d k:Int)(w x y z i:Int):List Obj:=[.cells #[.int .i64 w,.int .i64 x,.int .i64 y,.int .i64 z] 82 (0,0),Obj.cells #[.int .i64 0,.int .i64 0,.int .i64 0,.int .i64 0] 82]
noncomputable def c8:List Item:=([.code [1,0,1,0,0],.inLoop [1,0,1,0,0],.inBlock 0,.code [1,1]]).map (it (Xa YP 111))
def Fh(B:Lo)(c0:CF)(a b c d k:Int)(w x y z i:Int):Prop:=∃dJ:Nat->Value,(∀t,XH (dJ t))/\GoE YP B c0 Z9 1 (QS 111 14 (([2,4,5]:List Nat).zip (c7 a b c d k w x y z i)) dJ c8) (QN (Pm a b c d k w x y z i)) (2+(Pm a b c d k w x y z i).length) []
theorem Ff(B:Lo)(a b c d k:Int)(w x y z i:Int)(Q0:Nat->Value):landM (Q2 YP (QE YP) J0 B 11 1 (QS 111 14 (([2,4,5]:List Nat).zip (c7 a b c d k w x y z i)) Q0 c8) (QN (Pm a b c d k w x y z i)) (2+(Pm a b c d k w x y z i).length)
 [(1,Vh),(3,Qk.Zl (Hint.idx i.toNat)),(4,Qk.Zl (Hint.st #[.int .i64 (if Lf i=0 then -1 else w),.int .i64 (if Lf i=1 then -1 else x),.int .i64 (if Lf i=2 then -1 else y),.int .i64 (if Lf i=3 then -1 else z)])),(6,WL (i+1))] 0 [] []) [2,4,5] [(2,KS.auto),(3,KS.auto)] []=some ⟨111,14,c8,[],.run,none,c7 a b c d k (if Lf i=0 then -1 else w) (if Lf i=1 then -1 else x) (if Lf i=2 then -1 else y) (if Lf i=3 then -1 else z) (i+1),Pm a b c d k (if Lf i=0 then -1 else w) (if Lf i=1 then -1 else x) (if Lf i=2 then -1 else y) (if Lf i=3 then -1 else z) (i+1),
 [wq (i+1)=i+1,0+Lf i*1+TypeInfo.size Try.t3<=L4 #[Value.int .i64 w,.int .i64 x,.int .i64 y,.int .i64 z]/\splice #[.int .i64 w,.int .i64 x,.int .i64 y,.int .i64 z] (0+Lf i*1) (Value.cells (.int .i64 (-1)))=#[.int .i64 (if Lf i=0 then -1 else w),.int .i64 (if Lf i=1 then -1 else x),.int .i64 (if Lf i=2 then -1 else y),.int .i64 (if Lf i=3 then -1 else z)],i=(↑i.toNat:Int)/\Lf i<4,Zs i 4=true]⟩:=by kernel_rfl
theorem Fe(B:Lo)(a b c d k:Int)(w x y z i:Int)(Q0:Nat->Value):X2 (Q2 YP (QE YP) J0 B 9 1 (QS 111 14 (([2,4,5]:List Nat).zip (c7 a b c d k w x y z i)) Q0 c8) (QN (Pm a b c d k w x y z i)) (2+(Pm a b c d k w x y z i).length)
 [(1,Ud)] 0 [] []) []=some (.agg #[.int .i64 w,.int .i64 x,.int .i64 y,.int .i64 z],
 [Zs i 4=false]):=by kernel_rfl
theorem Fc(B:Lo)(a b c d k:Int):landM (Q2 YP (QE YP) J0 B 7 1 (Q3 YP 111 14 (([.agg #[.int .i64 a,.int .i64 b,.int .i64 c,.int .i64 d],.int .i64 k]).map (QD 0 4))) Z9 1
 [] 0 [] []) [2,4,5] [(1,KS.auto),(2,KS.auto)] []=some ⟨111,14,c8,[],.run,none,c7 a b c d k (a) (b) (c) (d) (k),Pm a b c d k (a) (b) (c) (d) (k),
 []⟩:=by kernel_rfl
set_option maxHeartbeats 4000000 in
theorem Fg(a b c d k:Int)(k0:0<=k)(k4:k<=4){B:Lo}(hJ:∀w,B.has w->J0 w){c0:CF}:∀m:Nat,(∀(w x y z i:Int),(4-i).toNat=m->∀(h0:k<=i) (h4:i<=4) (hw:w=if k<=0/\0<i then -1 else a) (hx:x=if k<=1/\1<i then -1 else b) (hy:y=if k<=2/\2<i then -1 else c) (hz:z=if k<=3/\3<i then -1 else d),Fh B c0 a b c d k w x y z i->EndsT YP B c0 (.agg #[.int .i64 (if 0<k then a else -1),.int .i64 (if 1<k then b else -1),.int .i64 (if 2<k then c else -1),.int .i64 (if 3<k then d else -1)])):=by
 intro m0;induction m0 using LQ with
 |_ m0 ih0=>
  intro w x y z i S1 h0 h4 hw hx hy hz ⟨Q0,VE,Za⟩;by_cases q0:(i:Int)<(4)
  ·exact((ih0 _ (by omega)) (if Lf i=0 then -1 else w) (if Lf i=1 then -1 else x) (if Lf i=2 then -1 else y) (if Lf i=3 then -1 else z) (i+1) rfl (by omega) (by omega) (by omega) (by omega) (by omega) (by omega)
    (Za.landM okF hJ Qh (Ff B a b c d k w x y z i Q0)
    ⟨(Xi (by omega) (by omega)),⟨(m8 rfl (fs:=[w,x,y,z]) rfl (LY (m:=4) (by omega) rfl) rfl),⟨⟨by omega,by omega⟩,⟨(XT q0),trivial⟩⟩⟩⟩ (by kernel_rfl) (by kernel_rfl))).cast (by rfl)
  ·exact(GoE.endsT okF hJ Qh Za (Fe B a b c d k w x y z i Q0)
    ⟨(Zw (Int.not_lt.1 q0)),trivial⟩).cast (by(simp_all[];omega))
set_option maxHeartbeats 4000000 in
theorem Hg(a b c d k:Int)(k0:0<=k)(k4:k<=4){B:Lo}(hJ:∀w,B.has w->J0 w):EndsT YP B (Q3 YP 111 14 (([.agg #[.int .i64 a,.int .i64 b,.int .i64 c,.int .i64 d],.int .i64 k]).map (QD 0 4))) (.agg #[.int .i64 (if 0<k then a else -1),.int .i64 (if 1<k then b else -1),.int .i64 (if 2<k then c else -1),.int .i64 (if 3<k then d else -1)]):=by
 exact((Fg a b c d k k0 k4 hJ _) (a) (b) (c) (d) (k) rfl (by omega) (by with_reducible assumption) (by omega) (by omega) (by omega) (by omega)
  (GoE.start.landM okF hJ Qh (Fc B a b c d k)
  trivial (by kernel_rfl) (by kernel_rfl))).cast (by rfl)
theorem Fi(a b c d k:Int)(k0:0<=k)(k4:k<=4):Q6 YP J0 111 #[.agg #[.int .i64 a,.int .i64 b,.int .i64 c,.int .i64 d],.int .i64 k] (.agg #[.int .i64 (if 0<k then a else -1),.int .i64 (if 1<k then b else -1),.int .i64 (if 2<k then c else -1),.int .i64 (if 3<k then d else -1)]):=
 XD (ts:=[.agg #[.int .i64 a,.int .i64 b,.int .i64 c,.int .i64 d],.int .i64 k]) ZF (c0:=Q3 YP 111 14 (([.agg #[.int .i64 a,.int .i64 b,.int .i64 c,.int .i64 d],.int .i64 k]).map (QD 0 4))) (by kernel_rfl) (by kernel_rfl) fun B hJ=>Hg a b c d k k0 k4 hJ
end Go.Proofs.Ytncjjangllkokaa

