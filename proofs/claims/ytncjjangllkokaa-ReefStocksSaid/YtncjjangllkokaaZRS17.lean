/- Reef: Counts. -/
import Derived.Test.YtncjjangllkokaaZRS16
import Derived.Test.YtncjjangllkokaaZRS15
import Derived.Test.YtncjjangllkokaaZRS10
set_option linter.all false
open List renaming length->Ld,map_append->LZ,length_append->Lh,length_cons->Li,length_nil->Lk
open Array renaming extract->Lj
open Nat renaming strongRecOn->LB
open List.Mem renaming head->Lg
open Inhabited renaming default->La
namespace Go.Proofs.Ytncjjangllkokaa
open Go Go.CE Go.RowKit
noncomputable section
theorem Mg(rf:Qo)(Qa:List Int)(hr:XG rf=true)(hl:Qa.length<=4)(hp:∀j:Nat,0<=Qa.getD j 0/\Qa.getD j 0<=1000000):Qr YP J0 54 #[.agg (QQ rf Qa).toArray] (Wq (Xk rf Qa)):=by
 have ZW:=QC (QB hr).1;obtain⟨ps,Qc,n⟩:=rf;simp only at ZW;rcases(show n=1\/n=2\/n=3\/n=4 by omega)with rfl|rfl|rfl|rfl
 ·exact GD ps Qc Qa hr (by omega) hl hp
 ·exact GC ps Qc Qa hr (by omega) hl hp
 ·exact GB ps Qc Qa hr (by omega) hl hp
 ·exact GA ps Qc Qa hr (by omega) hl hp
def dj(rf:Qo)(Qa:List Int):Array Value:=#[QH rf.Qb.length (Qe Qi rf.Qb),YI rf.Qc,YI rf.Qd,YI (Qa.getD 0 0),YI (Qa.getD 1 0),YI (Qa.getD 2 0),YI (Qa.getD 3 0)]
def di(rf:Qo)(Qa:List Int):Array Value:=#[.agg #[QH rf.Qb.length (Qe Qi rf.Qb),YI rf.Qc,YI rf.Qd],QH Qa.length (Qe Q0 Qa)]
def dm(B:Lo)(rf:Qo)(Qa:List Int):List Prop:=[Q3 []/\Qr YP J0 50 #[.agg #[QH rf.Qb.length (Qe Qi rf.Qb),YI rf.Qc,YI rf.Qd]] (.bool true)]++([]:List Prop)
def mz(rf:Qo)(Qa:List Int):QI:=[(4,Qh.pure (.bool true) [])]
set_option maxRecDepth 100000 in
theorem zS(B:Lo)(rf:Qo)(Qa:List Int):Xq (Qq YP (Q6 YP) J0 B 11 1 (Qx YP 19 19 (([.agg (Q1 rf).toArray,Zk Qa]).map (Q7 0 4))) Zb 1
 (mz rf Qa++[(9,Qh.pure (.bool true) []),(14,Qh.pure (.agg (dj rf Qa)) []),(15,Qh.pure (QH (Ld (Xk rf Qa)) (Qe Zz (Xk rf Qa))) [])]) 0 [] []) []=some (.tuple #[QH (Ld (Xk rf Qa)) (Qe Zz (Xk rf Qa)),YI 0],
 [Q3 []/\Qr YP J0 54 #[.agg (dj rf Qa)] (QH (Ld (Xk rf Qa)) (Qe Zz (Xk rf Qa))),Q3 []/\Qr YP J0 52 (di rf Qa) (.agg (dj rf Qa)),Q3 []/\Qr YP J0 51 (di rf Qa) (.bool true)]++dm B rf Qa):=by kernel_rfl
set_option maxRecDepth 100000 in
theorem zR(B:Lo)(rf:Qo)(Qa:List Int):Xq (Qq YP (Q6 YP) J0 B 10 1 (Qx YP 19 19 (([.agg (Q1 rf).toArray,Zk Qa]).map (Q7 0 4))) Zb 1
 (mz rf Qa++[(9,Qh.pure (.bool false) [])]) 0 [] []) []=some (.tuple #[QH 0 #[],YI 2],
 [Q3 []/\Qr YP J0 51 (di rf Qa) (.bool false)]++dm B rf Qa):=by kernel_rfl
set_option maxRecDepth 100000 in
theorem zQ(B:Lo)(rf:Qo)(Qa:List Int):Xq (Qq YP (Q6 YP) J0 B 10 1 (Qx YP 19 19 (([.agg (Q1 rf).toArray,Zk Qa]).map (Q7 0 4))) Zb 1
 [(4,Qh.pure (.bool false) [])] 0 [] []) []=some (.tuple #[QH 0 #[],YI 2],
 [Q3 []/\Qr YP J0 50 #[.agg #[QH rf.Qb.length (Qe Qi rf.Qb),YI rf.Qc,YI rf.Qd]] (.bool false)]):=by kernel_rfl
set_option maxHeartbeats 4000000 in
theorem D1(rf:Qo)(Qa:List Int)  {B:Lo}(hJ:∀w,B.has w->J0 w):EndsT YP B (Qx YP 19 19 (([.agg (Q1 rf).toArray,Zk Qa]).map (Q7 0 4))) (.tuple #[if XW rf && XZ rf Qa then Wq (Xk rf Qa)else Wq [],YI (if XW rf && XZ rf Qa then 0 else 2)]):=by
 cases q0:XW rf with
 |true=>
  have Uc:Q3 (dm B rf Qa):=by
   try have Ry:=PJ ‹XW rf=true›
   try have ZW:=QC (Zy ‹XW rf=true›).1
   try have hpf:=(XM ‹XZ rf Qa=true›).1
   try have hpg:=(fun j=>(fun h=>⟨h.1,by omega⟩) (Z2 Ry ‹XZ rf Qa=true› j):∀j:Nat,0<=Qa.getD j 0/\Qa.getD j 0<=1000000)
   exact⟨⟨trivial,(by have t_:=bN (rf);rw[q0]at t_;exact t_)⟩,trivial⟩
  cases q1:XZ rf Qa with
  |true=>
   try have Ry:=PJ ‹XW rf=true›
   try have ZW:=QC (Zy ‹XW rf=true›).1
   try have hpf:=(XM ‹XZ rf Qa=true›).1
   try have hpg:=(fun j=>(fun h=>⟨h.1,by omega⟩) (Z2 Ry ‹XZ rf Qa=true› j):∀j:Nat,0<=Qa.getD j 0/\Qa.getD j 0<=1000000)
   exact(GoE.endsT okF hJ Qf GoE.start (zS B rf Qa)
    ⟨⟨trivial,Mg (rf) (Qa) (by first|with_reducible assumption|omega|simp_all) (by first|with_reducible assumption|omega|simp_all) (by first|with_reducible assumption|omega|simp_all)⟩,⟨⟨trivial,pD (rf) (Qa) (by first|with_reducible assumption|omega|simp_all) (by first|with_reducible assumption|omega|simp_all)⟩,⟨⟨trivial,(by have t_:=jH (rf) (Qa) (by first|with_reducible assumption|omega|simp_all);rw[q1]at t_;exact t_)⟩,Uc⟩⟩⟩).cast (by first|rfl|(simp[*];done)|(simp_all;done))
  |false=>
   try have Ry:=PJ ‹XW rf=true›
   try have ZW:=QC (Zy ‹XW rf=true›).1
   try have hpf:=(XM ‹XZ rf Qa=true›).1
   try have hpg:=(fun j=>(fun h=>⟨h.1,by omega⟩) (Z2 Ry ‹XZ rf Qa=true› j):∀j:Nat,0<=Qa.getD j 0/\Qa.getD j 0<=1000000)
   exact(GoE.endsT okF hJ Qf GoE.start (zR B rf Qa)
    ⟨⟨trivial,(by have t_:=jH (rf) (Qa) (by first|with_reducible assumption|omega|simp_all);rw[q1]at t_;exact t_)⟩,Uc⟩).cast (by first|rfl|(simp[*];done)|(simp_all;done))
 |false=>
  try have Ry:=PJ ‹XW rf=true›
  try have ZW:=QC (Zy ‹XW rf=true›).1
  try have hpf:=(XM ‹XZ rf Qa=true›).1
  try have hpg:=(fun j=>(fun h=>⟨h.1,by omega⟩) (Z2 Ry ‹XZ rf Qa=true› j):∀j:Nat,0<=Qa.getD j 0/\Qa.getD j 0<=1000000)
  exact(GoE.endsT okF hJ Qf GoE.start (zQ B rf Qa)
   ⟨⟨trivial,(by have t_:=bN (rf);rw[q0]at t_;exact t_)⟩,trivial⟩).cast (by first|rfl|(simp[*];done)|(simp_all;done))
theorem rE(rf:Qo)(Qa:List Int)  :Qr YP J0 19 #[.agg (Q1 rf).toArray,Zk Qa] (.tuple #[if XW rf && XZ rf Qa then Wq (Xk rf Qa)else Wq [],YI (if XW rf && XZ rf Qa then 0 else 2)]):=
 Xi (ts:=[.agg (Q1 rf).toArray,Zk Qa]) Za (c0:=Qx YP 19 19 (([.agg (Q1 rf).toArray,Zk Qa]).map (Q7 0 4))) (by kernel_rfl) (by kernel_rfl) fun B hJ=>D1 rf Qa  hJ
end
end Go.Proofs.Ytncjjangllkokaa

namespace Go.Proofs.Ytncjjangllkokaa
open Go Go.CE Go.RowKit
section
variable {ps:List Qg} {n:Int} {gs ts:List (List Int)} {f:F4}
theorem Ir{k i:Int}(h4:ps.length<=4)(i0:0<=i)(i1:i<ps.length):(tn ps gs ts f k).getD i.toNat La=(ZA ps gs ts f (k.toNat+1)).at i:=by
 unfold tn;rw[<-BJ h4];exact Xf i0 i1
end
end Go.Proofs.Ytncjjangllkokaa

namespace Go.Proofs.Ytncjjangllkokaa
open Go Go.CE Go.RowKit
set_option maxRecDepth 100000
section
variable (B:Lo)(c0:CF)(rf:Qo)(l:List (List Int))(s i:Int)(Qp:Nat->Value)
end
section
variable (x_:Qg)(B:Lo)(c0:CF)(rf:Qo)(Qa:List Int)(t:XD)(st tk lf:Int)(ob:Bool)(i s:Int)(Qp:Nat->Value)
end
end Go.Proofs.Ytncjjangllkokaa

namespace Go.Proofs.Ytncjjangllkokaa
open Go Go.CE Go.RowKit
end Go.Proofs.Ytncjjangllkokaa

namespace Go.Proofs.Ytncjjangllkokaa
open Go Go.CE Go.RowKit
set_option maxRecDepth 100000
theorem xP{rf:Qo}{Qa:List Int}{s i:Int}(s0:0<=s)(s1:s<rf.Qd)(i0:0<=i)(i1:i<rf.Qb.length):((Xk rf Qa).getD s.toNat La).getD i.toNat La=NV rf Qa s i:=by
 rw[show(Xk rf Qa).getD s.toNat La=Si rf Qa s from Xf s0 s1];exact Xf i0 i1
theorem kC{rf:Qo}{Qa:List Int}{s i:Int}(s0:0<=s)(s1:s<rf.Qd)(i0:0<=i)(i1:i<rf.Qb.length):((Xj rf Qa).getD s.toNat La).getD i.toNat La=Yg rf Qa s i:=by
 rw[show(Xj rf Qa).getD s.toNat La=Xz rf Qa s from Xf s0 s1];exact Xf i0 i1
theorem cg{rf:Qo}{Qa:List Int}{s:Int}(s0:0<=s)(s1:s<rf.Qd):((Xk rf Qa).getD s.toNat La).length=rf.Qb.length/\((Xj rf Qa).getD s.toNat La).length=rf.Qb.length:=by
 rw[show(Xk rf Qa).getD s.toNat La=Si rf Qa s from Xf s0 s1,show(Xj rf Qa).getD s.toNat La=Xz rf Qa s from Xf s0 s1];exact⟨tp,kK⟩
end Go.Proofs.Ytncjjangllkokaa

namespace Go.CE
open Go Go.RowKit
section
variable {α β:Type}
variable {P:Program} {kt:TypeId} {ke:α->Value} {ve:β->Value} {eq:α->α->Bool}
end
end Go.CE
namespace Go.CE
open Go Go.RowKit
end Go.CE

namespace Go.Proofs.Ytncjjangllkokaa
open Go Go.CE Go.RowKit
set_option maxRecDepth 100000
end Go.Proofs.Ytncjjangllkokaa

namespace Go.Proofs.Ytncjjangllkokaa
open Go Go.CE Go.RowKit
set_option maxRecDepth 100000
end Go.Proofs.Ytncjjangllkokaa

namespace Go.Proofs.Ytncjjangllkokaa
open Go Go.CE Go.RowKit
set_option maxRecDepth 100000

end Go.Proofs.Ytncjjangllkokaa

namespace Go.Proofs.Ytncjjangllkokaa
open Go Go.CE Go.RowKit
noncomputable section
set_option maxRecDepth 100000
def ag(f:Int->Int)(i:Int):List Int:=(UZ 0 i).map f
theorem Kn{f:Int->Int}{i:Int}(h:0<=i):((ag f i).length:Int)=i:=by simp[ag,UZ];omega
theorem JX{f:Int->Int}:ag f 1=[f 0]:=rfl
theorem Zu{f:Int->Int}{i:Int}(h:0<=i):ag f i++[f i]=ag f (i+1):=by unfold ag;rw[Ue h,LZ];rfl
def sV(b:Bool)(rf:Qo)(k:Int):Int:=bif b then Wg rf.Qc (Sk rf.Qb k).count else(Sk rf.Qb k).count
def gV(b:Bool)(rf:Qo)(k:Int):Int:=bif b then(Sk rf.Qb k).Yk else(Sk rf.Qb k).Yj
def kV(b:Bool)(rf:Qo)(p k:Int):Int:=bif b then(UY p k (Sk rf.Qb k)).lo else(UY p k (Sk rf.Qb k)).hi
theorem qF{b:Bool}{rf:Qo}:ag (sV b rf) rf.Qb.length=bif b then Z7 rf else Z6 rf:=by
 cases b
 ·show _=(rf.Qb.map (Ze rf.Qc)).map TN;rw[List.map_map,bY];rfl
 ·show _=(rf.Qb.map (Ze rf.Qc)).map TU;rw[List.map_map,bY];rfl
theorem sf{b:Bool}{rf:Qo}:ag (gV b rf) rf.Qb.length=bif b then Pu rf else Ps rf:=by
 cases b
 ·show _=(rf.Qb.map Zc).map TN;rw[List.map_map,bY];rfl
 ·show _=(rf.Qb.map Zc).map TU;rw[List.map_map,bY];rfl
theorem rY{b:Bool}{rf:Qo}{p:Int}:ag (kV b rf p) rf.Qb.length=bif b then Pe rf p else Pf rf p:=by
 cases b
 ·show _=(XU rf.Qb p).map TU;unfold XU Zn;rw[List.map_map];rfl
 ·show _=(XU rf.Qb p).map TN;unfold XU Zn;rw[List.map_map];rfl
theorem B5{rf:Qo}{p k:Int}(h:hasB p k=true):kV false rf p k=(Sk rf.Qb k).VQ:=by unfold kV UY;rw[h];rfl
theorem B6{rf:Qo}{p k:Int}(h:hasB p k=false):kV false rf p k=(Sk rf.Qb k).VX:=by unfold kV UY;rw[h];rfl
theorem B3{rf:Qo}{p k:Int}(h:hasB p k=true):kV true rf p k=(Sk rf.Qb k).VP:=by unfold kV UY;rw[h];rfl
theorem B4{rf:Qo}{p k:Int}(h:hasB p k=false):kV true rf p k=(Sk rf.Qb k).VW:=by unfold kV UY;rw[h];rfl
theorem qH{rf:Qo}{g:Int->List Int}{rs:List RW}{s:Int}{m:Nat}(hl:∀k,(g k).length=rf.Qb.length)(h:rs=(UZ 0 s).map fun z=>⟨rf.Qb.length,g z⟩)(hm:m=rs.length)(hs:s=rf.Qd):QH m (Qe Xr rs)=QH (Zn rf.Qd g).length (Qe Zi (Zn rf.Qd g)):=by
 subst hs;have e:Qe Xr rs=Qe Zi (Zn rf.Qd g):=by rw[h];exact qG _ _ _ fun k _=>hl k
 have e2:m=(Zn rf.Qd g).length:=by rw[hm,h,Zn,List.length_map,List.length_map]
 rw[e,e2]
theorem Mw{rf:Qo}:(Ps rf).length=rf.Qb.length:=by simp[Ps]
theorem Mx{rf:Qo}:(Pu rf).length=rf.Qb.length:=by simp[Pu]
theorem Ig{rf:Qo}{p:Int}:(Pe rf p).length=rf.Qb.length:=by simp[Pe,Uf]
theorem Ih{rf:Qo}{p:Int}:(Pf rf p).length=rf.Qb.length:=by simp[Pf,Uf]
theorem Pj{rf:Qo}:(Z6 rf).length=rf.Qb.length:=by simp[Z6]
theorem Pk{rf:Qo}:(Z7 rf).length=rf.Qb.length:=by simp[Z7]
theorem JT{f:Int->RW}{s:Int}(h:0<=s):(((UZ 0 s).map f).length:Int)=s:=by simp[UZ];omega
section
variable (x_:Qg)(B:Lo)(c0:CF)(rf:Qo)(Qa:List Int)(s i:Int)(st gs ks:List Int)(gr kr:List RW)(sn gn kn gm km:Nat)(Qp:Nat->Value)
abbrev bH:Value:=.agg #[Zk (Z6 rf),QH (WN rf).length (Qe Zi (WN rf)),QH (Vy rf Qa).length (Qe Zi (Vy rf Qa))]
def ZM:Array Value:=#[YI x_.count,YI x_.room,YI x_.Yj,YI x_.Yk,YI x_.QN,YI x_.X9,YI x_.VW,YI x_.VX,YI x_.VP,YI x_.VQ,YI x_.goal,YI x_.Vt]
def S9:Array Value:=#[YI (if false=true then x_.VP else x_.VW),YI (if false=true then x_.VQ else x_.VX)]
def S8:Array Value:=#[YI (if true=true then x_.VP else x_.VW),YI (if true=true then x_.VQ else x_.VX)]
def S6:Array Value:=(Qe Qi rf.Qb)
def eK:Array Value:=#[YI (Qa.getD 0 La)]
def S7:=(rf.Qb.getD 0 La)
def Rc:=(S7 rf)
def Kd:=(Rc rf)
def eM:Array Value:=#[YI (Qg.Yj (Rc rf))]
def eL:Array Value:=(Qe Q0 [Qg.Yj (Rc rf)])
def uf:Array Value:=#[YI (if false=true then Qg.VQ (Rc rf)else Qg.VX (Rc rf))]
def ue:Array Value:=#[YI (if true=true then Qg.VQ (Rc rf)else Qg.VX (Rc rf))]
def ud:Array Value:=(Qe Q0 [if false=true then Qg.VQ (S7 rf)else Qg.VX (S7 rf)])
def uc:Array Value:=(Qe Q0 [if true=true then Qg.VQ (S7 rf)else Qg.VX (S7 rf)])
def bG:Array Value:=(Qe Q0 [Qg.Yj (Kd rf)])
def pB:Array Value:=(Qe Q0 [if false=true then Qg.VQ (Kd rf)else Qg.VX (Kd rf)])
def p9:Array Value:=(Qe Q0 [if true=true then Qg.VQ (Kd rf)else Qg.VX (Kd rf)])
def p8:Array Value:=#[.agg (ZM (rf.Qb.getD 0 La)),.bool false]
def pz:Array Value:=#[.agg (ZM (rf.Qb.getD 0 La)),.bool true]
def SB(rf:Qo)(Qa:List Int)(i:Int)(st:List Int)(sn:Nat):List Value:=[Q2 1 (QH Qa.length (Qe Q0 Qa)),.bool false,pA 2 0,pA 3 0,pA 4 0,YI i]
def Re(Qa:List Int)(i:Int)(st:List Int)(sn:Nat):List Obj:=[Obj.cells #[Q2 1 (QH rf.Qb.length (Qe Qi rf.Qb)),YI rf.Qc,YI rf.Qd] 24,Obj.cells #[.slice none 0 0,.slice none 0 0,.slice none 0 0] 42,.cells #[.slice (some ⟨5,0,none⟩) sn 1,.slice none 0 0,.slice none 0 0] 42 (0,0),.cells (Qe Q0 st) 3 (0,0)]
def SD:List Item:=([.code [1,1,0,1,0,0],.inLoop [1,1,0,1,0,0],.inBlock 0,.code [1,1,1]]).map (it (QG YP 34))
def FY:Prop:=∃dJ:Nat->Value,(∀t,Xe (dJ t))/\GoE YP B c0 Zb 1 (Q9 34 104 (([1,2,3,6,7,8]:List Nat).zip (SB rf Qa i st sn)) dJ SD) (Q8 (Re rf Qa i st sn)) (2+(Re rf Qa i st sn).length) []
def Ju(rf:Qo)(Qa:List Int)(i:Int)(st gs ks:List Int)(sn gn kn:Nat):List Value:=[Q2 1 (QH Qa.length (Qe Q0 Qa)),.bool false,pA 2 0,pA 3 0,pA 4 0,YI 0,.slice (some ⟨6,0,none⟩) gn 1,.slice (some ⟨7,0,none⟩) kn 1,YI i]
def Ys(Qa:List Int)(i:Int)(st gs ks:List Int)(sn gn kn:Nat):List Obj:=[Obj.cells #[Q2 1 (QH rf.Qb.length (Qe Qi rf.Qb)),YI rf.Qc,YI rf.Qd] 24,Obj.cells #[.slice none 0 0,.slice none 0 0,.slice none 0 0] 42,.cells #[.slice (some ⟨5,0,none⟩) sn 1,.slice none 0 0,.slice none 0 0] 42 (0,0),.cells (Qe Q0 st) 3 (0,0),.cells (Qe Q0 gs) 3 (0,0),.cells (Qe Q0 ks) 3 (0,0)]
def Jw:List Item:=([.code [1,1,1,0,1,0,0,1,0,0,1,0,1,0,0],.inLoop [1,1,1,0,1,0,0,1,0,0,1,0,1,0,0],.inBlock 4,.code [1,1,1,0,1,0,0,1,0,0,1,1],.inBlock 3,.code [1,1,1,0,1,0,0,1,1],.inLoop [1,1,1,0,1,0,0],.inBlock 2,.code [1,1,1,1]]).map (it (QG YP 34))
def FX:Prop:=∃dJ:Nat->Value,(∀t,Xe (dJ t))/\GoE YP B c0 Zb 1 (Q9 34 104 (([1,2,3,6,7,10,11,12,13]:List Nat).zip (Ju rf Qa i st gs ks sn gn kn)) dJ Jw) (Q8 (Ys rf Qa i st gs ks sn gn kn)) (2+(Ys rf Qa i st gs ks sn gn kn).length) []
def Jt(rf:Qo)(Qa:List Int)(s i:Int)(st gs ks:List Int)(gr kr:List RW)(sn gn kn gm km:Nat):List Value:=[Q2 1 (QH Qa.length (Qe Q0 Qa)),.bool false,pA 2 0,pA 3 0,pA 4 0,YI s,.slice (some ⟨8,0,none⟩) gn 1,.slice (some ⟨9,0,none⟩) kn 1,YI i]
def Yr(Qa:List Int)(s i:Int)(st gs ks:List Int)(gr kr:List RW)(sn gn kn gm km:Nat):List Obj:=[Obj.cells #[Q2 1 (QH rf.Qb.length (Qe Qi rf.Qb)),YI rf.Qc,YI rf.Qd] 24,Obj.cells #[.slice none 0 0,.slice none 0 0,.slice none 0 0] 42,.cells #[.slice (some ⟨5,0,none⟩) sn 1,.slice (some ⟨6,0,none⟩) gm 1,.slice (some ⟨7,0,none⟩) km 1] 42 (0,0),.cells (Qe Q0 st) 3 (0,0),.cells (Qe (pushE 1 Xr) gr) 25 (0,0),.cells (Qe (pushE 1 Xr) kr) 25 (0,0),.cells (Qe Q0 gs) 3 (0,0),.cells (Qe Q0 ks) 3 (0,0)]
def Jv:List Item:=([.code [1,1,1,0,1,0,0,1,0,0,1,0,1,0,0],.inLoop [1,1,1,0,1,0,0,1,0,0,1,0,1,0,0],.inBlock 4,.code [1,1,1,0,1,0,0,1,0,0,1,1],.inBlock 3,.code [1,1,1,0,1,0,0,1,1],.inLoop [1,1,1,0,1,0,0],.inBlock 2,.code [1,1,1,1]]).map (it (QG YP 34))
def FW:Prop:=∃dJ:Nat->Value,(∀t,Xe (dJ t))/\GoE YP B c0 Zb 1 (Q9 34 104 (([1,2,3,6,7,10,11,12,13]:List Nat).zip (Jt rf Qa s i st gs ks gr kr sn gn kn gm km)) dJ Jv) (Q8 (Yr rf Qa s i st gs ks gr kr sn gn kn gm km)) (2+(Yr rf Qa s i st gs ks gr kr sn gn kn gm km).length) []
def SA(rf:Qo)(Qa:List Int)(s:Int)(st:List Int)(gr kr:List RW)(sn gm km:Nat):List Value:=[Q2 1 (QH Qa.length (Qe Q0 Qa)),.bool false,pA 2 0,pA 3 0,pA 4 0,YI s]
def Rd(Qa:List Int)(s:Int)(st:List Int)(gr kr:List RW)(sn gm km:Nat):List Obj:=[Obj.cells #[Q2 1 (QH rf.Qb.length (Qe Qi rf.Qb)),YI rf.Qc,YI rf.Qd] 24,Obj.cells #[.slice none 0 0,.slice none 0 0,.slice none 0 0] 42,.cells #[.slice (some ⟨5,0,none⟩) sn 1,.slice (some ⟨6,0,none⟩) gm 1,.slice (some ⟨7,0,none⟩) km 1] 42 (0,0),.cells (Qe Q0 st) 3 (0,0),.cells (Qe (pushE 1 Xr) gr) 25 (0,0),.cells (Qe (pushE 1 Xr) kr) 25 (0,0)]
def SC:List Item:=([.code [1,1,1,0,1,0,0],.inLoop [1,1,1,0,1,0,0],.inBlock 2,.code [1,1,1,1]]).map (it (QG YP 34))
def FV:Prop:=∃dJ:Nat->Value,(∀t,Xe (dJ t))/\GoE YP B c0 Zb 1 (Q9 34 104 (([1,2,3,6,7,10]:List Nat).zip (SA rf Qa s st gr kr sn gm km)) dJ SC) (Q8 (Rd rf Qa s st gr kr sn gm km)) (2+(Rd rf Qa s st gr kr sn gm km).length) []
theorem FT(B:Lo)(rf:Qo)(Qa:List Int)(i:Int)(st:List Int)(sn:Nat)(Qp:Nat->Value):let e:=Re rf Qa i st sn;let d:=rf.Qb;let a:=d.getD i.toNat La;let c:=st++[a.count];let b:=Qe Q0 c;landM (Qq YP (Q6 YP) J0 B 18 1 (Q9 34 104 (([1,2,3,6,7,8]:List Nat).zip (SB rf Qa i st sn)) Qp SD) (Q8 e) (2+e.length)
 [(4,ZC),(8,Qh.tidx i.toNat (ZM a)),(17,Qh.Xs (Hint.app b)),(21,Z4 (i+1))] 0 [] []) [1,2,3,6,7,8] [(2,KS.auto),(3,KS.auto),(4,KS.auto),(7,KS.cells [] b)] []=some ⟨34,104,SD,[],.run,none,SB rf Qa (i+1) c (sn+1),Re rf Qa (i+1) c (sn+1),
 [Qv 1 [] b b,wq (i+1)=i+1,Pz (Qe Q0 st) #[YI a.count] b sn (0+1) 8,Vr i d.length (S6 rf) Try.t54.size (ZM a),XA i (↑d.length:Int)=true]⟩:=by intro e d a c b;kernel_rfl
def uo(B:Lo)(rf:Qo)(Qa:List Int)(i:Int)(st:List Int)(sn:Nat)(Qp:Nat->Value):List Prop:=[XA i (↑rf.Qb.length:Int)=false]++([]:List Prop)
def uj(i:Int)(st:List Int)(sn:Nat)(Qp:Nat->Value):QI:=[(4,Wi),(9,ZC),(17,ZC),(21,Qh.tidx 0 (ZM (rf.Qb.getD 0 La))),(31,Qh.tidx 0 (eK Qa))]
def um:List Prop:=[XA 0 rf.Qd=true]++uo B rf Qa i st sn Qp
def ly:List Prop:=let a:=rf.Qb;[0=(↑0:Int)/\0<Ld Qa/\Lj (Qe Q0 Qa) (0*TypeInfo.size Try.t3) (0*TypeInfo.size Try.t3+TypeInfo.size Try.t3)=(eK Qa),0=(↑0:Int)/\0<Ld a/\Lj (S6 rf) (0*TypeInfo.size Try.t54) (0*TypeInfo.size Try.t54+TypeInfo.size Try.t54)=(ZM (a.getD 0 La)),XA 0 (↑a.length:Int)=true]++um B rf Qa i st sn Qp
theorem FQ(B:Lo)(rf:Qo)(Qa:List Int)(i:Int)(st:List Int)(sn:Nat)(Qp:Nat->Value):let d:=Re rf Qa i st sn;let c:=Qe Q0 st;let b:=Kd rf;let a:=[if true=true then b.VQ else b.VX];landM (Qq YP (Q6 YP) J0 B 44 1 (Q9 34 104 (([1,2,3,6,7,8]:List Nat).zip (SB rf Qa i st sn)) Qp SD) (Q8 d) (2+d.length)
 (uj rf Qa i st sn Qp++[(34,Qh.pure (.bool true) []),(35,Qh.pure (.agg (S8 b)) [])]) 0 [] []) [1,2,3,6,7,10,11,12,13] [(2,KS.auto),(3,KS.auto),(4,KS.auto),(5,KS.cells [] c),(8,KS.cells [] (bG rf)),(10,KS.cells [] (p9 rf))] []=some ⟨34,104,Jw,[],.run,none,Ju rf Qa (1) (st) ([b.Yj]) a (sn) (1) (1),Ys rf Qa (1) (st) ([b.Yj]) a (sn) (1) (1),
 [Qv 1 [] c c,Qv 1 [] ((eM rf)) (eL rf),Qv 1 [] ((ue rf)) (uc rf),Q3 []/\Qr YP J0 61 (pz rf) (.agg (S8 (rf.Qb.getD 0 La))),Q3 []/\Qr YP J0 47 #[YI (Qa.getD 0 La),YI 0] (.bool true)]++ly B rf Qa i st sn Qp⟩:=by intro d c b a;kernel_rfl
theorem FP(B:Lo)(rf:Qo)(Qa:List Int)(i:Int)(st:List Int)(sn:Nat)(Qp:Nat->Value):let d:=Re rf Qa i st sn;let c:=Qe Q0 st;let b:=Kd rf;let a:=[if false=true then b.VQ else b.VX];landM (Qq YP (Q6 YP) J0 B 44 1 (Q9 34 104 (([1,2,3,6,7,8]:List Nat).zip (SB rf Qa i st sn)) Qp SD) (Q8 d) (2+d.length)
 (uj rf Qa i st sn Qp++[(34,Qh.pure (.bool false) []),(35,Qh.pure (.agg (S9 b)) [])]) 0 [] []) [1,2,3,6,7,10,11,12,13] [(2,KS.auto),(3,KS.auto),(4,KS.auto),(5,KS.cells [] c),(8,KS.cells [] (bG rf)),(10,KS.cells [] (pB rf))] []=some ⟨34,104,Jw,[],.run,none,Ju rf Qa (1) (st) ([b.Yj]) a (sn) (1) (1),Ys rf Qa (1) (st) ([b.Yj]) a (sn) (1) (1),
 [Qv 1 [] c c,Qv 1 [] ((eM rf)) (eL rf),Qv 1 [] ((uf rf)) (ud rf),Q3 []/\Qr YP J0 61 (p8 rf) (.agg (S9 (rf.Qb.getD 0 La))),Q3 []/\Qr YP J0 47 #[YI (Qa.getD 0 La),YI 0] (.bool false)]++ly B rf Qa i st sn Qp⟩:=by intro d c b a;kernel_rfl
def lx(B:Lo)(rf:Qo)(Qa:List Int)(i:Int)(st gs ks:List Int)(sn gn kn:Nat)(Qp:Nat->Value):List Prop:=let a:=rf.Qb;[0=(↑0:Int)/\0<Ld Qa/\Lj (Qe Q0 Qa) (0*TypeInfo.size Try.t3) (0*TypeInfo.size Try.t3+TypeInfo.size Try.t3)=(eK Qa),Vr i a.length (S6 rf) Try.t54.size (ZM (a.getD i.toNat La)),XA i (↑a.length:Int)=true]++([]:List Prop)
def ui(st gs ks:List Int)(sn gn kn:Nat)(Qp:Nat->Value):QI:=[(4,ZC),(8,Qh.tidx i.toNat (ZM (rf.Qb.getD i.toNat La))),(18,Qh.tidx 0 (eK Qa))]
theorem FO(B:Lo)(rf:Qo)(Qa:List Int)(i:Int)(st gs ks:List Int)(sn gn kn:Nat)(Qp:Nat->Value):let g:=Qe Q0 st;let f:=Ys rf Qa i st gs ks sn gn kn;let a:=rf.Qb.getD i.toNat La;let h:=Value.agg (S8 a);let e:=gs++[a.Yj];let c:=Qe Q0 e;let b:=ks++[if true=true then a.VQ else a.VX];let d:=Qe Q0 b;landM (Qq YP (Q6 YP) J0 B 20 1 (Q9 34 104 (([1,2,3,6,7,10,11,12,13]:List Nat).zip (Ju rf Qa i st gs ks sn gn kn)) Qp Jw) (Q8 f) (2+f.length)
 (ui rf Qa i st gs ks sn gn kn Qp++[(21,Qh.pure (.bool true) []),(22,Qh.pure h []),(30,Qh.Xs (Hint.app c)),(34,Qh.Xs (Hint.app d)),(38,Z4 (i+1))]) 0 [] []) [1,2,3,6,7,10,11,12,13] [(2,KS.auto),(3,KS.auto),(4,KS.auto),(5,KS.cells [] g),(10,KS.cells [] c),(12,KS.cells [] d)] []=some ⟨34,104,Jw,[],.run,none,Ju rf Qa (i+1) (st) e b (sn) (gn+1) (kn+1),Ys rf Qa (i+1) (st) e b (sn) (gn+1) (kn+1),
 [Qv 1 [] g g,Qv 1 [] c c,Qv 1 [] d d,wq (i+1)=i+1,Pz (Qe Q0 ks) #[YI (if true=true then a.VQ else a.VX)] d kn (0+1) 8,Pz (Qe Q0 gs) #[YI a.Yj] c gn (0+1) 8,Q3 []/\Qr YP J0 61 #[.agg (ZM a),.bool true] h,Q3 []/\Qr YP J0 47 #[YI (Qa.getD 0 La),YI i] (.bool true)]++lx B rf Qa i st gs ks sn gn kn Qp⟩:=by intro g f a h e c b d;kernel_rfl
theorem FN(B:Lo)(rf:Qo)(Qa:List Int)(i:Int)(st gs ks:List Int)(sn gn kn:Nat)(Qp:Nat->Value):let g:=Qe Q0 st;let f:=Ys rf Qa i st gs ks sn gn kn;let a:=rf.Qb.getD i.toNat La;let h:=Value.agg (S9 a);let e:=gs++[a.Yj];let c:=Qe Q0 e;let b:=ks++[if false=true then a.VQ else a.VX];let d:=Qe Q0 b;landM (Qq YP (Q6 YP) J0 B 20 1 (Q9 34 104 (([1,2,3,6,7,10,11,12,13]:List Nat).zip (Ju rf Qa i st gs ks sn gn kn)) Qp Jw) (Q8 f) (2+f.length)
 (ui rf Qa i st gs ks sn gn kn Qp++[(21,Qh.pure (.bool false) []),(22,Qh.pure h []),(30,Qh.Xs (Hint.app c)),(34,Qh.Xs (Hint.app d)),(38,Z4 (i+1))]) 0 [] []) [1,2,3,6,7,10,11,12,13] [(2,KS.auto),(3,KS.auto),(4,KS.auto),(5,KS.cells [] g),(10,KS.cells [] c),(12,KS.cells [] d)] []=some ⟨34,104,Jw,[],.run,none,Ju rf Qa (i+1) (st) e b (sn) (gn+1) (kn+1),Ys rf Qa (i+1) (st) e b (sn) (gn+1) (kn+1),
 [Qv 1 [] g g,Qv 1 [] c c,Qv 1 [] d d,wq (i+1)=i+1,Pz (Qe Q0 ks) #[YI (if false=true then a.VQ else a.VX)] d kn (0+1) 8,Pz (Qe Q0 gs) #[YI a.Yj] c gn (0+1) 8,Q3 []/\Qr YP J0 61 #[.agg (ZM a),.bool false] h,Q3 []/\Qr YP J0 47 #[YI (Qa.getD 0 La),YI i] (.bool false)]++lx B rf Qa i st gs ks sn gn kn Qp⟩:=by intro g f a h e c b d;kernel_rfl
theorem FM(B:Lo)(rf:Qo)(Qa:List Int)(i:Int)(st gs ks:List Int)(sn gn kn:Nat)(Qp:Nat->Value):let f:=[{n:=kn,l:=ks}];let e:=[{n:=gn,l:=gs}];let d:=Qe Q0 st;let c:=Ys rf Qa i st gs ks sn gn kn;let b:=Qe (pushE 1 Xr) [{n:=kn,l:=ks}];let a:=Qe (pushE 1 Xr) [{n:=gn,l:=gs}];landM (Qq YP (Q6 YP) J0 B 9 1 (Q9 34 104 (([1,2,3,6,7,10,11,12,13]:List Nat).zip (Ju rf Qa i st gs ks sn gn kn)) Qp Jw) (Q8 c) (2+c.length)
 [(4,Wi)] 0 [] []) [1,2,3,6,7,10] [(2,KS.auto),(3,KS.auto),(4,KS.auto),(5,KS.cells [] d),(9,KS.rows [] [6] [] a),(11,KS.rows [] [7] [] b)] [{k:=6,rs:=[],cs:=Qe Q0 gs},{k:=7,rs:=[],cs:=Qe Q0 ks}]=some ⟨34,104,SC,[],.run,none,SA rf Qa (1) (st) e f (sn) (1) (1),Rd rf Qa (1) (st) e f (sn) (1) (1),
 [Qv 1 [] d d,QX 1 [] [(6,Fz.cs {k:=6,rs:=[],cs:=Qe Q0 gs})] [] #[.slice (some {block:=6,off:=0}) gn 1] a,X4 (Fz.rs {k:=6,rs:=[],cs:=Qe Q0 gs}) (Qe Q0 gs) (Fz.cs {k:=6,rs:=[],cs:=Qe Q0 gs}),QX 1 [] [(7,Fz.cs {k:=7,rs:=[],cs:=Qe Q0 ks})] [] #[.slice (some {block:=7,off:=0}) kn 1] b,X4 (Fz.rs {k:=7,rs:=[],cs:=Qe Q0 ks}) (Qe Q0 ks) (Fz.cs {k:=7,rs:=[],cs:=Qe Q0 ks}),XA i (↑rf.Qb.length:Int)=false]⟩:=by intro f e d c b a;kernel_rfl
def lv(B:Lo)(rf:Qo)(Qa:List Int)(s i:Int)(st gs ks:List Int)(gr kr:List RW)(sn gn kn gm km:Nat)(Qp:Nat->Value):List Prop:=let a:=rf.Qb;[Vr s Qa.length (Qe Q0 Qa) Try.t3.size #[YI (Qa.getD s.toNat La)],Vr i a.length (S6 rf) Try.t54.size (ZM (a.getD i.toNat La)),XA i (↑a.length:Int)=true]++([]:List Prop)
def uh(st gs ks:List Int)(gr kr:List RW)(sn gn kn gm km:Nat)(Qp:Nat->Value):QI:=[(4,ZC),(8,Qh.tidx i.toNat (ZM (rf.Qb.getD i.toNat La))),(18,Qh.tidx s.toNat #[YI (Qa.getD s.toNat La)])]
theorem FL(B:Lo)(rf:Qo)(Qa:List Int)(s i:Int)(st gs ks:List Int)(gr kr:List RW)(sn gn kn gm km:Nat)(Qp:Nat->Value):let h:=Qe Q0 st;let e:=Yr rf Qa s i st gs ks gr kr sn gn kn gm km;let d:=pushE 1 Xr;let a:=rf.Qb.getD i.toNat La;let j:=Value.agg (S8 a);let g:=gs++[a.Yj];let c:=Qe Q0 g;let b:=ks++[if true=true then a.VQ else a.VX];let f:=Qe Q0 b;landM (Qq YP (Q6 YP) J0 B 20 1 (Q9 34 104 (([1,2,3,6,7,10,11,12,13]:List Nat).zip (Jt rf Qa s i st gs ks gr kr sn gn kn gm km)) Qp Jv) (Q8 e) (2+e.length)
 (uh rf Qa s i st gs ks gr kr sn gn kn gm km Qp++[(21,Qh.pure (.bool true) []),(22,Qh.pure j []),(30,Qh.Xs (Hint.app c)),(34,Qh.Xs (Hint.app f)),(38,Z4 (i+1))]) 0 [] []) [1,2,3,6,7,10,11,12,13] [(2,KS.auto),(3,KS.auto),(4,KS.auto),(5,KS.cells [] h),(6,KS.rows [(1,1)] [] [] (Qe d gr)),(7,KS.rows [(1,1)] [] [] (Qe d kr)),(12,KS.cells [] c),(14,KS.cells [] f)] []=some ⟨34,104,Jv,[],.run,none,Jt rf Qa (s) (i+1) (st) g b (gr) (kr) (sn) (gn+1) (kn+1) (gm) (km),Yr rf Qa (s) (i+1) (st) g b (gr) (kr) (sn) (gn+1) (kn+1) (gm) (km),
 [Qv 1 [] h h,QX 1 [(1,1)] [] [] (Qe d gr) (Qe d gr),QX 1 [(1,1)] [] [] (Qe d kr) (Qe d kr),Qv 1 [] c c,Qv 1 [] f f,wq (i+1)=i+1,Pz (Qe Q0 ks) #[YI (if true=true then a.VQ else a.VX)] f kn (0+1) 8,Pz (Qe Q0 gs) #[YI a.Yj] c gn (0+1) 8,Q3 []/\Qr YP J0 61 #[.agg (ZM a),.bool true] j,Q3 []/\Qr YP J0 47 #[YI (Qa.getD s.toNat La),YI i] (.bool true)]++lv B rf Qa s i st gs ks gr kr sn gn kn gm km Qp⟩:=by intro h e d a j g c b f;kernel_rfl
theorem FK(B:Lo)(rf:Qo)(Qa:List Int)(s i:Int)(st gs ks:List Int)(gr kr:List RW)(sn gn kn gm km:Nat)(Qp:Nat->Value):let h:=Qe Q0 st;let e:=Yr rf Qa s i st gs ks gr kr sn gn kn gm km;let d:=pushE 1 Xr;let a:=rf.Qb.getD i.toNat La;let j:=Value.agg (S9 a);let g:=gs++[a.Yj];let c:=Qe Q0 g;let b:=ks++[if false=true then a.VQ else a.VX];let f:=Qe Q0 b;landM (Qq YP (Q6 YP) J0 B 20 1 (Q9 34 104 (([1,2,3,6,7,10,11,12,13]:List Nat).zip (Jt rf Qa s i st gs ks gr kr sn gn kn gm km)) Qp Jv) (Q8 e) (2+e.length)
 (uh rf Qa s i st gs ks gr kr sn gn kn gm km Qp++[(21,Qh.pure (.bool false) []),(22,Qh.pure j []),(30,Qh.Xs (Hint.app c)),(34,Qh.Xs (Hint.app f)),(38,Z4 (i+1))]) 0 [] []) [1,2,3,6,7,10,11,12,13] [(2,KS.auto),(3,KS.auto),(4,KS.auto),(5,KS.cells [] h),(6,KS.rows [(1,1)] [] [] (Qe d gr)),(7,KS.rows [(1,1)] [] [] (Qe d kr)),(12,KS.cells [] c),(14,KS.cells [] f)] []=some ⟨34,104,Jv,[],.run,none,Jt rf Qa (s) (i+1) (st) g b (gr) (kr) (sn) (gn+1) (kn+1) (gm) (km),Yr rf Qa (s) (i+1) (st) g b (gr) (kr) (sn) (gn+1) (kn+1) (gm) (km),
 [Qv 1 [] h h,QX 1 [(1,1)] [] [] (Qe d gr) (Qe d gr),QX 1 [(1,1)] [] [] (Qe d kr) (Qe d kr),Qv 1 [] c c,Qv 1 [] f f,wq (i+1)=i+1,Pz (Qe Q0 ks) #[YI (if false=true then a.VQ else a.VX)] f kn (0+1) 8,Pz (Qe Q0 gs) #[YI a.Yj] c gn (0+1) 8,Q3 []/\Qr YP J0 61 #[.agg (ZM a),.bool false] j,Q3 []/\Qr YP J0 47 #[YI (Qa.getD s.toNat La),YI i] (.bool false)]++lv B rf Qa s i st gs ks gr kr sn gn kn gm km Qp⟩:=by intro h e d a j g c b f;kernel_rfl
theorem FI(B:Lo)(rf:Qo)(Qa:List Int)(s i:Int)(st gs ks:List Int)(gr kr:List RW)(sn gn kn gm km:Nat)(Qp:Nat->Value):let j:=Qe Q0 st;let h:=some {block:=8,off:=0};let g:=some {block:=9,off:=0};let f:=Yr rf Qa s i st gs ks gr kr sn gn kn gm km;let e:=kr++[{n:=kn,l:=ks}];let d:=gr++[{n:=gn,l:=gs}];let c:=pushE 1 Xr;let b:=Qe c kr++#[.slice g kn 1];let a:=Qe c gr++#[.slice h gn 1];landM (Qq YP (Q6 YP) J0 B 9 1 (Q9 34 104 (([1,2,3,6,7,10,11,12,13]:List Nat).zip (Jt rf Qa s i st gs ks gr kr sn gn kn gm km)) Qp Jv) (Q8 f) (2+f.length)
 [(4,Wi),(9,Qh.Xs (Hint.app a)),(14,Qh.Xs (Hint.app b)),(20,Z4 (s+1))] 0 [] []) [1,2,3,6,7,10] [(2,KS.auto),(3,KS.auto),(4,KS.auto),(5,KS.cells [] j),(11,KS.rows [(1,1)] [8] [] (Qe c d)),(13,KS.rows [(1,1)] [9] [] (Qe c e))] [{k:=8,rs:=[],cs:=Qe Q0 gs},{k:=9,rs:=[],cs:=Qe Q0 ks}]=some ⟨34,104,SC,[],.run,none,SA rf Qa (s+1) (st) d e (sn) (gm+1) (km+1),Rd rf Qa (s+1) (st) d e (sn) (gm+1) (km+1),
 [Qv 1 [] j j,QX 1 [(1,1)] [(8,Fz.cs {k:=8,rs:=[],cs:=Qe Q0 gs})] [] a (Qe c d),X4 (Fz.rs {k:=8,rs:=[],cs:=Qe Q0 gs}) (Qe Q0 gs) (Fz.cs {k:=8,rs:=[],cs:=Qe Q0 gs}),QX 1 [(1,1)] [(9,Fz.cs {k:=9,rs:=[],cs:=Qe Q0 ks})] [] b (Qe c e),X4 (Fz.rs {k:=9,rs:=[],cs:=Qe Q0 ks}) (Qe Q0 ks) (Fz.cs {k:=9,rs:=[],cs:=Qe Q0 ks}),wq (s+1)=s+1,Pz ((Qe c kr)) #[.slice g kn 1] b km (0+1) 24,Pz ((Qe c gr)) #[.slice h gn 1] a gm (0+1) 24,XA i (↑rf.Qb.length:Int)=false]⟩:=by intro j h g f e d c b a;kernel_rfl
def uk(B:Lo)(rf:Qo)(Qa:List Int)(s:Int)(st:List Int)(gr kr:List RW)(sn gm km:Nat)(Qp:Nat->Value):List Prop:=[XA s rf.Qd=true]++([]:List Prop)
def ug(st:List Int)(gr kr:List RW)(sn gm km:Nat)(Qp:Nat->Value):QI:=[(3,ZC),(11,ZC),(15,Qh.tidx 0 (ZM (rf.Qb.getD 0 La))),(25,Qh.tidx s.toNat #[YI (Qa.getD s.toNat La)])]
def lu:List Prop:=let a:=rf.Qb;[Vr s Qa.length (Qe Q0 Qa) Try.t3.size #[YI (Qa.getD s.toNat La)],0=(↑0:Int)/\0<Ld a/\Lj (S6 rf) (0*TypeInfo.size Try.t54) (0*TypeInfo.size Try.t54+TypeInfo.size Try.t54)=(ZM (a.getD 0 La)),XA 0 (↑a.length:Int)=true]++uk B rf Qa s st gr kr sn gm km Qp
theorem FH(B:Lo)(rf:Qo)(Qa:List Int)(s:Int)(st:List Int)(gr kr:List RW)(sn gm km:Nat)(Qp:Nat->Value):let e:=Qe Q0 st;let d:=Rd rf Qa s st gr kr sn gm km;let c:=Kd rf;let b:=pushE 1 Xr;let a:=[if true=true then c.VQ else c.VX];landM (Qq YP (Q6 YP) J0 B 34 1 (Q9 34 104 (([1,2,3,6,7,10]:List Nat).zip (SA rf Qa s st gr kr sn gm km)) Qp SC) (Q8 d) (2+d.length)
 (ug rf Qa s st gr kr sn gm km Qp++[(28,Qh.pure (.bool true) []),(29,Qh.pure (.agg (S8 c)) [])]) 0 [] []) [1,2,3,6,7,10,11,12,13] [(2,KS.auto),(3,KS.auto),(4,KS.auto),(5,KS.cells [] e),(6,KS.rows [(1,1)] [] [] (Qe b gr)),(7,KS.rows [(1,1)] [] [] (Qe b kr)),(10,KS.cells [] (bG rf)),(12,KS.cells [] (p9 rf))] []=some ⟨34,104,Jv,[],.run,none,Jt rf Qa (s) (1) (st) ([c.Yj]) a (gr) (kr) (sn) (1) (1) (gm) (km),Yr rf Qa (s) (1) (st) ([c.Yj]) a (gr) (kr) (sn) (1) (1) (gm) (km),
 [Qv 1 [] e e,QX 1 [(1,1)] [] [] (Qe b gr) (Qe b gr),QX 1 [(1,1)] [] [] (Qe b kr) (Qe b kr),Qv 1 [] ((eM rf)) (eL rf),Qv 1 [] ((ue rf)) (uc rf),Q3 []/\Qr YP J0 61 (pz rf) (.agg (S8 (rf.Qb.getD 0 La))),Q3 []/\Qr YP J0 47 #[YI (Qa.getD s.toNat La),YI 0] (.bool true)]++lu B rf Qa s st gr kr sn gm km Qp⟩:=by intro e d c b a;kernel_rfl
theorem C0(B:Lo)(rf:Qo)(Qa:List Int)(s:Int)(st:List Int)(gr kr:List RW)(sn gm km:Nat)(Qp:Nat->Value):let e:=Qe Q0 st;let d:=Rd rf Qa s st gr kr sn gm km;let c:=Kd rf;let b:=pushE 1 Xr;let a:=[if false=true then c.VQ else c.VX];landM (Qq YP (Q6 YP) J0 B 34 1 (Q9 34 104 (([1,2,3,6,7,10]:List Nat).zip (SA rf Qa s st gr kr sn gm km)) Qp SC) (Q8 d) (2+d.length)
 (ug rf Qa s st gr kr sn gm km Qp++[(28,Qh.pure (.bool false) []),(29,Qh.pure (.agg (S9 c)) [])]) 0 [] []) [1,2,3,6,7,10,11,12,13] [(2,KS.auto),(3,KS.auto),(4,KS.auto),(5,KS.cells [] e),(6,KS.rows [(1,1)] [] [] (Qe b gr)),(7,KS.rows [(1,1)] [] [] (Qe b kr)),(10,KS.cells [] (bG rf)),(12,KS.cells [] (pB rf))] []=some ⟨34,104,Jv,[],.run,none,Jt rf Qa (s) (1) (st) ([c.Yj]) a (gr) (kr) (sn) (1) (1) (gm) (km),Yr rf Qa (s) (1) (st) ([c.Yj]) a (gr) (kr) (sn) (1) (1) (gm) (km),
 [Qv 1 [] e e,QX 1 [(1,1)] [] [] (Qe b gr) (Qe b gr),QX 1 [(1,1)] [] [] (Qe b kr) (Qe b kr),Qv 1 [] ((eM rf)) (eL rf),Qv 1 [] ((uf rf)) (ud rf),Q3 []/\Qr YP J0 61 (p8 rf) (.agg (S9 (rf.Qb.getD 0 La))),Q3 []/\Qr YP J0 47 #[YI (Qa.getD s.toNat La),YI 0] (.bool false)]++lu B rf Qa s st gr kr sn gm km Qp⟩:=by intro e d c b a;kernel_rfl
theorem Cz(B:Lo)(rf:Qo)(Qa:List Int)(s:Int)(st:List Int)(gr kr:List RW)(sn gm km:Nat)(Qp:Nat->Value):let d:=Rd rf Qa s st gr kr sn gm km;let c:=Fz.cs {k:=5,rs:=[],cs:=Qe Q0 st};let b:=Fz.cs {k:=7,rs:=[1],cs:=Qe Xr kr};let a:=Fz.cs {k:=6,rs:=[1],cs:=Qe Xr gr};Xq (Qq YP (Q6 YP) J0 B 9 1 (Q9 34 104 (([1,2,3,6,7,10]:List Nat).zip (SA rf Qa s st gr kr sn gm km)) Qp SC) (Q8 d) (2+d.length)
 [(3,Wi)] 0 [] []) [{k:=5,rs:=[],cs:=Qe Q0 st},{k:=6,rs:=[1],cs:=Qe Xr gr},{k:=7,rs:=[1],cs:=Qe Xr kr}]=some (.agg #[QH sn c,QH gm a,QH km b],
 [X4 (Fz.rs {k:=5,rs:=[],cs:=Qe Q0 st}) (Qe Q0 st) c,X4 (Fz.rs {k:=6,rs:=[1],cs:=Qe Xr gr}) (Qe (pushE 1 Xr) gr) a,X4 (Fz.rs {k:=7,rs:=[1],cs:=Qe Xr kr}) (Qe (pushE 1 Xr) kr) b,XA s rf.Qd=false]):=by intro d c b a;kernel_rfl
theorem Cy(B:Lo)(rf:Qo)(Qa:List Int):let c:=rf.Qb;let b:=Kd rf;let a:=c.getD 0 La;landM (Qq YP (Q6 YP) J0 B 27 1 (Qx YP 34 104 (([.agg (Q1 rf).toArray,Zk Qa,.bool false]).map (Q7 0 4))) Zb 1
 [(8,ZC),(12,Qh.tidx 0 (ZM b))] 0 [] []) [1,2,3,6,7,8] [(1,KS.auto),(2,KS.auto),(3,KS.auto),(5,KS.cells [] (Qe Q0 [b.count]))] []=some ⟨34,104,SD,[],.run,none,SB rf Qa (1) ([b.count]) (1),Re rf Qa (1) ([b.count]) (1),
 [Qv 1 [] (#[YI a.count]) (Qe Q0 [a.count]),0=(↑0:Int)/\0<Ld c/\Lj (S6 rf) (0*TypeInfo.size Try.t54) (0*TypeInfo.size Try.t54+TypeInfo.size Try.t54)=(ZM a),XA 0 (↑c.length:Int)=true]⟩:=by intro c b a;kernel_rfl
end
set_option maxHeartbeats 4000000 in
theorem FU(rf:Qo)(Qa:List Int)(hr:XG rf=true)(hp:XZ rf Qa=true){B:Lo}(hJ:∀w,B.has w->J0 w){c0:CF}:∀m:Nat,(∀(i:Int) (st:List Int) (sn:Nat),10000+(rf.Qb.length-i.toNat)=m->∀(h0:1<=i) (h1:i<=rf.Qb.length) (hsn:sn=st.length) (Zh:st=ag (sV false rf) i),FY B c0 rf Qa i st sn->EndsT YP B c0 (bH rf Qa))/\(∀(i:Int) (st gs ks:List Int) (sn gn kn:Nat),9000+(rf.Qb.length-i.toNat)=m->∀(h0:1<=i) (h1:i<=rf.Qb.length) (hsn:sn=st.length) (Zh:st=Z6 rf) (Ku:gn=gs.length) (hg:gs=ag (gV false rf) i) (hkn:kn=ks.length) (hk:ks=ag (kV false rf (Qa.getD 0 0)) i),FX B c0 rf Qa i st gs ks sn gn kn->EndsT YP B c0 (bH rf Qa))/\(∀(s i:Int) (st gs ks:List Int) (gr kr:List RW) (sn gn kn gm km:Nat),100*(rf.Qd-s).toNat+(rf.Qb.length-i.toNat)=m->∀(s0:1<=s) (s1:s<rf.Qd) (h0:1<=i) (h1:i<=rf.Qb.length) (hsn:sn=st.length) (Zh:st=Z6 rf) (hgm:gm=gr.length) (hgr:gr=(UZ 0 s).map fun _=>⟨rf.Qb.length,Ps rf⟩) (hkm:km=kr.length) (hkr:kr=(UZ 0 s).map fun z=>⟨rf.Qb.length,Pf rf (Qa.getD z.toNat 0)⟩) (Ku:gn=gs.length) (hg:gs=ag (gV false rf) i) (hkn:kn=ks.length) (hk:ks=ag (kV false rf (Qa.getD s.toNat 0)) i),FW B c0 rf Qa s i st gs ks gr kr sn gn kn gm km->EndsT YP B c0 (bH rf Qa))/\(∀(s:Int) (st:List Int) (gr kr:List RW) (sn gm km:Nat),100*(rf.Qd-s).toNat+99=m->∀(s0:1<=s) (s1:s<=rf.Qd) (hsn:sn=st.length) (Zh:st=Z6 rf) (hgm:gm=gr.length) (hgr:gr=(UZ 0 s).map fun _=>⟨rf.Qb.length,Ps rf⟩) (hkm:km=kr.length) (hkr:kr=(UZ 0 s).map fun z=>⟨rf.Qb.length,Pf rf (Qa.getD z.toNat 0)⟩),FV B c0 rf Qa s st gr kr sn gm km->EndsT YP B c0 (bH rf Qa)):=by
 intro m0;induction m0 using LB with
 |_ m0 ih0=>
  refine⟨?_, ?_, ?_, ?_⟩
  ·intro i st sn UX h0 h1 hsn Zh ⟨Qp,Zr,Xo⟩;have ZW:=QC (QB hr).1;have hsl0:=Pj (rf:=rf);have hpq:0<=Qa.getD 0 La/\Qa.getD 0 La<=1000000000:=by have:=Z2 hr hp 0;show 0<=Qa.getD 0 0/\Qa.getD 0 0<=1000000000;omega
   have hpf:=(XM hp).1;have hpq:0<=Qa.getD 0 La/\Qa.getD 0 La<=1000000000:=by have:=Z2 hr hp 0;show 0<=Qa.getD 0 0/\Qa.getD 0 0<=1000000000;omega
   have hsl:(st.length:Int)=i:=by rw[Zh];exact Kn (by omega)
   by_cases q0:(i:Int)<((↑rf.Qb.length:Int))
   ·exact((ih0 _ (by omega)).1 (i+1) (st++[Qg.count (rf.Qb.getD i.toNat La)]) (sn+1) rfl (by omega) (by omega) (by(simp only[Lh,Li,Lk];omega)) (by(rw[Zh];exact Zu (by omega)))
     (Xo.landM okF hJ Qf (FT B rf Qa i st sn Qp)
     ⟨(XI fun _=>by rfl),⟨(QP (by omega) (by omega)),⟨⟨(by(rw[QT (z:=1) (fun _=>rfl)];first|omega|(simp;omega)|(simp_all;done))),(by unfold maxLen;omega),by omega,by first|exact Xv|exact Xl rfl⟩,⟨⟨by omega,by omega,(Qu (z:=12) (fun _=>rfl) (by omega))⟩,⟨(Xh q0),trivial⟩⟩⟩⟩⟩ (by kernel_rfl) (by kernel_rfl))).cast (by rfl)
   ·have Uc:Q3 (uo B rf Qa i st sn Qp):=by
     exact⟨(X7 (Int.not_lt.1 q0)),trivial⟩
    by_cases q1:(0:Int)<rf.Qd
    ·have Yi:Q3 (um B rf Qa i st sn Qp):=by
      exact⟨(Xh q1),Uc⟩
     by_cases q2:(0:Int)<((↑rf.Qb.length:Int))
     ·have Sm:Q3 (ly B rf Qa i st sn Qp):=by
       exact⟨⟨by omega,by omega,(Qu (z:=1) (fun _=>rfl) (by omega))⟩,⟨⟨by omega,by omega,(Qu (z:=12) (fun _=>rfl) (by omega))⟩,⟨(Xh q2),Yi⟩⟩⟩
      cases q3:hasB (Qa.getD 0 La) 0 with
      |true=>
       have hse:st=Z6 rf:=by rw[Zh,show i=rf.Qb.length by omega];exact qF (b:=false)
       exact((ih0 _ (by omega)).2.1 (1) (st) ([Qg.Yj (rf.Qb.getD 0 La)]) ([if true=true then Qg.VQ (rf.Qb.getD 0 La)else Qg.VX (rf.Qb.getD 0 La)]) (sn) (1) (1) rfl (by omega) (by omega) (by with_reducible assumption) (by with_reducible assumption) (by rfl) (by rfl) (by rfl) (by(rw[JX];exact congrArg (fun z=>[z]) (B5 (k:=0) (by assumption)).symm))
        (Xo.landM okF hJ Qf (FQ B rf Qa i st sn Qp)
        ⟨(XI fun _=>by rfl),⟨(Xm (by kernel_rfl)),⟨(Xm (by kernel_rfl)),⟨⟨trivial,Wk (rf.Qb.getD 0 La) (true)⟩,⟨⟨trivial,(by have t_:=Pm (Qa.getD 0 La) (0) (by with_reducible assumption) (by omega);rw[q3]at t_;exact t_)⟩,Sm⟩⟩⟩⟩⟩ (by kernel_rfl) (by kernel_rfl))).cast (by rfl)
      |false=>
       have hse:st=Z6 rf:=by rw[Zh,show i=rf.Qb.length by omega];exact qF (b:=false)
       exact((ih0 _ (by omega)).2.1 (1) (st) ([Qg.Yj (rf.Qb.getD 0 La)]) ([if false=true then Qg.VQ (rf.Qb.getD 0 La)else Qg.VX (rf.Qb.getD 0 La)]) (sn) (1) (1) rfl (by omega) (by omega) (by with_reducible assumption) (by with_reducible assumption) (by rfl) (by rfl) (by rfl) (by(rw[JX];exact congrArg (fun z=>[z]) (B6 (k:=0) (by assumption)).symm))
        (Xo.landM okF hJ Qf (FP B rf Qa i st sn Qp)
        ⟨(XI fun _=>by rfl),⟨(Xm (by kernel_rfl)),⟨(Xm (by kernel_rfl)),⟨⟨trivial,Wk (rf.Qb.getD 0 La) (false)⟩,⟨⟨trivial,(by have t_:=Pm (Qa.getD 0 La) (0) (by with_reducible assumption) (by omega);rw[q3]at t_;exact t_)⟩,Sm⟩⟩⟩⟩⟩ (by kernel_rfl) (by kernel_rfl))).cast (by rfl)
     ·exfalso
      (have ZW:=QC (QB hr).1;omega)
    ·exfalso
     (have ZW:=QC (QB hr).1;omega)
  ·intro i st gs ks sn gn kn UX h0 h1 hsn Zh Ku hg hkn hk ⟨Qp,Zr,Xo⟩;have ZW:=QC (QB hr).1;have hsl0:=Pj (rf:=rf);have hpq:0<=Qa.getD 0 La/\Qa.getD 0 La<=1000000000:=by have:=Z2 hr hp 0;show 0<=Qa.getD 0 0/\Qa.getD 0 0<=1000000000;omega
   have hpf:=(XM hp).1;have hpq:0<=Qa.getD 0 La/\Qa.getD 0 La<=1000000000:=by have:=Z2 hr hp 0;show 0<=Qa.getD 0 0/\Qa.getD 0 0<=1000000000;omega
   have hgl:(gs.length:Int)=i:=by rw[hg];exact Kn (by omega)
   have hkl:(ks.length:Int)=i:=by rw[hk];exact Kn (by omega)
   by_cases q0:(i:Int)<((↑rf.Qb.length:Int))
   ·have hp3:Q3 (lx B rf Qa i st gs ks sn gn kn Qp):=by
     exact⟨⟨by omega,by omega,(Qu (z:=1) (fun _=>rfl) (by omega))⟩,⟨⟨by omega,by omega,(Qu (z:=12) (fun _=>rfl) (by omega))⟩,⟨(Xh q0),trivial⟩⟩⟩
    cases q1:hasB (Qa.getD 0 La) i with
    |true=>
     exact((ih0 _ (by omega)).2.1 (i+1) (st) (gs++[Qg.Yj (rf.Qb.getD i.toNat La)]) (ks++[if true=true then Qg.VQ (rf.Qb.getD i.toNat La)else Qg.VX (rf.Qb.getD i.toNat La)]) (sn) (gn+1) (kn+1) rfl (by omega) (by omega) (by with_reducible assumption) (by with_reducible assumption) (by(simp only[Lh,Li,Lk];omega)) (by(rw[hg];exact Zu (by omega))) (by(simp only[Lh,Li,Lk];omega)) (by(rw[hk,<-Zu (by omega)];exact congrArg (fun z=>_++[z]) (B5 (by assumption)).symm))
      (Xo.landM okF hJ Qf (FO B rf Qa i st gs ks sn gn kn Qp)
      ⟨(XI fun _=>by rfl),⟨(XI fun _=>by rfl),⟨(XI fun _=>by rfl),⟨(QP (by omega) (by omega)),⟨⟨(by(rw[QT (z:=1) (fun _=>rfl)];first|omega|(simp;omega)|(simp_all;done))),(by unfold maxLen;omega),by omega,by first|exact Xv|exact Xl rfl⟩,⟨⟨(by(rw[QT (z:=1) (fun _=>rfl)];first|omega|(simp;omega)|(simp_all;done))),(by unfold maxLen;omega),by omega,by first|exact Xv|exact Xl rfl⟩,⟨⟨trivial,Wk (rf.Qb.getD i.toNat La) (true)⟩,⟨⟨trivial,(by have t_:=Pm (Qa.getD 0 La) (i) (by with_reducible assumption) (by omega);rw[q1]at t_;exact t_)⟩,hp3⟩⟩⟩⟩⟩⟩⟩⟩ (by kernel_rfl) (by kernel_rfl))).cast (by rfl)
    |false=>
     exact((ih0 _ (by omega)).2.1 (i+1) (st) (gs++[Qg.Yj (rf.Qb.getD i.toNat La)]) (ks++[if false=true then Qg.VQ (rf.Qb.getD i.toNat La)else Qg.VX (rf.Qb.getD i.toNat La)]) (sn) (gn+1) (kn+1) rfl (by omega) (by omega) (by with_reducible assumption) (by with_reducible assumption) (by(simp only[Lh,Li,Lk];omega)) (by(rw[hg];exact Zu (by omega))) (by(simp only[Lh,Li,Lk];omega)) (by(rw[hk,<-Zu (by omega)];exact congrArg (fun z=>_++[z]) (B6 (by assumption)).symm))
      (Xo.landM okF hJ Qf (FN B rf Qa i st gs ks sn gn kn Qp)
      ⟨(XI fun _=>by rfl),⟨(XI fun _=>by rfl),⟨(XI fun _=>by rfl),⟨(QP (by omega) (by omega)),⟨⟨(by(rw[QT (z:=1) (fun _=>rfl)];first|omega|(simp;omega)|(simp_all;done))),(by unfold maxLen;omega),by omega,by first|exact Xv|exact Xl rfl⟩,⟨⟨(by(rw[QT (z:=1) (fun _=>rfl)];first|omega|(simp;omega)|(simp_all;done))),(by unfold maxLen;omega),by omega,by first|exact Xv|exact Xl rfl⟩,⟨⟨trivial,Wk (rf.Qb.getD i.toNat La) (false)⟩,⟨⟨trivial,(by have t_:=Pm (Qa.getD 0 La) (i) (by with_reducible assumption) (by omega);rw[q1]at t_;exact t_)⟩,hp3⟩⟩⟩⟩⟩⟩⟩⟩ (by kernel_rfl) (by kernel_rfl))).cast (by rfl)
   ·have hge:gs=Ps rf:=by rw[hg,show i=rf.Qb.length by omega];exact sf (b:=false)
    have hke:ks=Pf rf (Qa.getD 0 0):=by rw[hk,show i=rf.Qb.length by omega];exact rY (b:=false)
    exact((ih0 _ (by omega)).2.2.2 (1) (st) ([{n:=gn,l:=gs}]) ([{n:=kn,l:=ks}]) (sn) (1) (1) rfl (by omega) (by omega) (by with_reducible assumption) (by with_reducible assumption) (by rfl) (by(rw[show gn=rf.Qb.length by omega,hge];rfl)) (by rfl) (by(rw[show kn=rf.Qb.length by omega,hke];rfl))
     (Xo.landM okF hJ Qf (FM B rf Qa i st gs ks sn gn kn Qp)
     (by exact⟨(XI fun _=>by rfl),⟨(by exact(KD (by exact⟨(.own (Lg _)),trivial⟩))),⟨(Xg (fun x=>List.all_eq_true.1 (by rfl))),⟨(by exact(KD (by exact⟨(.own (Lg _)),trivial⟩))),⟨(Xg (fun x=>List.all_eq_true.1 (by rfl))),⟨(X7 (Int.not_lt.1 q0)),trivial⟩⟩⟩⟩⟩⟩) (by kernel_rfl) (by kernel_rfl))).cast (by rfl)
  ·intro s i st gs ks gr kr sn gn kn gm km UX s0 s1 h0 h1 hsn Zh hgm hgr hkm hkr Ku hg hkn hk ⟨Qp,Zr,Xo⟩;have ZW:=QC (QB hr).1;have hsl0:=Pj (rf:=rf);have hpf:=(XM hp).1;have hgl:(gs.length:Int)=i:=by rw[hg];exact Kn (by omega)
   have hkl:(ks.length:Int)=i:=by rw[hk];exact Kn (by omega)
   have hgrl:(gr.length:Int)=s:=by rw[hgr];exact JT (by omega)
   have hkrl:(kr.length:Int)=s:=by rw[hkr];exact JT (by omega)
   have hps:0<=Qa.getD s.toNat La/\Qa.getD s.toNat La<=1000000000:=by have:=Z2 hr hp s.toNat;show 0<=Qa.getD s.toNat 0/\Qa.getD s.toNat 0<=1000000000;omega
   by_cases q0:(i:Int)<((↑rf.Qb.length:Int))
   ·have hp4:Q3 (lv B rf Qa s i st gs ks gr kr sn gn kn gm km Qp):=by
     exact⟨⟨by omega,by omega,(Qu (z:=1) (fun _=>rfl) (by omega))⟩,⟨⟨by omega,by omega,(Qu (z:=12) (fun _=>rfl) (by omega))⟩,⟨(Xh q0),trivial⟩⟩⟩
    cases q1:hasB (Qa.getD s.toNat La) i with
    |true=>
     exact((ih0 _ (by omega)).2.2.1 (s) (i+1) (st) (gs++[Qg.Yj (rf.Qb.getD i.toNat La)]) (ks++[if true=true then Qg.VQ (rf.Qb.getD i.toNat La)else Qg.VX (rf.Qb.getD i.toNat La)]) (gr) (kr) (sn) (gn+1) (kn+1) (gm) (km) rfl (by with_reducible assumption) (by with_reducible assumption) (by omega) (by omega) (by with_reducible assumption) (by with_reducible assumption) (by with_reducible assumption) (by with_reducible assumption) (by with_reducible assumption) (by with_reducible assumption) (by(simp only[Lh,Li,Lk];omega)) (by(rw[hg];exact Zu (by omega))) (by(simp only[Lh,Li,Lk];omega)) (by(rw[hk,<-Zu (by omega)];exact congrArg (fun z=>_++[z]) (B5 (by assumption)).symm))
      (Xo.landM okF hJ Qf (FL B rf Qa s i st gs ks gr kr sn gn kn gm km Qp)
      ⟨(XI fun _=>by rfl),⟨(by exact(QM (Xb (by exact fun _=>rfl)) (Lg _))),⟨(by exact(QM (Xb (by exact fun _=>rfl)) (Lg _))),⟨(XI fun _=>by rfl),⟨(XI fun _=>by rfl),⟨(QP (by omega) (by omega)),⟨⟨(by(rw[QT (z:=1) (fun _=>rfl)];first|omega|(simp;omega)|(simp_all;done))),(by unfold maxLen;omega),by omega,by first|exact Xv|exact Xl rfl⟩,⟨⟨(by(rw[QT (z:=1) (fun _=>rfl)];first|omega|(simp;omega)|(simp_all;done))),(by unfold maxLen;omega),by omega,by first|exact Xv|exact Xl rfl⟩,⟨⟨trivial,Wk (rf.Qb.getD i.toNat La) (true)⟩,⟨⟨trivial,(by have t_:=Pm (Qa.getD s.toNat La) (i) (by with_reducible assumption) (by omega);rw[q1]at t_;exact t_)⟩,hp4⟩⟩⟩⟩⟩⟩⟩⟩⟩⟩ (by kernel_rfl) (by kernel_rfl))).cast (by rfl)
    |false=>
     exact((ih0 _ (by omega)).2.2.1 (s) (i+1) (st) (gs++[Qg.Yj (rf.Qb.getD i.toNat La)]) (ks++[if false=true then Qg.VQ (rf.Qb.getD i.toNat La)else Qg.VX (rf.Qb.getD i.toNat La)]) (gr) (kr) (sn) (gn+1) (kn+1) (gm) (km) rfl (by with_reducible assumption) (by with_reducible assumption) (by omega) (by omega) (by with_reducible assumption) (by with_reducible assumption) (by with_reducible assumption) (by with_reducible assumption) (by with_reducible assumption) (by with_reducible assumption) (by(simp only[Lh,Li,Lk];omega)) (by(rw[hg];exact Zu (by omega))) (by(simp only[Lh,Li,Lk];omega)) (by(rw[hk,<-Zu (by omega)];exact congrArg (fun z=>_++[z]) (B6 (by assumption)).symm))
      (Xo.landM okF hJ Qf (FK B rf Qa s i st gs ks gr kr sn gn kn gm km Qp)
      ⟨(XI fun _=>by rfl),⟨(by exact(QM (Xb (by exact fun _=>rfl)) (Lg _))),⟨(by exact(QM (Xb (by exact fun _=>rfl)) (Lg _))),⟨(XI fun _=>by rfl),⟨(XI fun _=>by rfl),⟨(QP (by omega) (by omega)),⟨⟨(by(rw[QT (z:=1) (fun _=>rfl)];first|omega|(simp;omega)|(simp_all;done))),(by unfold maxLen;omega),by omega,by first|exact Xv|exact Xl rfl⟩,⟨⟨(by(rw[QT (z:=1) (fun _=>rfl)];first|omega|(simp;omega)|(simp_all;done))),(by unfold maxLen;omega),by omega,by first|exact Xv|exact Xl rfl⟩,⟨⟨trivial,Wk (rf.Qb.getD i.toNat La) (false)⟩,⟨⟨trivial,(by have t_:=Pm (Qa.getD s.toNat La) (i) (by with_reducible assumption) (by omega);rw[q1]at t_;exact t_)⟩,hp4⟩⟩⟩⟩⟩⟩⟩⟩⟩⟩ (by kernel_rfl) (by kernel_rfl))).cast (by rfl)
   ·have hge:gs=Ps rf:=by rw[hg,show i=rf.Qb.length by omega];exact sf (b:=false)
    have hke:ks=Pf rf (Qa.getD s.toNat 0):=by rw[hk,show i=rf.Qb.length by omega];exact rY (b:=false)
    exact((ih0 _ (by omega)).2.2.2 (s+1) (st) (gr++[{n:=gn,l:=gs}]) (kr++[{n:=kn,l:=ks}]) (sn) (gm+1) (km+1) rfl (by omega) (by omega) (by with_reducible assumption) (by with_reducible assumption) (by(simp only[Lh,Li,Lk];omega)) (by(rw[Ue (by omega),LZ,<-hgr,show gn=rf.Qb.length by omega,hge];rfl)) (by(simp only[Lh,Li,Lk];omega)) (by(rw[Ue (by omega),LZ,<-hkr,show kn=rf.Qb.length by omega,hke];rfl))
     (Xo.landM okF hJ Qf (FI B rf Qa s i st gs ks gr kr sn gn kn gm km Qp)
     (by exact⟨(XI fun _=>by rfl),⟨(by exact(Ye (QM (Xb (by exact fun _=>rfl)) (Lg _)) (by exact⟨(.own (Lg _)),trivial⟩))),⟨(Xg (fun x=>List.all_eq_true.1 (by rfl))),⟨(by exact(Ye (QM (Xb (by exact fun _=>rfl)) (Lg _)) (by exact⟨(.own (Lg _)),trivial⟩))),⟨(Xg (fun x=>List.all_eq_true.1 (by rfl))),⟨(QP (by omega) (by omega)),⟨⟨(by(rw[QT (z:=1) (fun _=>rfl)];first|omega|(simp;omega)|(simp_all;done))),(by unfold maxLen;omega),by omega,rfl⟩,⟨⟨(by(rw[QT (z:=1) (fun _=>rfl)];first|omega|(simp;omega)|(simp_all;done))),(by unfold maxLen;omega),by omega,rfl⟩,⟨(X7 (Int.not_lt.1 q0)),trivial⟩⟩⟩⟩⟩⟩⟩⟩⟩) (by kernel_rfl) (by kernel_rfl))).cast (by rfl)
  ·intro s st gr kr sn gm km UX s0 s1 hsn Zh hgm hgr hkm hkr ⟨Qp,Zr,Xo⟩;have ZW:=QC (QB hr).1;have hsl0:=Pj (rf:=rf);have hpf:=(XM hp).1;have hgrl:(gr.length:Int)=s:=by rw[hgr];exact JT (by omega)
   have hkrl:(kr.length:Int)=s:=by rw[hkr];exact JT (by omega)
   have hps:0<=Qa.getD s.toNat La/\Qa.getD s.toNat La<=1000000000:=by have:=Z2 hr hp s.toNat;show 0<=Qa.getD s.toNat 0/\Qa.getD s.toNat 0<=1000000000;omega
   by_cases q0:(s:Int)<rf.Qd
   ·have hp5:Q3 (uk B rf Qa s st gr kr sn gm km Qp):=by
     exact⟨(Xh q0),trivial⟩
    by_cases q1:(0:Int)<((↑rf.Qb.length:Int))
    ·have hp6:Q3 (lu B rf Qa s st gr kr sn gm km Qp):=by
      exact⟨⟨by omega,by omega,(Qu (z:=1) (fun _=>rfl) (by omega))⟩,⟨⟨by omega,by omega,(Qu (z:=12) (fun _=>rfl) (by omega))⟩,⟨(Xh q1),hp5⟩⟩⟩
     cases q2:hasB (Qa.getD s.toNat La) 0 with
     |true=>
      exact((ih0 _ (by omega)).2.2.1 (s) (1) (st) ([Qg.Yj (rf.Qb.getD 0 La)]) ([if true=true then Qg.VQ (rf.Qb.getD 0 La)else Qg.VX (rf.Qb.getD 0 La)]) (gr) (kr) (sn) (1) (1) (gm) (km) rfl (by with_reducible assumption) (by with_reducible assumption) (by omega) (by omega) (by with_reducible assumption) (by with_reducible assumption) (by with_reducible assumption) (by with_reducible assumption) (by with_reducible assumption) (by with_reducible assumption) (by rfl) (by rfl) (by rfl) (by(rw[JX];exact congrArg (fun z=>[z]) (B5 (k:=0) (by assumption)).symm))
       (Xo.landM okF hJ Qf (FH B rf Qa s st gr kr sn gm km Qp)
       ⟨(XI fun _=>by rfl),⟨(by exact(QM (Xb (by exact fun _=>rfl)) (Lg _))),⟨(by exact(QM (Xb (by exact fun _=>rfl)) (Lg _))),⟨(Xm (by kernel_rfl)),⟨(Xm (by kernel_rfl)),⟨⟨trivial,Wk (rf.Qb.getD 0 La) (true)⟩,⟨⟨trivial,(by have t_:=Pm (Qa.getD s.toNat La) (0) (by with_reducible assumption) (by omega);rw[q2]at t_;exact t_)⟩,hp6⟩⟩⟩⟩⟩⟩⟩ (by kernel_rfl) (by kernel_rfl))).cast (by rfl)
     |false=>
      exact((ih0 _ (by omega)).2.2.1 (s) (1) (st) ([Qg.Yj (rf.Qb.getD 0 La)]) ([if false=true then Qg.VQ (rf.Qb.getD 0 La)else Qg.VX (rf.Qb.getD 0 La)]) (gr) (kr) (sn) (1) (1) (gm) (km) rfl (by with_reducible assumption) (by with_reducible assumption) (by omega) (by omega) (by with_reducible assumption) (by with_reducible assumption) (by with_reducible assumption) (by with_reducible assumption) (by with_reducible assumption) (by with_reducible assumption) (by rfl) (by rfl) (by rfl) (by(rw[JX];exact congrArg (fun z=>[z]) (B6 (k:=0) (by assumption)).symm))
       (Xo.landM okF hJ Qf (C0 B rf Qa s st gr kr sn gm km Qp)
       ⟨(XI fun _=>by rfl),⟨(by exact(QM (Xb (by exact fun _=>rfl)) (Lg _))),⟨(by exact(QM (Xb (by exact fun _=>rfl)) (Lg _))),⟨(Xm (by kernel_rfl)),⟨(Xm (by kernel_rfl)),⟨⟨trivial,Wk (rf.Qb.getD 0 La) (false)⟩,⟨⟨trivial,(by have t_:=Pm (Qa.getD s.toNat La) (0) (by with_reducible assumption) (by omega);rw[q2]at t_;exact t_)⟩,hp6⟩⟩⟩⟩⟩⟩⟩ (by kernel_rfl) (by kernel_rfl))).cast (by rfl)
    ·exfalso
     (have ZW:=QC (QB hr).1;omega)
   ·exact(GoE.endsT okF hJ Qf Xo (Cz B rf Qa s st gr kr sn gm km Qp)
     ⟨(Xg (fun x=>List.all_eq_true.1 (by rfl))),⟨(ZE (Xb (by exact fun _=>rfl)) (Lg _)),⟨(ZE (Xb (by exact fun _=>rfl)) (Lg _)),⟨(X7 (Int.not_lt.1 q0)),trivial⟩⟩⟩⟩).cast (by(rw[show QH gm (Qe Xr gr)=QH (WN rf).length (Qe Zi (WN rf))from qH (g:=fun _=>Ps rf) (fun _=>Mw) hgr hgm (by omega),show QH km (Qe Xr kr)=QH (Vy rf Qa).length (Qe Zi (Vy rf Qa))from qH (g:=fun z=>Pf rf (Qa.getD z.toNat 0)) (fun _=>Ih) hkr hkm (by omega),hsn,Zh]))
set_option maxHeartbeats 4000000 in
theorem IV(rf:Qo)(Qa:List Int)(hr:XG rf=true)(hp:XZ rf Qa=true){B:Lo}(hJ:∀w,B.has w->J0 w):EndsT YP B (Qx YP 34 104 (([.agg (Q1 rf).toArray,Zk Qa,.bool false]).map (Q7 0 4))) (bH rf Qa):=by
 have ZW:=QC (QB hr).1;have hsl0:=Pj (rf:=rf);by_cases q0:(0:Int)<((↑rf.Qb.length:Int))
 ·exact((FU rf Qa hr hp hJ _).1 (1) ([Qg.count (rf.Qb.getD 0 La)]) (1) rfl (by omega) (by omega) (by rfl) (by rfl)
   (GoE.start.landM okF hJ Qf (Cy B rf Qa)
   ⟨(Xm (by kernel_rfl)),⟨⟨by omega,by omega,(Qu (z:=12) (fun _=>rfl) (by omega))⟩,⟨(Xh q0),trivial⟩⟩⟩ (by kernel_rfl) (by kernel_rfl))).cast (by rfl)
 ·exfalso
  (have ZW:=QC (QB hr).1;omega)
theorem Oy(rf:Qo)(Qa:List Int)(hr:XG rf=true)(hp:XZ rf Qa=true):Qr YP J0 34 #[.agg (Q1 rf).toArray,Zk Qa,.bool false] (bH rf Qa):=
 Xi (ts:=[.agg (Q1 rf).toArray,Zk Qa,.bool false]) Za (c0:=Qx YP 34 104 (([.agg (Q1 rf).toArray,Zk Qa,.bool false]).map (Q7 0 4))) (by kernel_rfl) (by kernel_rfl) fun B hJ=>IV rf Qa hr hp hJ
section
variable (x_:Qg)(B:Lo)(c0:CF)(rf:Qo)(Qa:List Int)(s i:Int)(st gs ks:List Int)(gr kr:List RW)(sn gn kn gm km:Nat)(Qp:Nat->Value)
abbrev bF:Value:=.agg #[Zk (Z7 rf),QH (WO rf).length (Qe Zi (WO rf)),QH (Vx rf Qa).length (Qe Zi (Vx rf Qa))]
def Zq:Array Value:=#[YI x_.count,YI x_.room,YI x_.Yj,YI x_.Yk,YI x_.QN,YI x_.X9,YI x_.VW,YI x_.VX,YI x_.VP,YI x_.VQ,YI x_.goal,YI x_.Vt]
def eJ:Array Value:=#[YI (if false=true then x_.VP else x_.VW),YI (if false=true then x_.VQ else x_.VX)]
def eI:Array Value:=#[YI (if true=true then x_.VP else x_.VW),YI (if true=true then x_.VQ else x_.VX)]
def VD:Array Value:=#[YI (Qa.getD 0 La)]
def eE:Array Value:=#[YI (Qa.getD 0 La),YI 0]
def PZ:Array Value:=(Qe Qi rf.Qb)
def YK:=(rf.Qb.getD 0 La)
def YM:=(YK rf)
def WY:=(YM rf)
def eH:Array Value:=#[.agg (Zq (YM rf)),.bool false]
def eG:Array Value:=#[.agg (Zq (YM rf)),.bool true]
def eF:Array Value:=#[YI (Qg.Yk (YM rf))]
def eD:Array Value:=(Qe Q0 [Qg.Yk (YM rf)])
def eC:Value:=(.agg (eI (YM rf)))
def eB:Value:=(.agg (eJ (YM rf)))
def py:Array Value:=#[YI (if false=true then Qg.VP (YK rf)else Qg.VW (YK rf))]
def px:Array Value:=#[YI (if true=true then Qg.VP (YK rf)else Qg.VW (YK rf))]
def pw:Array Value:=(Qe Q0 [if false=true then Qg.VP (YK rf)else Qg.VW (YK rf)])
def pt:Array Value:=(Qe Q0 [if true=true then Qg.VP (rf.Qb.getD 0 La)else Qg.VW (rf.Qb.getD 0 La)])
def pr:Array Value:=#[QH rf.Qb.length (PZ rf),YI rf.Qc,YI rf.Qd]
def bE:Array Value:=(Qe Q0 [Qg.Yk (WY rf)])
def bD:Value:=(.agg (eI (WY rf)))
def bC:Value:=(.agg (eJ (WY rf)))
def pq:Array Value:=(Qe Q0 [if false=true then Qg.VP (WY rf)else Qg.VW (WY rf)])
def po:Array Value:=(Qe Q0 [if true=true then Qg.VP (WY rf)else Qg.VW (WY rf)])
def S3(rf:Qo)(Qa:List Int)(i:Int)(st:List Int)(sn:Nat):List Value:=[Q2 1 (QH Qa.length (Qe Q0 Qa)),.bool true,pA 2 0,pA 3 0,pA 4 0,YI i]
def Rb(Qa:List Int)(i:Int)(st:List Int)(sn:Nat):List Obj:=[Obj.cells #[Q2 1 (QH rf.Qb.length (Qe Qi rf.Qb)),YI rf.Qc,YI rf.Qd] 24,Obj.cells #[.slice none 0 0,.slice none 0 0,.slice none 0 0] 42,.cells #[.slice (some ⟨5,0,none⟩) sn 1,.slice none 0 0,.slice none 0 0] 42 (0,0),.cells (Qe Q0 st) 3 (0,0)]
def S5:List Item:=([.code [1,1,0,1,0,0],.inLoop [1,1,0,1,0,0],.inBlock 0,.code [1,1,1]]).map (it (QG YP 34))
def FG:Prop:=∃dJ:Nat->Value,(∀t,Xe (dJ t))/\GoE YP B c0 Zb 1 (Q9 34 104 (([1,2,3,6,7,8]:List Nat).zip (S3 rf Qa i st sn)) dJ S5) (Q8 (Rb rf Qa i st sn)) (2+(Rb rf Qa i st sn).length) []
def Jq(rf:Qo)(Qa:List Int)(i:Int)(st gs ks:List Int)(sn gn kn:Nat):List Value:=[Q2 1 (QH Qa.length (Qe Q0 Qa)),.bool true,pA 2 0,pA 3 0,pA 4 0,YI 0,.slice (some ⟨6,0,none⟩) gn 1,.slice (some ⟨7,0,none⟩) kn 1,YI i]
def Yq(Qa:List Int)(i:Int)(st gs ks:List Int)(sn gn kn:Nat):List Obj:=[Obj.cells #[Q2 1 (QH rf.Qb.length (Qe Qi rf.Qb)),YI rf.Qc,YI rf.Qd] 24,Obj.cells #[.slice none 0 0,.slice none 0 0,.slice none 0 0] 42,.cells #[.slice (some ⟨5,0,none⟩) sn 1,.slice none 0 0,.slice none 0 0] 42 (0,0),.cells (Qe Q0 st) 3 (0,0),.cells (Qe Q0 gs) 3 (0,0),.cells (Qe Q0 ks) 3 (0,0)]
def Js:List Item:=([.code [1,1,1,0,1,0,0,1,0,0,1,0,1,0,0],.inLoop [1,1,1,0,1,0,0,1,0,0,1,0,1,0,0],.inBlock 4,.code [1,1,1,0,1,0,0,1,0,0,1,1],.inBlock 3,.code [1,1,1,0,1,0,0,1,1],.inLoop [1,1,1,0,1,0,0],.inBlock 2,.code [1,1,1,1]]).map (it (QG YP 34))
def FF:Prop:=∃dJ:Nat->Value,(∀t,Xe (dJ t))/\GoE YP B c0 Zb 1 (Q9 34 104 (([1,2,3,6,7,10,11,12,13]:List Nat).zip (Jq rf Qa i st gs ks sn gn kn)) dJ Js) (Q8 (Yq rf Qa i st gs ks sn gn kn)) (2+(Yq rf Qa i st gs ks sn gn kn).length) []
def Jp(rf:Qo)(Qa:List Int)(s i:Int)(st gs ks:List Int)(gr kr:List RW)(sn gn kn gm km:Nat):List Value:=[Q2 1 (QH Qa.length (Qe Q0 Qa)),.bool true,pA 2 0,pA 3 0,pA 4 0,YI s,.slice (some ⟨8,0,none⟩) gn 1,.slice (some ⟨9,0,none⟩) kn 1,YI i]
def Yp(Qa:List Int)(s i:Int)(st gs ks:List Int)(gr kr:List RW)(sn gn kn gm km:Nat):List Obj:=[Obj.cells #[Q2 1 (QH rf.Qb.length (Qe Qi rf.Qb)),YI rf.Qc,YI rf.Qd] 24,Obj.cells #[.slice none 0 0,.slice none 0 0,.slice none 0 0] 42,.cells #[.slice (some ⟨5,0,none⟩) sn 1,.slice (some ⟨6,0,none⟩) gm 1,.slice (some ⟨7,0,none⟩) km 1] 42 (0,0),.cells (Qe Q0 st) 3 (0,0),.cells (Qe (pushE 1 Xr) gr) 25 (0,0),.cells (Qe (pushE 1 Xr) kr) 25 (0,0),.cells (Qe Q0 gs) 3 (0,0),.cells (Qe Q0 ks) 3 (0,0)]
def Jr:List Item:=([.code [1,1,1,0,1,0,0,1,0,0,1,0,1,0,0],.inLoop [1,1,1,0,1,0,0,1,0,0,1,0,1,0,0],.inBlock 4,.code [1,1,1,0,1,0,0,1,0,0,1,1],.inBlock 3,.code [1,1,1,0,1,0,0,1,1],.inLoop [1,1,1,0,1,0,0],.inBlock 2,.code [1,1,1,1]]).map (it (QG YP 34))
def FE:Prop:=∃dJ:Nat->Value,(∀t,Xe (dJ t))/\GoE YP B c0 Zb 1 (Q9 34 104 (([1,2,3,6,7,10,11,12,13]:List Nat).zip (Jp rf Qa s i st gs ks gr kr sn gn kn gm km)) dJ Jr) (Q8 (Yp rf Qa s i st gs ks gr kr sn gn kn gm km)) (2+(Yp rf Qa s i st gs ks gr kr sn gn kn gm km).length) []
def S1(rf:Qo)(Qa:List Int)(s:Int)(st:List Int)(gr kr:List RW)(sn gm km:Nat):List Value:=[Q2 1 (QH Qa.length (Qe Q0 Qa)),.bool true,pA 2 0,pA 3 0,pA 4 0,YI s]
def Ra(Qa:List Int)(s:Int)(st:List Int)(gr kr:List RW)(sn gm km:Nat):List Obj:=[Obj.cells #[Q2 1 (QH rf.Qb.length (Qe Qi rf.Qb)),YI rf.Qc,YI rf.Qd] 24,Obj.cells #[.slice none 0 0,.slice none 0 0,.slice none 0 0] 42,.cells #[.slice (some ⟨5,0,none⟩) sn 1,.slice (some ⟨6,0,none⟩) gm 1,.slice (some ⟨7,0,none⟩) km 1] 42 (0,0),.cells (Qe Q0 st) 3 (0,0),.cells (Qe (pushE 1 Xr) gr) 25 (0,0),.cells (Qe (pushE 1 Xr) kr) 25 (0,0)]
def S4:List Item:=([.code [1,1,1,0,1,0,0],.inLoop [1,1,1,0,1,0,0],.inBlock 2,.code [1,1,1,1]]).map (it (QG YP 34))
def FD:Prop:=∃dJ:Nat->Value,(∀t,Xe (dJ t))/\GoE YP B c0 Zb 1 (Q9 34 104 (([1,2,3,6,7,10]:List Nat).zip (S1 rf Qa s st gr kr sn gm km)) dJ S4) (Q8 (Ra rf Qa s st gr kr sn gm km)) (2+(Ra rf Qa s st gr kr sn gm km).length) []
theorem FB(B:Lo)(rf:Qo)(Qa:List Int)(i:Int)(st:List Int)(sn:Nat)(Qp:Nat->Value):let g:=Rb rf Qa i st sn;let f:=rf.Qb;let c:=f.getD i.toNat La;let a:=c.count;let d:=Wg rf.Qc a;let h:=YI d;let b:=st++[Wg rf.Qc a];let e:=Qe Q0 b;landM (Qq YP (Q6 YP) J0 B 18 1 (Q9 34 104 (([1,2,3,6,7,8]:List Nat).zip (S3 rf Qa i st sn)) Qp S5) (Q8 g) (2+g.length)
 [(4,ZC),(8,Qh.tidx i.toNat (Zq c)),(15,Qh.pure h []),(21,Qh.Xs (Hint.app e)),(25,Z4 (i+1))] 0 [] []) [1,2,3,6,7,8] [(2,KS.auto),(3,KS.auto),(4,KS.auto),(7,KS.cells [] e)] []=some ⟨34,104,S5,[],.run,none,S3 rf Qa (i+1) b (sn+1),Rb rf Qa (i+1) b (sn+1),
 [Qv 1 [] e e,wq (i+1)=i+1,Pz (Qe Q0 st) #[YI d] e sn (0+1) 8,Q3 []/\Qr YP J0 60 #[.agg (pr rf),YI a] h,Vr i f.length (PZ rf) Try.t54.size (Zq c),XA i (↑f.length:Int)=true]⟩:=by intro g f c a d h b e;kernel_rfl
def ub(B:Lo)(rf:Qo)(Qa:List Int)(i:Int)(st:List Int)(sn:Nat)(Qp:Nat->Value):List Prop:=[XA i (↑rf.Qb.length:Int)=false]++([]:List Prop)
def tY(i:Int)(st:List Int)(sn:Nat)(Qp:Nat->Value):QI:=[(4,Wi),(9,ZC),(17,ZC),(21,Qh.tidx 0 (Zq (rf.Qb.getD 0 La))),(31,Qh.tidx 0 (VD Qa))]
def ua:List Prop:=[XA 0 rf.Qd=true]++ub B rf Qa i st sn Qp
def lr:List Prop:=let a:=rf.Qb;[0=(↑0:Int)/\0<Ld Qa/\Lj (Qe Q0 Qa) (0*TypeInfo.size Try.t3) (0*TypeInfo.size Try.t3+TypeInfo.size Try.t3)=(VD Qa),0=(↑0:Int)/\0<Ld a/\Lj (PZ rf) (0*TypeInfo.size Try.t54) (0*TypeInfo.size Try.t54+TypeInfo.size Try.t54)=(Zq (a.getD 0 La)),XA 0 (↑a.length:Int)=true]++ua B rf Qa i st sn Qp
theorem FA(B:Lo)(rf:Qo)(Qa:List Int)(i:Int)(st:List Int)(sn:Nat)(Qp:Nat->Value):let e:=Rb rf Qa i st sn;let d:=Qe Q0 st;let c:=WY rf;let b:=Value.bool true;let a:=[if true=true then c.VP else c.VW];landM (Qq YP (Q6 YP) J0 B 44 1 (Q9 34 104 (([1,2,3,6,7,8]:List Nat).zip (S3 rf Qa i st sn)) Qp S5) (Q8 e) (2+e.length)
 (tY rf Qa i st sn Qp++[(34,Qh.pure b []),(35,Qh.pure (bD rf) []),(46,Qh.tidx 0 (VD Qa)),(49,Qh.pure b []),(50,Qh.pure (bD rf) [])]) 0 [] []) [1,2,3,6,7,10,11,12,13] [(2,KS.auto),(3,KS.auto),(4,KS.auto),(5,KS.cells [] d),(8,KS.cells [] (bE rf)),(10,KS.cells [] (po rf))] []=some ⟨34,104,Js,[],.run,none,Jq rf Qa (1) (st) ([c.Yk]) a (sn) (1) (1),Yq rf Qa (1) (st) ([c.Yk]) a (sn) (1) (1),
 [Qv 1 [] d d,Qv 1 [] ((eF rf)) (eD rf),Qv 1 [] ((px rf)) (pt rf),Q3 []/\Qr YP J0 61 (eG rf) (eC rf),Q3 []/\Qr YP J0 47 (eE Qa) b,0=(↑0:Int)/\0<Ld Qa/\Lj (Qe Q0 Qa) (0*TypeInfo.size Try.t3) (0*TypeInfo.size Try.t3+TypeInfo.size Try.t3)=(VD Qa),Q3 []/\Qr YP J0 61 (eG rf) (eC rf),Q3 []/\Qr YP J0 47 (eE Qa) b]++lr B rf Qa i st sn Qp⟩:=by intro e d c b a;kernel_rfl
theorem F9(B:Lo)(rf:Qo)(Qa:List Int)(i:Int)(st:List Int)(sn:Nat)(Qp:Nat->Value):let e:=Rb rf Qa i st sn;let d:=Qe Q0 st;let c:=WY rf;let b:=Value.bool false;let a:=[if false=true then c.VP else c.VW];landM (Qq YP (Q6 YP) J0 B 44 1 (Q9 34 104 (([1,2,3,6,7,8]:List Nat).zip (S3 rf Qa i st sn)) Qp S5) (Q8 e) (2+e.length)
 (tY rf Qa i st sn Qp++[(34,Qh.pure b []),(35,Qh.pure (bC rf) []),(46,Qh.tidx 0 (VD Qa)),(49,Qh.pure b []),(50,Qh.pure (bC rf) [])]) 0 [] []) [1,2,3,6,7,10,11,12,13] [(2,KS.auto),(3,KS.auto),(4,KS.auto),(5,KS.cells [] d),(8,KS.cells [] (bE rf)),(10,KS.cells [] (pq rf))] []=some ⟨34,104,Js,[],.run,none,Jq rf Qa (1) (st) ([c.Yk]) a (sn) (1) (1),Yq rf Qa (1) (st) ([c.Yk]) a (sn) (1) (1),
 [Qv 1 [] d d,Qv 1 [] ((eF rf)) (eD rf),Qv 1 [] ((py rf)) (pw rf),Q3 []/\Qr YP J0 61 (eH rf) (eB rf),Q3 []/\Qr YP J0 47 (eE Qa) b,0=(↑0:Int)/\0<Ld Qa/\Lj (Qe Q0 Qa) (0*TypeInfo.size Try.t3) (0*TypeInfo.size Try.t3+TypeInfo.size Try.t3)=(VD Qa),Q3 []/\Qr YP J0 61 (eH rf) (eB rf),Q3 []/\Qr YP J0 47 (eE Qa) b]++lr B rf Qa i st sn Qp⟩:=by intro e d c b a;kernel_rfl
def lq(B:Lo)(rf:Qo)(Qa:List Int)(i:Int)(st gs ks:List Int)(sn gn kn:Nat)(Qp:Nat->Value):List Prop:=let a:=rf.Qb;[0=(↑0:Int)/\0<Ld Qa/\Lj (Qe Q0 Qa) (0*TypeInfo.size Try.t3) (0*TypeInfo.size Try.t3+TypeInfo.size Try.t3)=(VD Qa),Vr i a.length (PZ rf) Try.t54.size (Zq (a.getD i.toNat La)),XA i (↑a.length:Int)=true]++([]:List Prop)
def tX(st gs ks:List Int)(sn gn kn:Nat)(Qp:Nat->Value):QI:=[(4,ZC),(8,Qh.tidx i.toNat (Zq (rf.Qb.getD i.toNat La))),(18,Qh.tidx 0 (VD Qa))]
theorem F8(B:Lo)(rf:Qo)(Qa:List Int)(i:Int)(st gs ks:List Int)(sn gn kn:Nat)(Qp:Nat->Value):let k:=Qa.getD 0 La;let j:=Qe Q0 st;let h:=Yq rf Qa i st gs ks sn gn kn;let e:=Value.bool true;let a:=rf.Qb.getD i.toNat La;let g:=gs++[a.Yk];let d:=Value.agg (eI a);let c:=Qe Q0 g;let b:=ks++[if true=true then a.VP else a.VW];let f:=Qe Q0 b;landM (Qq YP (Q6 YP) J0 B 20 1 (Q9 34 104 (([1,2,3,6,7,10,11,12,13]:List Nat).zip (Jq rf Qa i st gs ks sn gn kn)) Qp Js) (Q8 h) (2+h.length)
 (tX rf Qa i st gs ks sn gn kn Qp++[(21,Qh.pure e []),(22,Qh.pure d []),(33,Qh.tidx 0 (VD Qa)),(36,Qh.pure e []),(37,Qh.pure d []),(44,Qh.Xs (Hint.app c)),(48,Qh.Xs (Hint.app f)),(52,Z4 (i+1))]) 0 [] []) [1,2,3,6,7,10,11,12,13] [(2,KS.auto),(3,KS.auto),(4,KS.auto),(5,KS.cells [] j),(10,KS.cells [] c),(12,KS.cells [] f)] []=some ⟨34,104,Js,[],.run,none,Jq rf Qa (i+1) (st) g b (sn) (gn+1) (kn+1),Yq rf Qa (i+1) (st) g b (sn) (gn+1) (kn+1),
 [Qv 1 [] j j,Qv 1 [] c c,Qv 1 [] f f,wq (i+1)=i+1,Pz (Qe Q0 ks) #[YI (if true=true then a.VP else a.VW)] f kn (0+1) 8,Pz (Qe Q0 gs) #[YI a.Yk] c gn (0+1) 8,Q3 []/\Qr YP J0 61 #[.agg (Zq a),.bool true] d,Q3 []/\Qr YP J0 47 #[YI k,YI i] e,0=(↑0:Int)/\0<Ld Qa/\Lj (Qe Q0 Qa) (0*TypeInfo.size Try.t3) (0*TypeInfo.size Try.t3+TypeInfo.size Try.t3)=(VD Qa),Q3 []/\Qr YP J0 61 #[.agg (Zq a),.bool true] d,Q3 []/\Qr YP J0 47 #[YI k,YI i] e]++lq B rf Qa i st gs ks sn gn kn Qp⟩:=by intro k j h e a g d c b f;kernel_rfl
theorem F7(B:Lo)(rf:Qo)(Qa:List Int)(i:Int)(st gs ks:List Int)(sn gn kn:Nat)(Qp:Nat->Value):let k:=Qa.getD 0 La;let j:=Qe Q0 st;let h:=Yq rf Qa i st gs ks sn gn kn;let e:=Value.bool false;let a:=rf.Qb.getD i.toNat La;let g:=gs++[a.Yk];let d:=Value.agg (eJ a);let c:=Qe Q0 g;let b:=ks++[if false=true then a.VP else a.VW];let f:=Qe Q0 b;landM (Qq YP (Q6 YP) J0 B 20 1 (Q9 34 104 (([1,2,3,6,7,10,11,12,13]:List Nat).zip (Jq rf Qa i st gs ks sn gn kn)) Qp Js) (Q8 h) (2+h.length)
 (tX rf Qa i st gs ks sn gn kn Qp++[(21,Qh.pure e []),(22,Qh.pure d []),(33,Qh.tidx 0 (VD Qa)),(36,Qh.pure e []),(37,Qh.pure d []),(44,Qh.Xs (Hint.app c)),(48,Qh.Xs (Hint.app f)),(52,Z4 (i+1))]) 0 [] []) [1,2,3,6,7,10,11,12,13] [(2,KS.auto),(3,KS.auto),(4,KS.auto),(5,KS.cells [] j),(10,KS.cells [] c),(12,KS.cells [] f)] []=some ⟨34,104,Js,[],.run,none,Jq rf Qa (i+1) (st) g b (sn) (gn+1) (kn+1),Yq rf Qa (i+1) (st) g b (sn) (gn+1) (kn+1),
 [Qv 1 [] j j,Qv 1 [] c c,Qv 1 [] f f,wq (i+1)=i+1,Pz (Qe Q0 ks) #[YI (if false=true then a.VP else a.VW)] f kn (0+1) 8,Pz (Qe Q0 gs) #[YI a.Yk] c gn (0+1) 8,Q3 []/\Qr YP J0 61 #[.agg (Zq a),.bool false] d,Q3 []/\Qr YP J0 47 #[YI k,YI i] e,0=(↑0:Int)/\0<Ld Qa/\Lj (Qe Q0 Qa) (0*TypeInfo.size Try.t3) (0*TypeInfo.size Try.t3+TypeInfo.size Try.t3)=(VD Qa),Q3 []/\Qr YP J0 61 #[.agg (Zq a),.bool false] d,Q3 []/\Qr YP J0 47 #[YI k,YI i] e]++lq B rf Qa i st gs ks sn gn kn Qp⟩:=by intro k j h e a g d c b f;kernel_rfl
theorem F6(B:Lo)(rf:Qo)(Qa:List Int)(i:Int)(st gs ks:List Int)(sn gn kn:Nat)(Qp:Nat->Value):let f:=[{n:=kn,l:=ks}];let e:=[{n:=gn,l:=gs}];let d:=Qe Q0 st;let c:=Yq rf Qa i st gs ks sn gn kn;let b:=Qe (pushE 1 Xr) [{n:=kn,l:=ks}];let a:=Qe (pushE 1 Xr) [{n:=gn,l:=gs}];landM (Qq YP (Q6 YP) J0 B 9 1 (Q9 34 104 (([1,2,3,6,7,10,11,12,13]:List Nat).zip (Jq rf Qa i st gs ks sn gn kn)) Qp Js) (Q8 c) (2+c.length)
 [(4,Wi)] 0 [] []) [1,2,3,6,7,10] [(2,KS.auto),(3,KS.auto),(4,KS.auto),(5,KS.cells [] d),(9,KS.rows [] [6] [] a),(11,KS.rows [] [7] [] b)] [{k:=6,rs:=[],cs:=Qe Q0 gs},{k:=7,rs:=[],cs:=Qe Q0 ks}]=some ⟨34,104,S4,[],.run,none,S1 rf Qa (1) (st) e f (sn) (1) (1),Ra rf Qa (1) (st) e f (sn) (1) (1),
 [Qv 1 [] d d,QX 1 [] [(6,Fz.cs {k:=6,rs:=[],cs:=Qe Q0 gs})] [] #[.slice (some {block:=6,off:=0}) gn 1] a,X4 (Fz.rs {k:=6,rs:=[],cs:=Qe Q0 gs}) (Qe Q0 gs) (Fz.cs {k:=6,rs:=[],cs:=Qe Q0 gs}),QX 1 [] [(7,Fz.cs {k:=7,rs:=[],cs:=Qe Q0 ks})] [] #[.slice (some {block:=7,off:=0}) kn 1] b,X4 (Fz.rs {k:=7,rs:=[],cs:=Qe Q0 ks}) (Qe Q0 ks) (Fz.cs {k:=7,rs:=[],cs:=Qe Q0 ks}),XA i (↑rf.Qb.length:Int)=false]⟩:=by intro f e d c b a;kernel_rfl
def lp(B:Lo)(rf:Qo)(Qa:List Int)(s i:Int)(st gs ks:List Int)(gr kr:List RW)(sn gn kn gm km:Nat)(Qp:Nat->Value):List Prop:=let a:=rf.Qb;[Vr s Qa.length (Qe Q0 Qa) Try.t3.size #[YI (Qa.getD s.toNat La)],Vr i a.length (PZ rf) Try.t54.size (Zq (a.getD i.toNat La)),XA i (↑a.length:Int)=true]++([]:List Prop)
def tW(st gs ks:List Int)(gr kr:List RW)(sn gn kn gm km:Nat)(Qp:Nat->Value):QI:=[(4,ZC),(8,Qh.tidx i.toNat (Zq (rf.Qb.getD i.toNat La))),(18,Qh.tidx s.toNat #[YI (Qa.getD s.toNat La)])]
theorem F5(B:Lo)(rf:Qo)(Qa:List Int)(s i:Int)(st gs ks:List Int)(gr kr:List RW)(sn gn kn gm km:Nat)(Qp:Nat->Value):let l:=Qe Q0 st;let h:=Value.bool true;let g:=Yp rf Qa s i st gs ks gr kr sn gn kn gm km;let e:=pushE 1 Xr;let d:=Qa.getD s.toNat La;let a:=rf.Qb.getD i.toNat La;let k:=gs++[a.Yk];let f:=Value.agg (eI a);let c:=Qe Q0 k;let b:=ks++[if true=true then a.VP else a.VW];let j:=Qe Q0 b;landM (Qq YP (Q6 YP) J0 B 20 1 (Q9 34 104 (([1,2,3,6,7,10,11,12,13]:List Nat).zip (Jp rf Qa s i st gs ks gr kr sn gn kn gm km)) Qp Jr) (Q8 g) (2+g.length)
 (tW rf Qa s i st gs ks gr kr sn gn kn gm km Qp++[(21,Qh.pure h []),(22,Qh.pure f []),(33,Qh.tidx s.toNat #[YI d]),(36,Qh.pure h []),(37,Qh.pure f []),(44,Qh.Xs (Hint.app c)),(48,Qh.Xs (Hint.app j)),(52,Z4 (i+1))]) 0 [] []) [1,2,3,6,7,10,11,12,13] [(2,KS.auto),(3,KS.auto),(4,KS.auto),(5,KS.cells [] l),(6,KS.rows [(1,1)] [] [] (Qe e gr)),(7,KS.rows [(1,1)] [] [] (Qe e kr)),(12,KS.cells [] c),(14,KS.cells [] j)] []=some ⟨34,104,Jr,[],.run,none,Jp rf Qa (s) (i+1) (st) k b (gr) (kr) (sn) (gn+1) (kn+1) (gm) (km),Yp rf Qa (s) (i+1) (st) k b (gr) (kr) (sn) (gn+1) (kn+1) (gm) (km),
 [Qv 1 [] l l,QX 1 [(1,1)] [] [] (Qe e gr) (Qe e gr),QX 1 [(1,1)] [] [] (Qe e kr) (Qe e kr),Qv 1 [] c c,Qv 1 [] j j,wq (i+1)=i+1,Pz (Qe Q0 ks) #[YI (if true=true then a.VP else a.VW)] j kn (0+1) 8,Pz (Qe Q0 gs) #[YI a.Yk] c gn (0+1) 8,Q3 []/\Qr YP J0 61 #[.agg (Zq a),.bool true] f,Q3 []/\Qr YP J0 47 #[YI d,YI i] h,Vr s Qa.length (Qe Q0 Qa) Try.t3.size #[YI d],Q3 []/\Qr YP J0 61 #[.agg (Zq a),.bool true] f,Q3 []/\Qr YP J0 47 #[YI d,YI i] h]++lp B rf Qa s i st gs ks gr kr sn gn kn gm km Qp⟩:=by intro l h g e d a k f c b j;kernel_rfl
theorem F3(B:Lo)(rf:Qo)(Qa:List Int)(s i:Int)(st gs ks:List Int)(gr kr:List RW)(sn gn kn gm km:Nat)(Qp:Nat->Value):let l:=Qe Q0 st;let h:=Value.bool false;let g:=Yp rf Qa s i st gs ks gr kr sn gn kn gm km;let e:=pushE 1 Xr;let d:=Qa.getD s.toNat La;let a:=rf.Qb.getD i.toNat La;let k:=gs++[a.Yk];let f:=Value.agg (eJ a);let c:=Qe Q0 k;let b:=ks++[if false=true then a.VP else a.VW];let j:=Qe Q0 b;landM (Qq YP (Q6 YP) J0 B 20 1 (Q9 34 104 (([1,2,3,6,7,10,11,12,13]:List Nat).zip (Jp rf Qa s i st gs ks gr kr sn gn kn gm km)) Qp Jr) (Q8 g) (2+g.length)
 (tW rf Qa s i st gs ks gr kr sn gn kn gm km Qp++[(21,Qh.pure h []),(22,Qh.pure f []),(33,Qh.tidx s.toNat #[YI d]),(36,Qh.pure h []),(37,Qh.pure f []),(44,Qh.Xs (Hint.app c)),(48,Qh.Xs (Hint.app j)),(52,Z4 (i+1))]) 0 [] []) [1,2,3,6,7,10,11,12,13] [(2,KS.auto),(3,KS.auto),(4,KS.auto),(5,KS.cells [] l),(6,KS.rows [(1,1)] [] [] (Qe e gr)),(7,KS.rows [(1,1)] [] [] (Qe e kr)),(12,KS.cells [] c),(14,KS.cells [] j)] []=some ⟨34,104,Jr,[],.run,none,Jp rf Qa (s) (i+1) (st) k b (gr) (kr) (sn) (gn+1) (kn+1) (gm) (km),Yp rf Qa (s) (i+1) (st) k b (gr) (kr) (sn) (gn+1) (kn+1) (gm) (km),
 [Qv 1 [] l l,QX 1 [(1,1)] [] [] (Qe e gr) (Qe e gr),QX 1 [(1,1)] [] [] (Qe e kr) (Qe e kr),Qv 1 [] c c,Qv 1 [] j j,wq (i+1)=i+1,Pz (Qe Q0 ks) #[YI (if false=true then a.VP else a.VW)] j kn (0+1) 8,Pz (Qe Q0 gs) #[YI a.Yk] c gn (0+1) 8,Q3 []/\Qr YP J0 61 #[.agg (Zq a),.bool false] f,Q3 []/\Qr YP J0 47 #[YI d,YI i] h,Vr s Qa.length (Qe Q0 Qa) Try.t3.size #[YI d],Q3 []/\Qr YP J0 61 #[.agg (Zq a),.bool false] f,Q3 []/\Qr YP J0 47 #[YI d,YI i] h]++lp B rf Qa s i st gs ks gr kr sn gn kn gm km Qp⟩:=by intro l h g e d a k f c b j;kernel_rfl
theorem F2(B:Lo)(rf:Qo)(Qa:List Int)(s i:Int)(st gs ks:List Int)(gr kr:List RW)(sn gn kn gm km:Nat)(Qp:Nat->Value):let j:=Qe Q0 st;let h:=some {block:=8,off:=0};let g:=some {block:=9,off:=0};let f:=Yp rf Qa s i st gs ks gr kr sn gn kn gm km;let e:=kr++[{n:=kn,l:=ks}];let d:=gr++[{n:=gn,l:=gs}];let c:=pushE 1 Xr;let b:=Qe c kr++#[.slice g kn 1];let a:=Qe c gr++#[.slice h gn 1];landM (Qq YP (Q6 YP) J0 B 9 1 (Q9 34 104 (([1,2,3,6,7,10,11,12,13]:List Nat).zip (Jp rf Qa s i st gs ks gr kr sn gn kn gm km)) Qp Jr) (Q8 f) (2+f.length)
 [(4,Wi),(9,Qh.Xs (Hint.app a)),(14,Qh.Xs (Hint.app b)),(20,Z4 (s+1))] 0 [] []) [1,2,3,6,7,10] [(2,KS.auto),(3,KS.auto),(4,KS.auto),(5,KS.cells [] j),(11,KS.rows [(1,1)] [8] [] (Qe c d)),(13,KS.rows [(1,1)] [9] [] (Qe c e))] [{k:=8,rs:=[],cs:=Qe Q0 gs},{k:=9,rs:=[],cs:=Qe Q0 ks}]=some ⟨34,104,S4,[],.run,none,S1 rf Qa (s+1) (st) d e (sn) (gm+1) (km+1),Ra rf Qa (s+1) (st) d e (sn) (gm+1) (km+1),
 [Qv 1 [] j j,QX 1 [(1,1)] [(8,Fz.cs {k:=8,rs:=[],cs:=Qe Q0 gs})] [] a (Qe c d),X4 (Fz.rs {k:=8,rs:=[],cs:=Qe Q0 gs}) (Qe Q0 gs) (Fz.cs {k:=8,rs:=[],cs:=Qe Q0 gs}),QX 1 [(1,1)] [(9,Fz.cs {k:=9,rs:=[],cs:=Qe Q0 ks})] [] b (Qe c e),X4 (Fz.rs {k:=9,rs:=[],cs:=Qe Q0 ks}) (Qe Q0 ks) (Fz.cs {k:=9,rs:=[],cs:=Qe Q0 ks}),wq (s+1)=s+1,Pz ((Qe c kr)) #[.slice g kn 1] b km (0+1) 24,Pz ((Qe c gr)) #[.slice h gn 1] a gm (0+1) 24,XA i (↑rf.Qb.length:Int)=false]⟩:=by intro j h g f e d c b a;kernel_rfl
def tZ(B:Lo)(rf:Qo)(Qa:List Int)(s:Int)(st:List Int)(gr kr:List RW)(sn gm km:Nat)(Qp:Nat->Value):List Prop:=[XA s rf.Qd=true]++([]:List Prop)
def tV(st:List Int)(gr kr:List RW)(sn gm km:Nat)(Qp:Nat->Value):QI:=[(3,ZC),(11,ZC),(15,Qh.tidx 0 (Zq (rf.Qb.getD 0 La))),(25,Qh.tidx s.toNat #[YI (Qa.getD s.toNat La)])]
def ll:List Prop:=let a:=rf.Qb;[Vr s Qa.length (Qe Q0 Qa) Try.t3.size #[YI (Qa.getD s.toNat La)],0=(↑0:Int)/\0<Ld a/\Lj (PZ rf) (0*TypeInfo.size Try.t54) (0*TypeInfo.size Try.t54+TypeInfo.size Try.t54)=(Zq (a.getD 0 La)),XA 0 (↑a.length:Int)=true]++tZ B rf Qa s st gr kr sn gm km Qp
theorem F1(B:Lo)(rf:Qo)(Qa:List Int)(s:Int)(st:List Int)(gr kr:List RW)(sn gm km:Nat)(Qp:Nat->Value):let g:=Qe Q0 st;let f:=WY rf;let e:=Ra rf Qa s st gr kr sn gm km;let d:=Value.bool true;let c:=pushE 1 Xr;let b:=[if true=true then f.VP else f.VW];let a:=Qa.getD s.toNat La;landM (Qq YP (Q6 YP) J0 B 34 1 (Q9 34 104 (([1,2,3,6,7,10]:List Nat).zip (S1 rf Qa s st gr kr sn gm km)) Qp S4) (Q8 e) (2+e.length)
 (tV rf Qa s st gr kr sn gm km Qp++[(28,Qh.pure d []),(29,Qh.pure (bD rf) []),(40,Qh.tidx s.toNat #[YI a]),(43,Qh.pure d []),(44,Qh.pure (bD rf) [])]) 0 [] []) [1,2,3,6,7,10,11,12,13] [(2,KS.auto),(3,KS.auto),(4,KS.auto),(5,KS.cells [] g),(6,KS.rows [(1,1)] [] [] (Qe c gr)),(7,KS.rows [(1,1)] [] [] (Qe c kr)),(10,KS.cells [] (bE rf)),(12,KS.cells [] (po rf))] []=some ⟨34,104,Jr,[],.run,none,Jp rf Qa (s) (1) (st) ([f.Yk]) b (gr) (kr) (sn) (1) (1) (gm) (km),Yp rf Qa (s) (1) (st) ([f.Yk]) b (gr) (kr) (sn) (1) (1) (gm) (km),
 [Qv 1 [] g g,QX 1 [(1,1)] [] [] (Qe c gr) (Qe c gr),QX 1 [(1,1)] [] [] (Qe c kr) (Qe c kr),Qv 1 [] ((eF rf)) (eD rf),Qv 1 [] ((px rf)) (pt rf),Q3 []/\Qr YP J0 61 (eG rf) (eC rf),Q3 []/\Qr YP J0 47 #[YI a,YI 0] d,Vr s Qa.length (Qe Q0 Qa) Try.t3.size #[YI a],Q3 []/\Qr YP J0 61 (eG rf) (eC rf),Q3 []/\Qr YP J0 47 #[YI a,YI 0] d]++ll B rf Qa s st gr kr sn gm km Qp⟩:=by intro g f e d c b a;kernel_rfl
theorem Cx(B:Lo)(rf:Qo)(Qa:List Int)(s:Int)(st:List Int)(gr kr:List RW)(sn gm km:Nat)(Qp:Nat->Value):let g:=Qe Q0 st;let f:=WY rf;let e:=Ra rf Qa s st gr kr sn gm km;let d:=Value.bool false;let c:=pushE 1 Xr;let b:=[if false=true then f.VP else f.VW];let a:=Qa.getD s.toNat La;landM (Qq YP (Q6 YP) J0 B 34 1 (Q9 34 104 (([1,2,3,6,7,10]:List Nat).zip (S1 rf Qa s st gr kr sn gm km)) Qp S4) (Q8 e) (2+e.length)
 (tV rf Qa s st gr kr sn gm km Qp++[(28,Qh.pure d []),(29,Qh.pure (bC rf) []),(40,Qh.tidx s.toNat #[YI a]),(43,Qh.pure d []),(44,Qh.pure (bC rf) [])]) 0 [] []) [1,2,3,6,7,10,11,12,13] [(2,KS.auto),(3,KS.auto),(4,KS.auto),(5,KS.cells [] g),(6,KS.rows [(1,1)] [] [] (Qe c gr)),(7,KS.rows [(1,1)] [] [] (Qe c kr)),(10,KS.cells [] (bE rf)),(12,KS.cells [] (pq rf))] []=some ⟨34,104,Jr,[],.run,none,Jp rf Qa (s) (1) (st) ([f.Yk]) b (gr) (kr) (sn) (1) (1) (gm) (km),Yp rf Qa (s) (1) (st) ([f.Yk]) b (gr) (kr) (sn) (1) (1) (gm) (km),
 [Qv 1 [] g g,QX 1 [(1,1)] [] [] (Qe c gr) (Qe c gr),QX 1 [(1,1)] [] [] (Qe c kr) (Qe c kr),Qv 1 [] ((eF rf)) (eD rf),Qv 1 [] ((py rf)) (pw rf),Q3 []/\Qr YP J0 61 (eH rf) (eB rf),Q3 []/\Qr YP J0 47 #[YI a,YI 0] d,Vr s Qa.length (Qe Q0 Qa) Try.t3.size #[YI a],Q3 []/\Qr YP J0 61 (eH rf) (eB rf),Q3 []/\Qr YP J0 47 #[YI a,YI 0] d]++ll B rf Qa s st gr kr sn gm km Qp⟩:=by intro g f e d c b a;kernel_rfl
theorem Cw(B:Lo)(rf:Qo)(Qa:List Int)(s:Int)(st:List Int)(gr kr:List RW)(sn gm km:Nat)(Qp:Nat->Value):let d:=Ra rf Qa s st gr kr sn gm km;let c:=Fz.cs {k:=5,rs:=[],cs:=Qe Q0 st};let b:=Fz.cs {k:=7,rs:=[1],cs:=Qe Xr kr};let a:=Fz.cs {k:=6,rs:=[1],cs:=Qe Xr gr};Xq (Qq YP (Q6 YP) J0 B 9 1 (Q9 34 104 (([1,2,3,6,7,10]:List Nat).zip (S1 rf Qa s st gr kr sn gm km)) Qp S4) (Q8 d) (2+d.length)
 [(3,Wi)] 0 [] []) [{k:=5,rs:=[],cs:=Qe Q0 st},{k:=6,rs:=[1],cs:=Qe Xr gr},{k:=7,rs:=[1],cs:=Qe Xr kr}]=some (.agg #[QH sn c,QH gm a,QH km b],
 [X4 (Fz.rs {k:=5,rs:=[],cs:=Qe Q0 st}) (Qe Q0 st) c,X4 (Fz.rs {k:=6,rs:=[1],cs:=Qe Xr gr}) (Qe (pushE 1 Xr) gr) a,X4 (Fz.rs {k:=7,rs:=[1],cs:=Qe Xr kr}) (Qe (pushE 1 Xr) kr) b,XA s rf.Qd=false]):=by intro d c b a;kernel_rfl
theorem Cv(B:Lo)(rf:Qo)(Qa:List Int):let d:=rf.Qb;let c:=Qg.count (WY rf);let b:=rf.Qc;let a:=Qg.count (d.getD 0 La);landM (Qq YP (Q6 YP) J0 B 27 1 (Qx YP 34 104 (([.agg (Q1 rf).toArray,Zk Qa,.bool true]).map (Q7 0 4))) Zb 1
 [(8,ZC),(12,Qh.tidx 0 (Zq (WY rf))),(19,Qh.pure (YI (Wg b c)) [])] 0 [] []) [1,2,3,6,7,8] [(1,KS.auto),(2,KS.auto),(3,KS.auto),(5,KS.cells [] (Qe Q0 [Wg b c]))] []=some ⟨34,104,S5,[],.run,none,S3 rf Qa (1) ([Wg b c]) (1),Rb rf Qa (1) ([Wg b c]) (1),
 [Qv 1 [] (#[YI (Wg b a)]) (Qe Q0 [Wg b a]),Q3 []/\Qr YP J0 60 #[.agg (pr rf),YI a] (YI (Wg b a)),0=(↑0:Int)/\0<Ld d/\Lj (PZ rf) (0*TypeInfo.size Try.t54) (0*TypeInfo.size Try.t54+TypeInfo.size Try.t54)=(Zq (d.getD 0 La)),XA 0 (↑d.length:Int)=true]⟩:=by intro d c b a;kernel_rfl
end
set_option maxHeartbeats 4000000 in
theorem FC(rf:Qo)(Qa:List Int)(hr:XG rf=true)(hp:XZ rf Qa=true){B:Lo}(hJ:∀w,B.has w->J0 w){c0:CF}:∀m:Nat,(∀(i:Int) (st:List Int) (sn:Nat),10000+(rf.Qb.length-i.toNat)=m->∀(h0:1<=i) (h1:i<=rf.Qb.length) (hsn:sn=st.length) (Zh:st=ag (sV true rf) i),FG B c0 rf Qa i st sn->EndsT YP B c0 (bF rf Qa))/\(∀(i:Int) (st gs ks:List Int) (sn gn kn:Nat),9000+(rf.Qb.length-i.toNat)=m->∀(h0:1<=i) (h1:i<=rf.Qb.length) (hsn:sn=st.length) (Zh:st=Z7 rf) (Ku:gn=gs.length) (hg:gs=ag (gV true rf) i) (hkn:kn=ks.length) (hk:ks=ag (kV true rf (Qa.getD 0 0)) i),FF B c0 rf Qa i st gs ks sn gn kn->EndsT YP B c0 (bF rf Qa))/\(∀(s i:Int) (st gs ks:List Int) (gr kr:List RW) (sn gn kn gm km:Nat),100*(rf.Qd-s).toNat+(rf.Qb.length-i.toNat)=m->∀(s0:1<=s) (s1:s<rf.Qd) (h0:1<=i) (h1:i<=rf.Qb.length) (hsn:sn=st.length) (Zh:st=Z7 rf) (hgm:gm=gr.length) (hgr:gr=(UZ 0 s).map fun _=>⟨rf.Qb.length,Pu rf⟩) (hkm:km=kr.length) (hkr:kr=(UZ 0 s).map fun z=>⟨rf.Qb.length,Pe rf (Qa.getD z.toNat 0)⟩) (Ku:gn=gs.length) (hg:gs=ag (gV true rf) i) (hkn:kn=ks.length) (hk:ks=ag (kV true rf (Qa.getD s.toNat 0)) i),FE B c0 rf Qa s i st gs ks gr kr sn gn kn gm km->EndsT YP B c0 (bF rf Qa))/\(∀(s:Int) (st:List Int) (gr kr:List RW) (sn gm km:Nat),100*(rf.Qd-s).toNat+99=m->∀(s0:1<=s) (s1:s<=rf.Qd) (hsn:sn=st.length) (Zh:st=Z7 rf) (hgm:gm=gr.length) (hgr:gr=(UZ 0 s).map fun _=>⟨rf.Qb.length,Pu rf⟩) (hkm:km=kr.length) (hkr:kr=(UZ 0 s).map fun z=>⟨rf.Qb.length,Pe rf (Qa.getD z.toNat 0)⟩),FD B c0 rf Qa s st gr kr sn gm km->EndsT YP B c0 (bF rf Qa)):=by
 intro m0;induction m0 using LB with
 |_ m0 ih0=>
  refine⟨?_, ?_, ?_, ?_⟩
  ·intro i st sn UX h0 h1 hsn Zh ⟨Qp,Zr,Xo⟩;have ZW:=QC (QB hr).1;have hsl0:=Pk (rf:=rf);have hpq:0<=Qa.getD 0 La/\Qa.getD 0 La<=1000000000:=by have:=Z2 hr hp 0;show 0<=Qa.getD 0 0/\Qa.getD 0 0<=1000000000;omega
   have hpf:=(XM hp).1;have hpq:0<=Qa.getD 0 La/\Qa.getD 0 La<=1000000000:=by have:=Z2 hr hp 0;show 0<=Qa.getD 0 0/\Qa.getD 0 0<=1000000000;omega
   have hsl:(st.length:Int)=i:=by rw[Zh];exact Kn (by omega)
   by_cases q0:(i:Int)<((↑rf.Qb.length:Int))
   ·have hci:=(Wl ((QB hr).2 i (by omega) q0).1).1;exact((ih0 _ (by omega)).1 (i+1) (st++[Wg rf.Qc (Qg.count (rf.Qb.getD i.toNat La))]) (sn+1) rfl (by omega) (by omega) (by(simp only[Lh,Li,Lk];omega)) (by(rw[Zh];exact Zu (by omega)))
     (Xo.landM okF hJ Qf (FB B rf Qa i st sn Qp)
     ⟨(XI fun _=>by rfl),⟨(QP (by omega) (by omega)),⟨⟨(by(rw[QT (z:=1) (fun _=>rfl)];first|omega|(simp;omega)|(simp_all;done))),(by unfold maxLen;omega),by omega,by first|exact Xv|exact Xl rfl⟩,⟨⟨trivial,Fw (rf) (Qg.count (rf.Qb.getD i.toNat La)) (by omega) (by omega)⟩,⟨⟨by omega,by omega,(Qu (z:=12) (fun _=>rfl) (by omega))⟩,⟨(Xh q0),trivial⟩⟩⟩⟩⟩⟩ (by kernel_rfl) (by kernel_rfl))).cast (by rfl)
   ·have Uc:Q3 (ub B rf Qa i st sn Qp):=by
     exact⟨(X7 (Int.not_lt.1 q0)),trivial⟩
    by_cases q1:(0:Int)<rf.Qd
    ·have Yi:Q3 (ua B rf Qa i st sn Qp):=by
      exact⟨(Xh q1),Uc⟩
     by_cases q2:(0:Int)<((↑rf.Qb.length:Int))
     ·have Sm:Q3 (lr B rf Qa i st sn Qp):=by
       exact⟨⟨by omega,by omega,(Qu (z:=1) (fun _=>rfl) (by omega))⟩,⟨⟨by omega,by omega,(Qu (z:=12) (fun _=>rfl) (by omega))⟩,⟨(Xh q2),Yi⟩⟩⟩
      cases q3:hasB (Qa.getD 0 La) 0 with
      |true=>
       have hse:st=Z7 rf:=by rw[Zh,show i=rf.Qb.length by omega];exact qF (b:=true)
       exact((ih0 _ (by omega)).2.1 (1) (st) ([Qg.Yk (rf.Qb.getD 0 La)]) ([if true=true then Qg.VP (rf.Qb.getD 0 La)else Qg.VW (rf.Qb.getD 0 La)]) (sn) (1) (1) rfl (by omega) (by omega) (by with_reducible assumption) (by with_reducible assumption) (by rfl) (by rfl) (by rfl) (by(rw[JX];exact congrArg (fun z=>[z]) (B3 (k:=0) (by assumption)).symm))
        (Xo.landM okF hJ Qf (FA B rf Qa i st sn Qp)
        ⟨(XI fun _=>by rfl),⟨(Xm (by kernel_rfl)),⟨(Xm (by kernel_rfl)),⟨⟨trivial,Wk (rf.Qb.getD 0 La) (true)⟩,⟨⟨trivial,(by have t_:=Pm (Qa.getD 0 La) (0) (by with_reducible assumption) (by omega);rw[q3]at t_;exact t_)⟩,⟨⟨by omega,by omega,(Qu (z:=1) (fun _=>rfl) (by omega))⟩,⟨⟨trivial,Wk (rf.Qb.getD 0 La) (true)⟩,⟨⟨trivial,(by have t_:=Pm (Qa.getD 0 La) (0) (by with_reducible assumption) (by omega);rw[q3]at t_;exact t_)⟩,Sm⟩⟩⟩⟩⟩⟩⟩⟩ (by kernel_rfl) (by kernel_rfl))).cast (by rfl)
      |false=>
       have hse:st=Z7 rf:=by rw[Zh,show i=rf.Qb.length by omega];exact qF (b:=true)
       exact((ih0 _ (by omega)).2.1 (1) (st) ([Qg.Yk (rf.Qb.getD 0 La)]) ([if false=true then Qg.VP (rf.Qb.getD 0 La)else Qg.VW (rf.Qb.getD 0 La)]) (sn) (1) (1) rfl (by omega) (by omega) (by with_reducible assumption) (by with_reducible assumption) (by rfl) (by rfl) (by rfl) (by(rw[JX];exact congrArg (fun z=>[z]) (B4 (k:=0) (by assumption)).symm))
        (Xo.landM okF hJ Qf (F9 B rf Qa i st sn Qp)
        ⟨(XI fun _=>by rfl),⟨(Xm (by kernel_rfl)),⟨(Xm (by kernel_rfl)),⟨⟨trivial,Wk (rf.Qb.getD 0 La) (false)⟩,⟨⟨trivial,(by have t_:=Pm (Qa.getD 0 La) (0) (by with_reducible assumption) (by omega);rw[q3]at t_;exact t_)⟩,⟨⟨by omega,by omega,(Qu (z:=1) (fun _=>rfl) (by omega))⟩,⟨⟨trivial,Wk (rf.Qb.getD 0 La) (false)⟩,⟨⟨trivial,(by have t_:=Pm (Qa.getD 0 La) (0) (by with_reducible assumption) (by omega);rw[q3]at t_;exact t_)⟩,Sm⟩⟩⟩⟩⟩⟩⟩⟩ (by kernel_rfl) (by kernel_rfl))).cast (by rfl)
     ·exfalso
      (have ZW:=QC (QB hr).1;omega)
    ·exfalso
     (have ZW:=QC (QB hr).1;omega)
  ·intro i st gs ks sn gn kn UX h0 h1 hsn Zh Ku hg hkn hk ⟨Qp,Zr,Xo⟩;have ZW:=QC (QB hr).1;have hsl0:=Pk (rf:=rf);have hpq:0<=Qa.getD 0 La/\Qa.getD 0 La<=1000000000:=by have:=Z2 hr hp 0;show 0<=Qa.getD 0 0/\Qa.getD 0 0<=1000000000;omega
   have hpf:=(XM hp).1;have hpq:0<=Qa.getD 0 La/\Qa.getD 0 La<=1000000000:=by have:=Z2 hr hp 0;show 0<=Qa.getD 0 0/\Qa.getD 0 0<=1000000000;omega
   have hgl:(gs.length:Int)=i:=by rw[hg];exact Kn (by omega)
   have hkl:(ks.length:Int)=i:=by rw[hk];exact Kn (by omega)
   by_cases q0:(i:Int)<((↑rf.Qb.length:Int))
   ·have hp3:Q3 (lq B rf Qa i st gs ks sn gn kn Qp):=by
     exact⟨⟨by omega,by omega,(Qu (z:=1) (fun _=>rfl) (by omega))⟩,⟨⟨by omega,by omega,(Qu (z:=12) (fun _=>rfl) (by omega))⟩,⟨(Xh q0),trivial⟩⟩⟩
    cases q1:hasB (Qa.getD 0 La) i with
    |true=>
     exact((ih0 _ (by omega)).2.1 (i+1) (st) (gs++[Qg.Yk (rf.Qb.getD i.toNat La)]) (ks++[if true=true then Qg.VP (rf.Qb.getD i.toNat La)else Qg.VW (rf.Qb.getD i.toNat La)]) (sn) (gn+1) (kn+1) rfl (by omega) (by omega) (by with_reducible assumption) (by with_reducible assumption) (by(simp only[Lh,Li,Lk];omega)) (by(rw[hg];exact Zu (by omega))) (by(simp only[Lh,Li,Lk];omega)) (by(rw[hk,<-Zu (by omega)];exact congrArg (fun z=>_++[z]) (B3 (by assumption)).symm))
      (Xo.landM okF hJ Qf (F8 B rf Qa i st gs ks sn gn kn Qp)
      ⟨(XI fun _=>by rfl),⟨(XI fun _=>by rfl),⟨(XI fun _=>by rfl),⟨(QP (by omega) (by omega)),⟨⟨(by(rw[QT (z:=1) (fun _=>rfl)];first|omega|(simp;omega)|(simp_all;done))),(by unfold maxLen;omega),by omega,by first|exact Xv|exact Xl rfl⟩,⟨⟨(by(rw[QT (z:=1) (fun _=>rfl)];first|omega|(simp;omega)|(simp_all;done))),(by unfold maxLen;omega),by omega,by first|exact Xv|exact Xl rfl⟩,⟨⟨trivial,Wk (rf.Qb.getD i.toNat La) (true)⟩,⟨⟨trivial,(by have t_:=Pm (Qa.getD 0 La) (i) (by with_reducible assumption) (by omega);rw[q1]at t_;exact t_)⟩,⟨⟨by omega,by omega,(Qu (z:=1) (fun _=>rfl) (by omega))⟩,⟨⟨trivial,Wk (rf.Qb.getD i.toNat La) (true)⟩,⟨⟨trivial,(by have t_:=Pm (Qa.getD 0 La) (i) (by with_reducible assumption) (by omega);rw[q1]at t_;exact t_)⟩,hp3⟩⟩⟩⟩⟩⟩⟩⟩⟩⟩⟩ (by kernel_rfl) (by kernel_rfl))).cast (by rfl)
    |false=>
     exact((ih0 _ (by omega)).2.1 (i+1) (st) (gs++[Qg.Yk (rf.Qb.getD i.toNat La)]) (ks++[if false=true then Qg.VP (rf.Qb.getD i.toNat La)else Qg.VW (rf.Qb.getD i.toNat La)]) (sn) (gn+1) (kn+1) rfl (by omega) (by omega) (by with_reducible assumption) (by with_reducible assumption) (by(simp only[Lh,Li,Lk];omega)) (by(rw[hg];exact Zu (by omega))) (by(simp only[Lh,Li,Lk];omega)) (by(rw[hk,<-Zu (by omega)];exact congrArg (fun z=>_++[z]) (B4 (by assumption)).symm))
      (Xo.landM okF hJ Qf (F7 B rf Qa i st gs ks sn gn kn Qp)
      ⟨(XI fun _=>by rfl),⟨(XI fun _=>by rfl),⟨(XI fun _=>by rfl),⟨(QP (by omega) (by omega)),⟨⟨(by(rw[QT (z:=1) (fun _=>rfl)];first|omega|(simp;omega)|(simp_all;done))),(by unfold maxLen;omega),by omega,by first|exact Xv|exact Xl rfl⟩,⟨⟨(by(rw[QT (z:=1) (fun _=>rfl)];first|omega|(simp;omega)|(simp_all;done))),(by unfold maxLen;omega),by omega,by first|exact Xv|exact Xl rfl⟩,⟨⟨trivial,Wk (rf.Qb.getD i.toNat La) (false)⟩,⟨⟨trivial,(by have t_:=Pm (Qa.getD 0 La) (i) (by with_reducible assumption) (by omega);rw[q1]at t_;exact t_)⟩,⟨⟨by omega,by omega,(Qu (z:=1) (fun _=>rfl) (by omega))⟩,⟨⟨trivial,Wk (rf.Qb.getD i.toNat La) (false)⟩,⟨⟨trivial,(by have t_:=Pm (Qa.getD 0 La) (i) (by with_reducible assumption) (by omega);rw[q1]at t_;exact t_)⟩,hp3⟩⟩⟩⟩⟩⟩⟩⟩⟩⟩⟩ (by kernel_rfl) (by kernel_rfl))).cast (by rfl)
   ·have hge:gs=Pu rf:=by rw[hg,show i=rf.Qb.length by omega];exact sf (b:=true)
    have hke:ks=Pe rf (Qa.getD 0 0):=by rw[hk,show i=rf.Qb.length by omega];exact rY (b:=true)
    exact((ih0 _ (by omega)).2.2.2 (1) (st) ([{n:=gn,l:=gs}]) ([{n:=kn,l:=ks}]) (sn) (1) (1) rfl (by omega) (by omega) (by with_reducible assumption) (by with_reducible assumption) (by rfl) (by(rw[show gn=rf.Qb.length by omega,hge];rfl)) (by rfl) (by(rw[show kn=rf.Qb.length by omega,hke];rfl))
     (Xo.landM okF hJ Qf (F6 B rf Qa i st gs ks sn gn kn Qp)
     (by exact⟨(XI fun _=>by rfl),⟨(by exact(KD (by exact⟨(.own (Lg _)),trivial⟩))),⟨(Xg (fun x=>List.all_eq_true.1 (by rfl))),⟨(by exact(KD (by exact⟨(.own (Lg _)),trivial⟩))),⟨(Xg (fun x=>List.all_eq_true.1 (by rfl))),⟨(X7 (Int.not_lt.1 q0)),trivial⟩⟩⟩⟩⟩⟩) (by kernel_rfl) (by kernel_rfl))).cast (by rfl)
  ·intro s i st gs ks gr kr sn gn kn gm km UX s0 s1 h0 h1 hsn Zh hgm hgr hkm hkr Ku hg hkn hk ⟨Qp,Zr,Xo⟩;have ZW:=QC (QB hr).1;have hsl0:=Pk (rf:=rf);have hpf:=(XM hp).1;have hgl:(gs.length:Int)=i:=by rw[hg];exact Kn (by omega)
   have hkl:(ks.length:Int)=i:=by rw[hk];exact Kn (by omega)
   have hgrl:(gr.length:Int)=s:=by rw[hgr];exact JT (by omega)
   have hkrl:(kr.length:Int)=s:=by rw[hkr];exact JT (by omega)
   have hps:0<=Qa.getD s.toNat La/\Qa.getD s.toNat La<=1000000000:=by have:=Z2 hr hp s.toNat;show 0<=Qa.getD s.toNat 0/\Qa.getD s.toNat 0<=1000000000;omega
   by_cases q0:(i:Int)<((↑rf.Qb.length:Int))
   ·have hp4:Q3 (lp B rf Qa s i st gs ks gr kr sn gn kn gm km Qp):=by
     exact⟨⟨by omega,by omega,(Qu (z:=1) (fun _=>rfl) (by omega))⟩,⟨⟨by omega,by omega,(Qu (z:=12) (fun _=>rfl) (by omega))⟩,⟨(Xh q0),trivial⟩⟩⟩
    cases q1:hasB (Qa.getD s.toNat La) i with
    |true=>
     exact((ih0 _ (by omega)).2.2.1 (s) (i+1) (st) (gs++[Qg.Yk (rf.Qb.getD i.toNat La)]) (ks++[if true=true then Qg.VP (rf.Qb.getD i.toNat La)else Qg.VW (rf.Qb.getD i.toNat La)]) (gr) (kr) (sn) (gn+1) (kn+1) (gm) (km) rfl (by with_reducible assumption) (by with_reducible assumption) (by omega) (by omega) (by with_reducible assumption) (by with_reducible assumption) (by with_reducible assumption) (by with_reducible assumption) (by with_reducible assumption) (by with_reducible assumption) (by(simp only[Lh,Li,Lk];omega)) (by(rw[hg];exact Zu (by omega))) (by(simp only[Lh,Li,Lk];omega)) (by(rw[hk,<-Zu (by omega)];exact congrArg (fun z=>_++[z]) (B3 (by assumption)).symm))
      (Xo.landM okF hJ Qf (F5 B rf Qa s i st gs ks gr kr sn gn kn gm km Qp)
      ⟨(XI fun _=>by rfl),⟨(by exact(QM (Xb (by exact fun _=>rfl)) (Lg _))),⟨(by exact(QM (Xb (by exact fun _=>rfl)) (Lg _))),⟨(XI fun _=>by rfl),⟨(XI fun _=>by rfl),⟨(QP (by omega) (by omega)),⟨⟨(by(rw[QT (z:=1) (fun _=>rfl)];first|omega|(simp;omega)|(simp_all;done))),(by unfold maxLen;omega),by omega,by first|exact Xv|exact Xl rfl⟩,⟨⟨(by(rw[QT (z:=1) (fun _=>rfl)];first|omega|(simp;omega)|(simp_all;done))),(by unfold maxLen;omega),by omega,by first|exact Xv|exact Xl rfl⟩,⟨⟨trivial,Wk (rf.Qb.getD i.toNat La) (true)⟩,⟨⟨trivial,(by have t_:=Pm (Qa.getD s.toNat La) (i) (by with_reducible assumption) (by omega);rw[q1]at t_;exact t_)⟩,⟨⟨by omega,by omega,(Qu (z:=1) (fun _=>rfl) (by omega))⟩,⟨⟨trivial,Wk (rf.Qb.getD i.toNat La) (true)⟩,⟨⟨trivial,(by have t_:=Pm (Qa.getD s.toNat La) (i) (by with_reducible assumption) (by omega);rw[q1]at t_;exact t_)⟩,hp4⟩⟩⟩⟩⟩⟩⟩⟩⟩⟩⟩⟩⟩ (by kernel_rfl) (by kernel_rfl))).cast (by rfl)
    |false=>
     exact((ih0 _ (by omega)).2.2.1 (s) (i+1) (st) (gs++[Qg.Yk (rf.Qb.getD i.toNat La)]) (ks++[if false=true then Qg.VP (rf.Qb.getD i.toNat La)else Qg.VW (rf.Qb.getD i.toNat La)]) (gr) (kr) (sn) (gn+1) (kn+1) (gm) (km) rfl (by with_reducible assumption) (by with_reducible assumption) (by omega) (by omega) (by with_reducible assumption) (by with_reducible assumption) (by with_reducible assumption) (by with_reducible assumption) (by with_reducible assumption) (by with_reducible assumption) (by(simp only[Lh,Li,Lk];omega)) (by(rw[hg];exact Zu (by omega))) (by(simp only[Lh,Li,Lk];omega)) (by(rw[hk,<-Zu (by omega)];exact congrArg (fun z=>_++[z]) (B4 (by assumption)).symm))
      (Xo.landM okF hJ Qf (F3 B rf Qa s i st gs ks gr kr sn gn kn gm km Qp)
      ⟨(XI fun _=>by rfl),⟨(by exact(QM (Xb (by exact fun _=>rfl)) (Lg _))),⟨(by exact(QM (Xb (by exact fun _=>rfl)) (Lg _))),⟨(XI fun _=>by rfl),⟨(XI fun _=>by rfl),⟨(QP (by omega) (by omega)),⟨⟨(by(rw[QT (z:=1) (fun _=>rfl)];first|omega|(simp;omega)|(simp_all;done))),(by unfold maxLen;omega),by omega,by first|exact Xv|exact Xl rfl⟩,⟨⟨(by(rw[QT (z:=1) (fun _=>rfl)];first|omega|(simp;omega)|(simp_all;done))),(by unfold maxLen;omega),by omega,by first|exact Xv|exact Xl rfl⟩,⟨⟨trivial,Wk (rf.Qb.getD i.toNat La) (false)⟩,⟨⟨trivial,(by have t_:=Pm (Qa.getD s.toNat La) (i) (by with_reducible assumption) (by omega);rw[q1]at t_;exact t_)⟩,⟨⟨by omega,by omega,(Qu (z:=1) (fun _=>rfl) (by omega))⟩,⟨⟨trivial,Wk (rf.Qb.getD i.toNat La) (false)⟩,⟨⟨trivial,(by have t_:=Pm (Qa.getD s.toNat La) (i) (by with_reducible assumption) (by omega);rw[q1]at t_;exact t_)⟩,hp4⟩⟩⟩⟩⟩⟩⟩⟩⟩⟩⟩⟩⟩ (by kernel_rfl) (by kernel_rfl))).cast (by rfl)
   ·have hge:gs=Pu rf:=by rw[hg,show i=rf.Qb.length by omega];exact sf (b:=true)
    have hke:ks=Pe rf (Qa.getD s.toNat 0):=by rw[hk,show i=rf.Qb.length by omega];exact rY (b:=true)
    exact((ih0 _ (by omega)).2.2.2 (s+1) (st) (gr++[{n:=gn,l:=gs}]) (kr++[{n:=kn,l:=ks}]) (sn) (gm+1) (km+1) rfl (by omega) (by omega) (by with_reducible assumption) (by with_reducible assumption) (by(simp only[Lh,Li,Lk];omega)) (by(rw[Ue (by omega),LZ,<-hgr,show gn=rf.Qb.length by omega,hge];rfl)) (by(simp only[Lh,Li,Lk];omega)) (by(rw[Ue (by omega),LZ,<-hkr,show kn=rf.Qb.length by omega,hke];rfl))
     (Xo.landM okF hJ Qf (F2 B rf Qa s i st gs ks gr kr sn gn kn gm km Qp)
     (by exact⟨(XI fun _=>by rfl),⟨(by exact(Ye (QM (Xb (by exact fun _=>rfl)) (Lg _)) (by exact⟨(.own (Lg _)),trivial⟩))),⟨(Xg (fun x=>List.all_eq_true.1 (by rfl))),⟨(by exact(Ye (QM (Xb (by exact fun _=>rfl)) (Lg _)) (by exact⟨(.own (Lg _)),trivial⟩))),⟨(Xg (fun x=>List.all_eq_true.1 (by rfl))),⟨(QP (by omega) (by omega)),⟨⟨(by(rw[QT (z:=1) (fun _=>rfl)];first|omega|(simp;omega)|(simp_all;done))),(by unfold maxLen;omega),by omega,rfl⟩,⟨⟨(by(rw[QT (z:=1) (fun _=>rfl)];first|omega|(simp;omega)|(simp_all;done))),(by unfold maxLen;omega),by omega,rfl⟩,⟨(X7 (Int.not_lt.1 q0)),trivial⟩⟩⟩⟩⟩⟩⟩⟩⟩) (by kernel_rfl) (by kernel_rfl))).cast (by rfl)
  ·intro s st gr kr sn gm km UX s0 s1 hsn Zh hgm hgr hkm hkr ⟨Qp,Zr,Xo⟩;have ZW:=QC (QB hr).1;have hsl0:=Pk (rf:=rf);have hpf:=(XM hp).1;have hgrl:(gr.length:Int)=s:=by rw[hgr];exact JT (by omega)
   have hkrl:(kr.length:Int)=s:=by rw[hkr];exact JT (by omega)
   have hps:0<=Qa.getD s.toNat La/\Qa.getD s.toNat La<=1000000000:=by have:=Z2 hr hp s.toNat;show 0<=Qa.getD s.toNat 0/\Qa.getD s.toNat 0<=1000000000;omega
   by_cases q0:(s:Int)<rf.Qd
   ·have hp5:Q3 (tZ B rf Qa s st gr kr sn gm km Qp):=by
     exact⟨(Xh q0),trivial⟩
    by_cases q1:(0:Int)<((↑rf.Qb.length:Int))
    ·have hp6:Q3 (ll B rf Qa s st gr kr sn gm km Qp):=by
      exact⟨⟨by omega,by omega,(Qu (z:=1) (fun _=>rfl) (by omega))⟩,⟨⟨by omega,by omega,(Qu (z:=12) (fun _=>rfl) (by omega))⟩,⟨(Xh q1),hp5⟩⟩⟩
     cases q2:hasB (Qa.getD s.toNat La) 0 with
     |true=>
      exact((ih0 _ (by omega)).2.2.1 (s) (1) (st) ([Qg.Yk (rf.Qb.getD 0 La)]) ([if true=true then Qg.VP (rf.Qb.getD 0 La)else Qg.VW (rf.Qb.getD 0 La)]) (gr) (kr) (sn) (1) (1) (gm) (km) rfl (by with_reducible assumption) (by with_reducible assumption) (by omega) (by omega) (by with_reducible assumption) (by with_reducible assumption) (by with_reducible assumption) (by with_reducible assumption) (by with_reducible assumption) (by with_reducible assumption) (by rfl) (by rfl) (by rfl) (by(rw[JX];exact congrArg (fun z=>[z]) (B3 (k:=0) (by assumption)).symm))
       (Xo.landM okF hJ Qf (F1 B rf Qa s st gr kr sn gm km Qp)
       ⟨(XI fun _=>by rfl),⟨(by exact(QM (Xb (by exact fun _=>rfl)) (Lg _))),⟨(by exact(QM (Xb (by exact fun _=>rfl)) (Lg _))),⟨(Xm (by kernel_rfl)),⟨(Xm (by kernel_rfl)),⟨⟨trivial,Wk (rf.Qb.getD 0 La) (true)⟩,⟨⟨trivial,(by have t_:=Pm (Qa.getD s.toNat La) (0) (by with_reducible assumption) (by omega);rw[q2]at t_;exact t_)⟩,⟨⟨by omega,by omega,(Qu (z:=1) (fun _=>rfl) (by omega))⟩,⟨⟨trivial,Wk (rf.Qb.getD 0 La) (true)⟩,⟨⟨trivial,(by have t_:=Pm (Qa.getD s.toNat La) (0) (by with_reducible assumption) (by omega);rw[q2]at t_;exact t_)⟩,hp6⟩⟩⟩⟩⟩⟩⟩⟩⟩⟩ (by kernel_rfl) (by kernel_rfl))).cast (by rfl)
     |false=>
      exact((ih0 _ (by omega)).2.2.1 (s) (1) (st) ([Qg.Yk (rf.Qb.getD 0 La)]) ([if false=true then Qg.VP (rf.Qb.getD 0 La)else Qg.VW (rf.Qb.getD 0 La)]) (gr) (kr) (sn) (1) (1) (gm) (km) rfl (by with_reducible assumption) (by with_reducible assumption) (by omega) (by omega) (by with_reducible assumption) (by with_reducible assumption) (by with_reducible assumption) (by with_reducible assumption) (by with_reducible assumption) (by with_reducible assumption) (by rfl) (by rfl) (by rfl) (by(rw[JX];exact congrArg (fun z=>[z]) (B4 (k:=0) (by assumption)).symm))
       (Xo.landM okF hJ Qf (Cx B rf Qa s st gr kr sn gm km Qp)
       ⟨(XI fun _=>by rfl),⟨(by exact(QM (Xb (by exact fun _=>rfl)) (Lg _))),⟨(by exact(QM (Xb (by exact fun _=>rfl)) (Lg _))),⟨(Xm (by kernel_rfl)),⟨(Xm (by kernel_rfl)),⟨⟨trivial,Wk (rf.Qb.getD 0 La) (false)⟩,⟨⟨trivial,(by have t_:=Pm (Qa.getD s.toNat La) (0) (by with_reducible assumption) (by omega);rw[q2]at t_;exact t_)⟩,⟨⟨by omega,by omega,(Qu (z:=1) (fun _=>rfl) (by omega))⟩,⟨⟨trivial,Wk (rf.Qb.getD 0 La) (false)⟩,⟨⟨trivial,(by have t_:=Pm (Qa.getD s.toNat La) (0) (by with_reducible assumption) (by omega);rw[q2]at t_;exact t_)⟩,hp6⟩⟩⟩⟩⟩⟩⟩⟩⟩⟩ (by kernel_rfl) (by kernel_rfl))).cast (by rfl)
    ·exfalso
     (have ZW:=QC (QB hr).1;omega)
   ·exact(GoE.endsT okF hJ Qf Xo (Cw B rf Qa s st gr kr sn gm km Qp)
     ⟨(Xg (fun x=>List.all_eq_true.1 (by rfl))),⟨(ZE (Xb (by exact fun _=>rfl)) (Lg _)),⟨(ZE (Xb (by exact fun _=>rfl)) (Lg _)),⟨(X7 (Int.not_lt.1 q0)),trivial⟩⟩⟩⟩).cast (by(rw[show QH gm (Qe Xr gr)=QH (WO rf).length (Qe Zi (WO rf))from qH (g:=fun _=>Pu rf) (fun _=>Mx) hgr hgm (by omega),show QH km (Qe Xr kr)=QH (Vx rf Qa).length (Qe Zi (Vx rf Qa))from qH (g:=fun z=>Pe rf (Qa.getD z.toNat 0)) (fun _=>Ig) hkr hkm (by omega),hsn,Zh]))
set_option maxHeartbeats 4000000 in
theorem IU(rf:Qo)(Qa:List Int)(hr:XG rf=true)(hp:XZ rf Qa=true){B:Lo}(hJ:∀w,B.has w->J0 w):EndsT YP B (Qx YP 34 104 (([.agg (Q1 rf).toArray,Zk Qa,.bool true]).map (Q7 0 4))) (bF rf Qa):=by
 have ZW:=QC (QB hr).1;have hsl0:=Pk (rf:=rf);have hcc:0<=(rf.Qb.getD 0 La).count/\(rf.Qb.getD 0 La).count<=1000000:=(Wl ((QB hr).2 0 (by omega) (by omega)).1).1;by_cases q0:(0:Int)<((↑rf.Qb.length:Int))
 ·exact((FC rf Qa hr hp hJ _).1 (1) ([Wg rf.Qc (Qg.count (rf.Qb.getD 0 La))]) (1) rfl (by omega) (by omega) (by rfl) (by rfl)
   (GoE.start.landM okF hJ Qf (Cv B rf Qa)
   ⟨(Xm (by kernel_rfl)),⟨⟨trivial,Fw (rf) (Qg.count (rf.Qb.getD 0 La)) (by omega) (by omega)⟩,⟨⟨by omega,by omega,(Qu (z:=12) (fun _=>rfl) (by omega))⟩,⟨(Xh q0),trivial⟩⟩⟩⟩ (by kernel_rfl) (by kernel_rfl))).cast (by rfl)
 ·exfalso
  (have ZW:=QC (QB hr).1;omega)
theorem Ox(rf:Qo)(Qa:List Int)(hr:XG rf=true)(hp:XZ rf Qa=true):Qr YP J0 34 #[.agg (Q1 rf).toArray,Zk Qa,.bool true] (bF rf Qa):=
 Xi (ts:=[.agg (Q1 rf).toArray,Zk Qa,.bool true]) Za (c0:=Qx YP 34 104 (([.agg (Q1 rf).toArray,Zk Qa,.bool true]).map (Q7 0 4))) (by kernel_rfl) (by kernel_rfl) fun B hJ=>IU rf Qa hr hp hJ
end
end Go.Proofs.Ytncjjangllkokaa

