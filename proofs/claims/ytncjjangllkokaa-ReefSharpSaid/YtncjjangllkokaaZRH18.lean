/- Reef: the truths with as few QX as can be, and with as many. -/
import Derived.Test.YtncjjangllkokaaZRH17
set_option linter.all false
open List renaming length->Lc,length_append->Li,length_cons->Lk,length_nil->Lt
open Array renaming extract->Lh
open Nat renaming strongRecOn->Lz
open List.Mem renaming head->Lj
open Int renaming le_refl->LR
open Inhabited renaming default->La
namespace Go.Proofs.Ytncjjangllkokaa
open Go Go.CE Go.RowKit
noncomputable section
set_option maxRecDepth 100000
def aC(f:Int->Int)(i:Int):List Int:=(Yq 0 i).map f
theorem Ko{f:Int->Int}{i:Int}(h:0<=i):((aC f i).length:Int)=i:=by simp[aC,Yq];omega
theorem Pa{f:Int->Int}:aC f 1=[f 0]:=rfl
theorem Zv{f:Int->Int}{i:Int}(h:0<=i):aC f i++[f i]=aC f (i+1):=by unfold aC;rw[PM h,List.map_append];rfl
def sV(b:Bool)(rf:Ql)(k:Int):Int:=bif b then Zm rf.Qc (dh rf.Qb k).count else(dh rf.Qb k).count
def gV(b:Bool)(rf:Ql)(k:Int):Int:=bif b then(dh rf.Qb k).Yt else(dh rf.Qb k).Ys
def kV(b:Bool)(rf:Ql)(p k:Int):Int:=bif b then(UW p k (dh rf.Qb k)).lo else(UW p k (dh rf.Qb k)).hi
theorem sH{b:Bool}{rf:Ql}:aC (sV b rf) rf.Qb.length=bif b then Zs rf else Zr rf:=by
 cases b
 ·show _=(rf.Qb.map (XB rf.Qc)).map av;rw[List.map_map,hQ];rfl
 ·show _=(rf.Qb.map (XB rf.Qc)).map a6;rw[List.map_map,hQ];rfl
theorem um{b:Bool}{rf:Ql}:aC (gV b rf) rf.Qb.length=bif b then Pn rf else Pm rf:=by
 cases b
 ·show _=(rf.Qb.map XI).map av;rw[List.map_map,hQ];rfl
 ·show _=(rf.Qb.map XI).map a6;rw[List.map_map,hQ];rfl
theorem ug{b:Bool}{rf:Ql}{p:Int}:aC (kV b rf p) rf.Qb.length=bif b then Pf rf p else Pg rf p:=by
 cases b
 ·show _=(XE rf.Qb p).map a6;unfold XE Ka;rw[List.map_map];rfl
 ·show _=(XE rf.Qb p).map av;unfold XE Ka;rw[List.map_map];rfl
theorem DT{rf:Ql}{p k:Int}(h:hasB p k=true):kV false rf p k=(dh rf.Qb k).VW:=by unfold kV UW;rw[h];rfl
theorem DU{rf:Ql}{p k:Int}(h:hasB p k=false):kV false rf p k=(dh rf.Qb k).Ua:=by unfold kV UW;rw[h];rfl
theorem DR{rf:Ql}{p k:Int}(h:hasB p k=true):kV true rf p k=(dh rf.Qb k).VV:=by unfold kV UW;rw[h];rfl
theorem DS{rf:Ql}{p k:Int}(h:hasB p k=false):kV true rf p k=(dh rf.Qb k).VZ:=by unfold kV UW;rw[h];rfl
theorem sJ{rf:Ql}{g:Int->List Int}{rs:List RW}{s:Int}{m:Nat}(hl:∀k,(g k).length=rf.Qb.length)(h:rs=(Yq 0 s).map fun z=>⟨rf.Qb.length,g z⟩)(hm:m=rs.length)(hs:s=rf.Qd):QC m (Qe X7 rs)=QC (Ka rf.Qd g).length (Qe XA (Ka rf.Qd g)):=by
 subst hs;have e:Qe X7 rs=Qe XA (Ka rf.Qd g):=by rw[h];exact sI _ _ _ fun k _=>hl k
 have e2:m=(Ka rf.Qd g).length:=by rw[hm,h,Ka,List.length_map,List.length_map]
 rw[e,e2]
theorem NX{rf:Ql}:(Pm rf).length=rf.Qb.length:=by simp[Pm]
theorem NY{rf:Ql}:(Pn rf).length=rf.Qb.length:=by simp[Pn]
theorem Nh{rf:Ql}{p:Int}:(Pf rf p).length=rf.Qb.length:=by simp[Pf,WS]
theorem Ni{rf:Ql}{p:Int}:(Pg rf p).length=rf.Qb.length:=by simp[Pg,WS]
theorem fA{rf:Ql}:(Zr rf).length=rf.Qb.length:=by simp[Zr]
theorem fB{rf:Ql}:(Zs rf).length=rf.Qb.length:=by simp[Zs]
theorem JW{f:Int->RW}{s:Int}(h:0<=s):(((Yq 0 s).map f).length:Int)=s:=by simp[Yq];omega
section
variable (x_:Qg)(B:Lo)(c0:CF)(rf:Ql)(Qa:List Int)(s i:Int)(st gs ks:List Int)(gr kr:List RW)(sn gn kn gm km:Nat)(Qm:Nat->Value)
abbrev c9:Value:=.agg #[XH (Zr rf),QC (Z3 rf).length (Qe XA (Z3 rf)),QC (ZQ rf Qa).length (Qe XA (ZQ rf Qa))]
def ZM:Array Value:=#[YI x_.count,YI x_.room,YI x_.Ys,YI x_.Yt,YI x_.Xh,YI x_.Zq,YI x_.VZ,YI x_.Ua,YI x_.VV,YI x_.VW,YI x_.goal,YI x_.VF]
def SG:Array Value:=#[YI (if false=true then x_.VV else x_.VZ),YI (if false=true then x_.VW else x_.Ua)]
def SF:Array Value:=#[YI (if true=true then x_.VV else x_.VZ),YI (if true=true then x_.VW else x_.Ua)]
def SC:Array Value:=(Qe Qi rf.Qb)
def fT:Array Value:=#[YI (Qa.getD 0 La)]
def SD:=(rf.Qb.getD 0 La)
def Rb:=(SD rf)
def Ke:=(Rb rf)
def fV:Array Value:=#[YI (Qg.Ys (Rb rf))]
def fU:Array Value:=(Qe Q5 [Qg.Ys (Rb rf)])
def w6:Array Value:=#[YI (if false=true then Qg.VW (Rb rf)else Qg.Ua (Rb rf))]
def w5:Array Value:=#[YI (if true=true then Qg.VW (Rb rf)else Qg.Ua (Rb rf))]
def wz:Array Value:=(Qe Q5 [if false=true then Qg.VW (SD rf)else Qg.Ua (SD rf)])
def wy:Array Value:=(Qe Q5 [if true=true then Qg.VW (SD rf)else Qg.Ua (SD rf)])
def c8:Array Value:=(Qe Q5 [Qg.Ys (Ke rf)])
def r7:Array Value:=(Qe Q5 [if false=true then Qg.VW (Ke rf)else Qg.Ua (Ke rf)])
def r6:Array Value:=(Qe Q5 [if true=true then Qg.VW (Ke rf)else Qg.Ua (Ke rf)])
def r5:Array Value:=#[.agg (ZM (rf.Qb.getD 0 La)),.bool false]
def r4:Array Value:=#[.agg (ZM (rf.Qb.getD 0 La)),.bool true]
def SI(rf:Ql)(Qa:List Int)(i:Int)(st:List Int)(sn:Nat):List Value:=[Qw 1 (QC Qa.length (Qe Q5 Qa)),.bool false,pA 2 0,pA 3 0,pA 4 0,YI i]
def Rd(Qa:List Int)(i:Int)(st:List Int)(sn:Nat):List Obj:=[Obj.cells #[Qw 1 (QC rf.Qb.length (Qe Qi rf.Qb)),YI rf.Qc,YI rf.Qd] 24,Obj.cells #[.slice none 0 0,.slice none 0 0,.slice none 0 0] 42,.cells #[.slice (some ⟨5,0,none⟩) sn 1,.slice none 0 0,.slice none 0 0] 42 (0,0),.cells (Qe Q5 st) 3 (0,0)]
def SK:List Item:=([.code [1,1,0,1,0,0],.inLoop [1,1,0,1,0,0],.inBlock 0,.code [1,1,1]]).map (it (QG YP 34))
def HR:Prop:=∃dJ:Nat->Value,(∀t,Xi (dJ t))/\GoE YP B c0 XW 1 (QA 34 104 (([1,2,3,6,7,8]:List Nat).zip (SI rf Qa i st sn)) dJ SK) (Q9 (Rd rf Qa i st sn)) (2+(Rd rf Qa i st sn).length) []
def Jy(rf:Ql)(Qa:List Int)(i:Int)(st gs ks:List Int)(sn gn kn:Nat):List Value:=[Qw 1 (QC Qa.length (Qe Q5 Qa)),.bool false,pA 2 0,pA 3 0,pA 4 0,YI 0,.slice (some ⟨6,0,none⟩) gn 1,.slice (some ⟨7,0,none⟩) kn 1,YI i]
def Yz(Qa:List Int)(i:Int)(st gs ks:List Int)(sn gn kn:Nat):List Obj:=[Obj.cells #[Qw 1 (QC rf.Qb.length (Qe Qi rf.Qb)),YI rf.Qc,YI rf.Qd] 24,Obj.cells #[.slice none 0 0,.slice none 0 0,.slice none 0 0] 42,.cells #[.slice (some ⟨5,0,none⟩) sn 1,.slice none 0 0,.slice none 0 0] 42 (0,0),.cells (Qe Q5 st) 3 (0,0),.cells (Qe Q5 gs) 3 (0,0),.cells (Qe Q5 ks) 3 (0,0)]
def J1:List Item:=([.code [1,1,1,0,1,0,0,1,0,0,1,0,1,0,0],.inLoop [1,1,1,0,1,0,0,1,0,0,1,0,1,0,0],.inBlock 4,.code [1,1,1,0,1,0,0,1,0,0,1,1],.inBlock 3,.code [1,1,1,0,1,0,0,1,1],.inLoop [1,1,1,0,1,0,0],.inBlock 2,.code [1,1,1,1]]).map (it (QG YP 34))
def HQ:Prop:=∃dJ:Nat->Value,(∀t,Xi (dJ t))/\GoE YP B c0 XW 1 (QA 34 104 (([1,2,3,6,7,10,11,12,13]:List Nat).zip (Jy rf Qa i st gs ks sn gn kn)) dJ J1) (Q9 (Yz rf Qa i st gs ks sn gn kn)) (2+(Yz rf Qa i st gs ks sn gn kn).length) []
def Jx(rf:Ql)(Qa:List Int)(s i:Int)(st gs ks:List Int)(gr kr:List RW)(sn gn kn gm km:Nat):List Value:=[Qw 1 (QC Qa.length (Qe Q5 Qa)),.bool false,pA 2 0,pA 3 0,pA 4 0,YI s,.slice (some ⟨8,0,none⟩) gn 1,.slice (some ⟨9,0,none⟩) kn 1,YI i]
def Yy(Qa:List Int)(s i:Int)(st gs ks:List Int)(gr kr:List RW)(sn gn kn gm km:Nat):List Obj:=[Obj.cells #[Qw 1 (QC rf.Qb.length (Qe Qi rf.Qb)),YI rf.Qc,YI rf.Qd] 24,Obj.cells #[.slice none 0 0,.slice none 0 0,.slice none 0 0] 42,.cells #[.slice (some ⟨5,0,none⟩) sn 1,.slice (some ⟨6,0,none⟩) gm 1,.slice (some ⟨7,0,none⟩) km 1] 42 (0,0),.cells (Qe Q5 st) 3 (0,0),.cells (Qe (pushE 1 X7) gr) 25 (0,0),.cells (Qe (pushE 1 X7) kr) 25 (0,0),.cells (Qe Q5 gs) 3 (0,0),.cells (Qe Q5 ks) 3 (0,0)]
def Jz:List Item:=([.code [1,1,1,0,1,0,0,1,0,0,1,0,1,0,0],.inLoop [1,1,1,0,1,0,0,1,0,0,1,0,1,0,0],.inBlock 4,.code [1,1,1,0,1,0,0,1,0,0,1,1],.inBlock 3,.code [1,1,1,0,1,0,0,1,1],.inLoop [1,1,1,0,1,0,0],.inBlock 2,.code [1,1,1,1]]).map (it (QG YP 34))
def HP:Prop:=∃dJ:Nat->Value,(∀t,Xi (dJ t))/\GoE YP B c0 XW 1 (QA 34 104 (([1,2,3,6,7,10,11,12,13]:List Nat).zip (Jx rf Qa s i st gs ks gr kr sn gn kn gm km)) dJ Jz) (Q9 (Yy rf Qa s i st gs ks gr kr sn gn kn gm km)) (2+(Yy rf Qa s i st gs ks gr kr sn gn kn gm km).length) []
def SH(rf:Ql)(Qa:List Int)(s:Int)(st:List Int)(gr kr:List RW)(sn gm km:Nat):List Value:=[Qw 1 (QC Qa.length (Qe Q5 Qa)),.bool false,pA 2 0,pA 3 0,pA 4 0,YI s]
def Rc(Qa:List Int)(s:Int)(st:List Int)(gr kr:List RW)(sn gm km:Nat):List Obj:=[Obj.cells #[Qw 1 (QC rf.Qb.length (Qe Qi rf.Qb)),YI rf.Qc,YI rf.Qd] 24,Obj.cells #[.slice none 0 0,.slice none 0 0,.slice none 0 0] 42,.cells #[.slice (some ⟨5,0,none⟩) sn 1,.slice (some ⟨6,0,none⟩) gm 1,.slice (some ⟨7,0,none⟩) km 1] 42 (0,0),.cells (Qe Q5 st) 3 (0,0),.cells (Qe (pushE 1 X7) gr) 25 (0,0),.cells (Qe (pushE 1 X7) kr) 25 (0,0)]
def SJ:List Item:=([.code [1,1,1,0,1,0,0],.inLoop [1,1,1,0,1,0,0],.inBlock 2,.code [1,1,1,1]]).map (it (QG YP 34))
def HO:Prop:=∃dJ:Nat->Value,(∀t,Xi (dJ t))/\GoE YP B c0 XW 1 (QA 34 104 (([1,2,3,6,7,10]:List Nat).zip (SH rf Qa s st gr kr sn gm km)) dJ SJ) (Q9 (Rc rf Qa s st gr kr sn gm km)) (2+(Rc rf Qa s st gr kr sn gm km).length) []
theorem HM(B:Lo)(rf:Ql)(Qa:List Int)(i:Int)(st:List Int)(sn:Nat)(Qm:Nat->Value):let e:=Rd rf Qa i st sn;let d:=rf.Qb;let a:=d.getD i.toNat La;let c:=st++[a.count];let b:=Qe Q5 c;landM (Qo YP (Q1 YP) J0 B 18 1 (QA 34 104 (([1,2,3,6,7,8]:List Nat).zip (SI rf Qa i st sn)) Qm SK) (Q9 e) (2+e.length)
 [(4,Z5),(8,Qh.tidx i.toNat (ZM a)),(17,Qh.XD (Hint.app b)),(21,Wy (i+1))] 0 [] []) [1,2,3,6,7,8] [(2,KS.auto),(3,KS.auto),(4,KS.auto),(7,KS.cells [] b)] []=some ⟨34,104,SK,[],.run,none,SI rf Qa (i+1) c (sn+1),Rd rf Qa (i+1) c (sn+1),
 [Q0 1 [] b b,wq (i+1)=i+1,Rv (Qe Q5 st) #[YI a.count] b sn (0+1) 8,Kl i d.length (SC rf) Try.t54.size (ZM a),XC i (↑d.length:Int)=true]⟩:=by intro e d a c b;kernel_rfl
def wD(B:Lo)(rf:Ql)(Qa:List Int)(i:Int)(st:List Int)(sn:Nat)(Qm:Nat->Value):List Prop:=[XC i (↑rf.Qb.length:Int)=false]++([]:List Prop)
def wA(i:Int)(st:List Int)(sn:Nat)(Qm:Nat->Value):Q7:=[(4,ZW),(9,Z5),(17,Z5),(21,Qh.tidx 0 (ZM (rf.Qb.getD 0 La))),(31,Qh.tidx 0 (fT Qa))]
def wC:List Prop:=[XC 0 rf.Qd=true]++wD B rf Qa i st sn Qm
def mZ:List Prop:=let a:=rf.Qb;[0=(↑0:Int)/\0<Lc Qa/\Lh (Qe Q5 Qa) (0*TypeInfo.size Try.t3) (0*TypeInfo.size Try.t3+TypeInfo.size Try.t3)=(fT Qa),0=(↑0:Int)/\0<Lc a/\Lh (SC rf) (0*TypeInfo.size Try.t54) (0*TypeInfo.size Try.t54+TypeInfo.size Try.t54)=(ZM (a.getD 0 La)),XC 0 (↑a.length:Int)=true]++wC B rf Qa i st sn Qm
theorem HL(B:Lo)(rf:Ql)(Qa:List Int)(i:Int)(st:List Int)(sn:Nat)(Qm:Nat->Value):let d:=Rd rf Qa i st sn;let c:=Qe Q5 st;let b:=Ke rf;let a:=[if true=true then b.VW else b.Ua];landM (Qo YP (Q1 YP) J0 B 44 1 (QA 34 104 (([1,2,3,6,7,8]:List Nat).zip (SI rf Qa i st sn)) Qm SK) (Q9 d) (2+d.length)
 (wA rf Qa i st sn Qm++[(34,Qh.pure (.bool true) []),(35,Qh.pure (.agg (SF b)) [])]) 0 [] []) [1,2,3,6,7,10,11,12,13] [(2,KS.auto),(3,KS.auto),(4,KS.auto),(5,KS.cells [] c),(8,KS.cells [] (c8 rf)),(10,KS.cells [] (r6 rf))] []=some ⟨34,104,J1,[],.run,none,Jy rf Qa (1) (st) ([b.Ys]) a (sn) (1) (1),Yz rf Qa (1) (st) ([b.Ys]) a (sn) (1) (1),
 [Q0 1 [] c c,Q0 1 [] ((fV rf)) (fU rf),Q0 1 [] ((w5 rf)) (wy rf),Qr []/\Qn YP J0 61 (r4 rf) (.agg (SF (rf.Qb.getD 0 La))),Qr []/\Qn YP J0 47 #[YI (Qa.getD 0 La),YI 0] (.bool true)]++mZ B rf Qa i st sn Qm⟩:=by intro d c b a;kernel_rfl
theorem HK(B:Lo)(rf:Ql)(Qa:List Int)(i:Int)(st:List Int)(sn:Nat)(Qm:Nat->Value):let d:=Rd rf Qa i st sn;let c:=Qe Q5 st;let b:=Ke rf;let a:=[if false=true then b.VW else b.Ua];landM (Qo YP (Q1 YP) J0 B 44 1 (QA 34 104 (([1,2,3,6,7,8]:List Nat).zip (SI rf Qa i st sn)) Qm SK) (Q9 d) (2+d.length)
 (wA rf Qa i st sn Qm++[(34,Qh.pure (.bool false) []),(35,Qh.pure (.agg (SG b)) [])]) 0 [] []) [1,2,3,6,7,10,11,12,13] [(2,KS.auto),(3,KS.auto),(4,KS.auto),(5,KS.cells [] c),(8,KS.cells [] (c8 rf)),(10,KS.cells [] (r7 rf))] []=some ⟨34,104,J1,[],.run,none,Jy rf Qa (1) (st) ([b.Ys]) a (sn) (1) (1),Yz rf Qa (1) (st) ([b.Ys]) a (sn) (1) (1),
 [Q0 1 [] c c,Q0 1 [] ((fV rf)) (fU rf),Q0 1 [] ((w6 rf)) (wz rf),Qr []/\Qn YP J0 61 (r5 rf) (.agg (SG (rf.Qb.getD 0 La))),Qr []/\Qn YP J0 47 #[YI (Qa.getD 0 La),YI 0] (.bool false)]++mZ B rf Qa i st sn Qm⟩:=by intro d c b a;kernel_rfl
def mY(B:Lo)(rf:Ql)(Qa:List Int)(i:Int)(st gs ks:List Int)(sn gn kn:Nat)(Qm:Nat->Value):List Prop:=let a:=rf.Qb;[0=(↑0:Int)/\0<Lc Qa/\Lh (Qe Q5 Qa) (0*TypeInfo.size Try.t3) (0*TypeInfo.size Try.t3+TypeInfo.size Try.t3)=(fT Qa),Kl i a.length (SC rf) Try.t54.size (ZM (a.getD i.toNat La)),XC i (↑a.length:Int)=true]++([]:List Prop)
def w9(st gs ks:List Int)(sn gn kn:Nat)(Qm:Nat->Value):Q7:=[(4,Z5),(8,Qh.tidx i.toNat (ZM (rf.Qb.getD i.toNat La))),(18,Qh.tidx 0 (fT Qa))]
theorem HJ(B:Lo)(rf:Ql)(Qa:List Int)(i:Int)(st gs ks:List Int)(sn gn kn:Nat)(Qm:Nat->Value):let g:=Qe Q5 st;let f:=Yz rf Qa i st gs ks sn gn kn;let a:=rf.Qb.getD i.toNat La;let h:=Value.agg (SF a);let e:=gs++[a.Ys];let c:=Qe Q5 e;let b:=ks++[if true=true then a.VW else a.Ua];let d:=Qe Q5 b;landM (Qo YP (Q1 YP) J0 B 20 1 (QA 34 104 (([1,2,3,6,7,10,11,12,13]:List Nat).zip (Jy rf Qa i st gs ks sn gn kn)) Qm J1) (Q9 f) (2+f.length)
 (w9 rf Qa i st gs ks sn gn kn Qm++[(21,Qh.pure (.bool true) []),(22,Qh.pure h []),(30,Qh.XD (Hint.app c)),(34,Qh.XD (Hint.app d)),(38,Wy (i+1))]) 0 [] []) [1,2,3,6,7,10,11,12,13] [(2,KS.auto),(3,KS.auto),(4,KS.auto),(5,KS.cells [] g),(10,KS.cells [] c),(12,KS.cells [] d)] []=some ⟨34,104,J1,[],.run,none,Jy rf Qa (i+1) (st) e b (sn) (gn+1) (kn+1),Yz rf Qa (i+1) (st) e b (sn) (gn+1) (kn+1),
 [Q0 1 [] g g,Q0 1 [] c c,Q0 1 [] d d,wq (i+1)=i+1,Rv (Qe Q5 ks) #[YI (if true=true then a.VW else a.Ua)] d kn (0+1) 8,Rv (Qe Q5 gs) #[YI a.Ys] c gn (0+1) 8,Qr []/\Qn YP J0 61 #[.agg (ZM a),.bool true] h,Qr []/\Qn YP J0 47 #[YI (Qa.getD 0 La),YI i] (.bool true)]++mY B rf Qa i st gs ks sn gn kn Qm⟩:=by intro g f a h e c b d;kernel_rfl
theorem HI(B:Lo)(rf:Ql)(Qa:List Int)(i:Int)(st gs ks:List Int)(sn gn kn:Nat)(Qm:Nat->Value):let g:=Qe Q5 st;let f:=Yz rf Qa i st gs ks sn gn kn;let a:=rf.Qb.getD i.toNat La;let h:=Value.agg (SG a);let e:=gs++[a.Ys];let c:=Qe Q5 e;let b:=ks++[if false=true then a.VW else a.Ua];let d:=Qe Q5 b;landM (Qo YP (Q1 YP) J0 B 20 1 (QA 34 104 (([1,2,3,6,7,10,11,12,13]:List Nat).zip (Jy rf Qa i st gs ks sn gn kn)) Qm J1) (Q9 f) (2+f.length)
 (w9 rf Qa i st gs ks sn gn kn Qm++[(21,Qh.pure (.bool false) []),(22,Qh.pure h []),(30,Qh.XD (Hint.app c)),(34,Qh.XD (Hint.app d)),(38,Wy (i+1))]) 0 [] []) [1,2,3,6,7,10,11,12,13] [(2,KS.auto),(3,KS.auto),(4,KS.auto),(5,KS.cells [] g),(10,KS.cells [] c),(12,KS.cells [] d)] []=some ⟨34,104,J1,[],.run,none,Jy rf Qa (i+1) (st) e b (sn) (gn+1) (kn+1),Yz rf Qa (i+1) (st) e b (sn) (gn+1) (kn+1),
 [Q0 1 [] g g,Q0 1 [] c c,Q0 1 [] d d,wq (i+1)=i+1,Rv (Qe Q5 ks) #[YI (if false=true then a.VW else a.Ua)] d kn (0+1) 8,Rv (Qe Q5 gs) #[YI a.Ys] c gn (0+1) 8,Qr []/\Qn YP J0 61 #[.agg (ZM a),.bool false] h,Qr []/\Qn YP J0 47 #[YI (Qa.getD 0 La),YI i] (.bool false)]++mY B rf Qa i st gs ks sn gn kn Qm⟩:=by intro g f a h e c b d;kernel_rfl
theorem HH(B:Lo)(rf:Ql)(Qa:List Int)(i:Int)(st gs ks:List Int)(sn gn kn:Nat)(Qm:Nat->Value):let f:=[{n:=kn,l:=ks}];let e:=[{n:=gn,l:=gs}];let d:=Qe Q5 st;let c:=Yz rf Qa i st gs ks sn gn kn;let b:=Qe (pushE 1 X7) [{n:=kn,l:=ks}];let a:=Qe (pushE 1 X7) [{n:=gn,l:=gs}];landM (Qo YP (Q1 YP) J0 B 9 1 (QA 34 104 (([1,2,3,6,7,10,11,12,13]:List Nat).zip (Jy rf Qa i st gs ks sn gn kn)) Qm J1) (Q9 c) (2+c.length)
 [(4,ZW)] 0 [] []) [1,2,3,6,7,10] [(2,KS.auto),(3,KS.auto),(4,KS.auto),(5,KS.cells [] d),(9,KS.rows [] [6] [] a),(11,KS.rows [] [7] [] b)] [{k:=6,rs:=[],cs:=Qe Q5 gs},{k:=7,rs:=[],cs:=Qe Q5 ks}]=some ⟨34,104,SJ,[],.run,none,SH rf Qa (1) (st) e f (sn) (1) (1),Rc rf Qa (1) (st) e f (sn) (1) (1),
 [Q0 1 [] d d,Xj 1 [] [(6,Fz.cs {k:=6,rs:=[],cs:=Qe Q5 gs})] [] #[.slice (some {block:=6,off:=0}) gn 1] a,X8 (Fz.rs {k:=6,rs:=[],cs:=Qe Q5 gs}) (Qe Q5 gs) (Fz.cs {k:=6,rs:=[],cs:=Qe Q5 gs}),Xj 1 [] [(7,Fz.cs {k:=7,rs:=[],cs:=Qe Q5 ks})] [] #[.slice (some {block:=7,off:=0}) kn 1] b,X8 (Fz.rs {k:=7,rs:=[],cs:=Qe Q5 ks}) (Qe Q5 ks) (Fz.cs {k:=7,rs:=[],cs:=Qe Q5 ks}),XC i (↑rf.Qb.length:Int)=false]⟩:=by intro f e d c b a;kernel_rfl
def mX(B:Lo)(rf:Ql)(Qa:List Int)(s i:Int)(st gs ks:List Int)(gr kr:List RW)(sn gn kn gm km:Nat)(Qm:Nat->Value):List Prop:=let a:=rf.Qb;[Kl s Qa.length (Qe Q5 Qa) Try.t3.size #[YI (Qa.getD s.toNat La)],Kl i a.length (SC rf) Try.t54.size (ZM (a.getD i.toNat La)),XC i (↑a.length:Int)=true]++([]:List Prop)
def w8(st gs ks:List Int)(gr kr:List RW)(sn gn kn gm km:Nat)(Qm:Nat->Value):Q7:=[(4,Z5),(8,Qh.tidx i.toNat (ZM (rf.Qb.getD i.toNat La))),(18,Qh.tidx s.toNat #[YI (Qa.getD s.toNat La)])]
theorem HG(B:Lo)(rf:Ql)(Qa:List Int)(s i:Int)(st gs ks:List Int)(gr kr:List RW)(sn gn kn gm km:Nat)(Qm:Nat->Value):let h:=Qe Q5 st;let e:=Yy rf Qa s i st gs ks gr kr sn gn kn gm km;let d:=pushE 1 X7;let a:=rf.Qb.getD i.toNat La;let j:=Value.agg (SF a);let g:=gs++[a.Ys];let c:=Qe Q5 g;let b:=ks++[if true=true then a.VW else a.Ua];let f:=Qe Q5 b;landM (Qo YP (Q1 YP) J0 B 20 1 (QA 34 104 (([1,2,3,6,7,10,11,12,13]:List Nat).zip (Jx rf Qa s i st gs ks gr kr sn gn kn gm km)) Qm Jz) (Q9 e) (2+e.length)
 (w8 rf Qa s i st gs ks gr kr sn gn kn gm km Qm++[(21,Qh.pure (.bool true) []),(22,Qh.pure j []),(30,Qh.XD (Hint.app c)),(34,Qh.XD (Hint.app f)),(38,Wy (i+1))]) 0 [] []) [1,2,3,6,7,10,11,12,13] [(2,KS.auto),(3,KS.auto),(4,KS.auto),(5,KS.cells [] h),(6,KS.rows [(1,1)] [] [] (Qe d gr)),(7,KS.rows [(1,1)] [] [] (Qe d kr)),(12,KS.cells [] c),(14,KS.cells [] f)] []=some ⟨34,104,Jz,[],.run,none,Jx rf Qa (s) (i+1) (st) g b (gr) (kr) (sn) (gn+1) (kn+1) (gm) (km),Yy rf Qa (s) (i+1) (st) g b (gr) (kr) (sn) (gn+1) (kn+1) (gm) (km),
 [Q0 1 [] h h,Xj 1 [(1,1)] [] [] (Qe d gr) (Qe d gr),Xj 1 [(1,1)] [] [] (Qe d kr) (Qe d kr),Q0 1 [] c c,Q0 1 [] f f,wq (i+1)=i+1,Rv (Qe Q5 ks) #[YI (if true=true then a.VW else a.Ua)] f kn (0+1) 8,Rv (Qe Q5 gs) #[YI a.Ys] c gn (0+1) 8,Qr []/\Qn YP J0 61 #[.agg (ZM a),.bool true] j,Qr []/\Qn YP J0 47 #[YI (Qa.getD s.toNat La),YI i] (.bool true)]++mX B rf Qa s i st gs ks gr kr sn gn kn gm km Qm⟩:=by intro h e d a j g c b f;kernel_rfl
theorem HF(B:Lo)(rf:Ql)(Qa:List Int)(s i:Int)(st gs ks:List Int)(gr kr:List RW)(sn gn kn gm km:Nat)(Qm:Nat->Value):let h:=Qe Q5 st;let e:=Yy rf Qa s i st gs ks gr kr sn gn kn gm km;let d:=pushE 1 X7;let a:=rf.Qb.getD i.toNat La;let j:=Value.agg (SG a);let g:=gs++[a.Ys];let c:=Qe Q5 g;let b:=ks++[if false=true then a.VW else a.Ua];let f:=Qe Q5 b;landM (Qo YP (Q1 YP) J0 B 20 1 (QA 34 104 (([1,2,3,6,7,10,11,12,13]:List Nat).zip (Jx rf Qa s i st gs ks gr kr sn gn kn gm km)) Qm Jz) (Q9 e) (2+e.length)
 (w8 rf Qa s i st gs ks gr kr sn gn kn gm km Qm++[(21,Qh.pure (.bool false) []),(22,Qh.pure j []),(30,Qh.XD (Hint.app c)),(34,Qh.XD (Hint.app f)),(38,Wy (i+1))]) 0 [] []) [1,2,3,6,7,10,11,12,13] [(2,KS.auto),(3,KS.auto),(4,KS.auto),(5,KS.cells [] h),(6,KS.rows [(1,1)] [] [] (Qe d gr)),(7,KS.rows [(1,1)] [] [] (Qe d kr)),(12,KS.cells [] c),(14,KS.cells [] f)] []=some ⟨34,104,Jz,[],.run,none,Jx rf Qa (s) (i+1) (st) g b (gr) (kr) (sn) (gn+1) (kn+1) (gm) (km),Yy rf Qa (s) (i+1) (st) g b (gr) (kr) (sn) (gn+1) (kn+1) (gm) (km),
 [Q0 1 [] h h,Xj 1 [(1,1)] [] [] (Qe d gr) (Qe d gr),Xj 1 [(1,1)] [] [] (Qe d kr) (Qe d kr),Q0 1 [] c c,Q0 1 [] f f,wq (i+1)=i+1,Rv (Qe Q5 ks) #[YI (if false=true then a.VW else a.Ua)] f kn (0+1) 8,Rv (Qe Q5 gs) #[YI a.Ys] c gn (0+1) 8,Qr []/\Qn YP J0 61 #[.agg (ZM a),.bool false] j,Qr []/\Qn YP J0 47 #[YI (Qa.getD s.toNat La),YI i] (.bool false)]++mX B rf Qa s i st gs ks gr kr sn gn kn gm km Qm⟩:=by intro h e d a j g c b f;kernel_rfl
theorem HE(B:Lo)(rf:Ql)(Qa:List Int)(s i:Int)(st gs ks:List Int)(gr kr:List RW)(sn gn kn gm km:Nat)(Qm:Nat->Value):let j:=Qe Q5 st;let h:=some {block:=8,off:=0};let g:=some {block:=9,off:=0};let f:=Yy rf Qa s i st gs ks gr kr sn gn kn gm km;let e:=kr++[{n:=kn,l:=ks}];let d:=gr++[{n:=gn,l:=gs}];let c:=pushE 1 X7;let b:=Qe c kr++#[.slice g kn 1];let a:=Qe c gr++#[.slice h gn 1];landM (Qo YP (Q1 YP) J0 B 9 1 (QA 34 104 (([1,2,3,6,7,10,11,12,13]:List Nat).zip (Jx rf Qa s i st gs ks gr kr sn gn kn gm km)) Qm Jz) (Q9 f) (2+f.length)
 [(4,ZW),(9,Qh.XD (Hint.app a)),(14,Qh.XD (Hint.app b)),(20,Wy (s+1))] 0 [] []) [1,2,3,6,7,10] [(2,KS.auto),(3,KS.auto),(4,KS.auto),(5,KS.cells [] j),(11,KS.rows [(1,1)] [8] [] (Qe c d)),(13,KS.rows [(1,1)] [9] [] (Qe c e))] [{k:=8,rs:=[],cs:=Qe Q5 gs},{k:=9,rs:=[],cs:=Qe Q5 ks}]=some ⟨34,104,SJ,[],.run,none,SH rf Qa (s+1) (st) d e (sn) (gm+1) (km+1),Rc rf Qa (s+1) (st) d e (sn) (gm+1) (km+1),
 [Q0 1 [] j j,Xj 1 [(1,1)] [(8,Fz.cs {k:=8,rs:=[],cs:=Qe Q5 gs})] [] a (Qe c d),X8 (Fz.rs {k:=8,rs:=[],cs:=Qe Q5 gs}) (Qe Q5 gs) (Fz.cs {k:=8,rs:=[],cs:=Qe Q5 gs}),Xj 1 [(1,1)] [(9,Fz.cs {k:=9,rs:=[],cs:=Qe Q5 ks})] [] b (Qe c e),X8 (Fz.rs {k:=9,rs:=[],cs:=Qe Q5 ks}) (Qe Q5 ks) (Fz.cs {k:=9,rs:=[],cs:=Qe Q5 ks}),wq (s+1)=s+1,Rv ((Qe c kr)) #[.slice g kn 1] b km (0+1) 24,Rv ((Qe c gr)) #[.slice h gn 1] a gm (0+1) 24,XC i (↑rf.Qb.length:Int)=false]⟩:=by intro j h g f e d c b a;kernel_rfl
def wB(B:Lo)(rf:Ql)(Qa:List Int)(s:Int)(st:List Int)(gr kr:List RW)(sn gm km:Nat)(Qm:Nat->Value):List Prop:=[XC s rf.Qd=true]++([]:List Prop)
def w7(st:List Int)(gr kr:List RW)(sn gm km:Nat)(Qm:Nat->Value):Q7:=[(3,Z5),(11,Z5),(15,Qh.tidx 0 (ZM (rf.Qb.getD 0 La))),(25,Qh.tidx s.toNat #[YI (Qa.getD s.toNat La)])]
def mW:List Prop:=let a:=rf.Qb;[Kl s Qa.length (Qe Q5 Qa) Try.t3.size #[YI (Qa.getD s.toNat La)],0=(↑0:Int)/\0<Lc a/\Lh (SC rf) (0*TypeInfo.size Try.t54) (0*TypeInfo.size Try.t54+TypeInfo.size Try.t54)=(ZM (a.getD 0 La)),XC 0 (↑a.length:Int)=true]++wB B rf Qa s st gr kr sn gm km Qm
theorem HD(B:Lo)(rf:Ql)(Qa:List Int)(s:Int)(st:List Int)(gr kr:List RW)(sn gm km:Nat)(Qm:Nat->Value):let e:=Qe Q5 st;let d:=Rc rf Qa s st gr kr sn gm km;let c:=Ke rf;let b:=pushE 1 X7;let a:=[if true=true then c.VW else c.Ua];landM (Qo YP (Q1 YP) J0 B 34 1 (QA 34 104 (([1,2,3,6,7,10]:List Nat).zip (SH rf Qa s st gr kr sn gm km)) Qm SJ) (Q9 d) (2+d.length)
 (w7 rf Qa s st gr kr sn gm km Qm++[(28,Qh.pure (.bool true) []),(29,Qh.pure (.agg (SF c)) [])]) 0 [] []) [1,2,3,6,7,10,11,12,13] [(2,KS.auto),(3,KS.auto),(4,KS.auto),(5,KS.cells [] e),(6,KS.rows [(1,1)] [] [] (Qe b gr)),(7,KS.rows [(1,1)] [] [] (Qe b kr)),(10,KS.cells [] (c8 rf)),(12,KS.cells [] (r6 rf))] []=some ⟨34,104,Jz,[],.run,none,Jx rf Qa (s) (1) (st) ([c.Ys]) a (gr) (kr) (sn) (1) (1) (gm) (km),Yy rf Qa (s) (1) (st) ([c.Ys]) a (gr) (kr) (sn) (1) (1) (gm) (km),
 [Q0 1 [] e e,Xj 1 [(1,1)] [] [] (Qe b gr) (Qe b gr),Xj 1 [(1,1)] [] [] (Qe b kr) (Qe b kr),Q0 1 [] ((fV rf)) (fU rf),Q0 1 [] ((w5 rf)) (wy rf),Qr []/\Qn YP J0 61 (r4 rf) (.agg (SF (rf.Qb.getD 0 La))),Qr []/\Qn YP J0 47 #[YI (Qa.getD s.toNat La),YI 0] (.bool true)]++mW B rf Qa s st gr kr sn gm km Qm⟩:=by intro e d c b a;kernel_rfl
theorem EC(B:Lo)(rf:Ql)(Qa:List Int)(s:Int)(st:List Int)(gr kr:List RW)(sn gm km:Nat)(Qm:Nat->Value):let e:=Qe Q5 st;let d:=Rc rf Qa s st gr kr sn gm km;let c:=Ke rf;let b:=pushE 1 X7;let a:=[if false=true then c.VW else c.Ua];landM (Qo YP (Q1 YP) J0 B 34 1 (QA 34 104 (([1,2,3,6,7,10]:List Nat).zip (SH rf Qa s st gr kr sn gm km)) Qm SJ) (Q9 d) (2+d.length)
 (w7 rf Qa s st gr kr sn gm km Qm++[(28,Qh.pure (.bool false) []),(29,Qh.pure (.agg (SG c)) [])]) 0 [] []) [1,2,3,6,7,10,11,12,13] [(2,KS.auto),(3,KS.auto),(4,KS.auto),(5,KS.cells [] e),(6,KS.rows [(1,1)] [] [] (Qe b gr)),(7,KS.rows [(1,1)] [] [] (Qe b kr)),(10,KS.cells [] (c8 rf)),(12,KS.cells [] (r7 rf))] []=some ⟨34,104,Jz,[],.run,none,Jx rf Qa (s) (1) (st) ([c.Ys]) a (gr) (kr) (sn) (1) (1) (gm) (km),Yy rf Qa (s) (1) (st) ([c.Ys]) a (gr) (kr) (sn) (1) (1) (gm) (km),
 [Q0 1 [] e e,Xj 1 [(1,1)] [] [] (Qe b gr) (Qe b gr),Xj 1 [(1,1)] [] [] (Qe b kr) (Qe b kr),Q0 1 [] ((fV rf)) (fU rf),Q0 1 [] ((w6 rf)) (wz rf),Qr []/\Qn YP J0 61 (r5 rf) (.agg (SG (rf.Qb.getD 0 La))),Qr []/\Qn YP J0 47 #[YI (Qa.getD s.toNat La),YI 0] (.bool false)]++mW B rf Qa s st gr kr sn gm km Qm⟩:=by intro e d c b a;kernel_rfl
theorem EB(B:Lo)(rf:Ql)(Qa:List Int)(s:Int)(st:List Int)(gr kr:List RW)(sn gm km:Nat)(Qm:Nat->Value):let d:=Rc rf Qa s st gr kr sn gm km;let c:=Fz.cs {k:=5,rs:=[],cs:=Qe Q5 st};let b:=Fz.cs {k:=7,rs:=[1],cs:=Qe X7 kr};let a:=Fz.cs {k:=6,rs:=[1],cs:=Qe X7 gr};QO (Qo YP (Q1 YP) J0 B 9 1 (QA 34 104 (([1,2,3,6,7,10]:List Nat).zip (SH rf Qa s st gr kr sn gm km)) Qm SJ) (Q9 d) (2+d.length)
 [(3,ZW)] 0 [] []) [{k:=5,rs:=[],cs:=Qe Q5 st},{k:=6,rs:=[1],cs:=Qe X7 gr},{k:=7,rs:=[1],cs:=Qe X7 kr}]=some (.agg #[QC sn c,QC gm a,QC km b],
 [X8 (Fz.rs {k:=5,rs:=[],cs:=Qe Q5 st}) (Qe Q5 st) c,X8 (Fz.rs {k:=6,rs:=[1],cs:=Qe X7 gr}) (Qe (pushE 1 X7) gr) a,X8 (Fz.rs {k:=7,rs:=[1],cs:=Qe X7 kr}) (Qe (pushE 1 X7) kr) b,XC s rf.Qd=false]):=by intro d c b a;kernel_rfl
theorem EA(B:Lo)(rf:Ql)(Qa:List Int):let c:=rf.Qb;let b:=Ke rf;let a:=c.getD 0 La;landM (Qo YP (Q1 YP) J0 B 27 1 (Qp YP 34 104 (([.agg (Qv rf).toArray,XH Qa,.bool false]).map (Q2 0 4))) XW 1
 [(8,Z5),(12,Qh.tidx 0 (ZM b))] 0 [] []) [1,2,3,6,7,8] [(1,KS.auto),(2,KS.auto),(3,KS.auto),(5,KS.cells [] (Qe Q5 [b.count]))] []=some ⟨34,104,SK,[],.run,none,SI rf Qa (1) ([b.count]) (1),Rd rf Qa (1) ([b.count]) (1),
 [Q0 1 [] (#[YI a.count]) (Qe Q5 [a.count]),0=(↑0:Int)/\0<Lc c/\Lh (SC rf) (0*TypeInfo.size Try.t54) (0*TypeInfo.size Try.t54+TypeInfo.size Try.t54)=(ZM a),XC 0 (↑c.length:Int)=true]⟩:=by intro c b a;kernel_rfl
end
set_option maxHeartbeats 4000000 in
theorem HN(rf:Ql)(Qa:List Int)(hr:XM rf=true)(hp:Xo rf Qa=true){B:Lo}(hJ:∀w,B.has w->J0 w){c0:CF}:∀m:Nat,(∀(i:Int) (st:List Int) (sn:Nat),10000+(rf.Qb.length-i.toNat)=m->∀(h0:1<=i) (h1:i<=rf.Qb.length) (hsn:sn=st.length) (ZB:st=aC (sV false rf) i),HR B c0 rf Qa i st sn->EndsT YP B c0 (c9 rf Qa))/\(∀(i:Int) (st gs ks:List Int) (sn gn kn:Nat),9000+(rf.Qb.length-i.toNat)=m->∀(h0:1<=i) (h1:i<=rf.Qb.length) (hsn:sn=st.length) (ZB:st=Zr rf) (Jb:gn=gs.length) (hg:gs=aC (gV false rf) i) (hkn:kn=ks.length) (hk:ks=aC (kV false rf (Qa.getD 0 0)) i),HQ B c0 rf Qa i st gs ks sn gn kn->EndsT YP B c0 (c9 rf Qa))/\(∀(s i:Int) (st gs ks:List Int) (gr kr:List RW) (sn gn kn gm km:Nat),100*(rf.Qd-s).toNat+(rf.Qb.length-i.toNat)=m->∀(s0:1<=s) (s1:s<rf.Qd) (h0:1<=i) (h1:i<=rf.Qb.length) (hsn:sn=st.length) (ZB:st=Zr rf) (hgm:gm=gr.length) (hgr:gr=(Yq 0 s).map fun _=>⟨rf.Qb.length,Pm rf⟩) (hkm:km=kr.length) (hkr:kr=(Yq 0 s).map fun z=>⟨rf.Qb.length,Pg rf (Qa.getD z.toNat 0)⟩) (Jb:gn=gs.length) (hg:gs=aC (gV false rf) i) (hkn:kn=ks.length) (hk:ks=aC (kV false rf (Qa.getD s.toNat 0)) i),HP B c0 rf Qa s i st gs ks gr kr sn gn kn gm km->EndsT YP B c0 (c9 rf Qa))/\(∀(s:Int) (st:List Int) (gr kr:List RW) (sn gm km:Nat),100*(rf.Qd-s).toNat+99=m->∀(s0:1<=s) (s1:s<=rf.Qd) (hsn:sn=st.length) (ZB:st=Zr rf) (hgm:gm=gr.length) (hgr:gr=(Yq 0 s).map fun _=>⟨rf.Qb.length,Pm rf⟩) (hkm:km=kr.length) (hkr:kr=(Yq 0 s).map fun z=>⟨rf.Qb.length,Pg rf (Qa.getD z.toNat 0)⟩),HO B c0 rf Qa s st gr kr sn gm km->EndsT YP B c0 (c9 rf Qa)):=by
 intro m0;induction m0 using Lz with
 |_ m0 ih0=>
  refine⟨?_, ?_, ?_, ?_⟩
  ·intro i st sn YA h0 h1 hsn ZB ⟨Qm,ZF,Xs⟩;have ZA:=Q4 (Q8 hr).1;have hsl0:=fA (rf:=rf);have hpq:0<=Qa.getD 0 La/\Qa.getD 0 La<=1000000000:=by have:=Zj hr hp 0;show 0<=Qa.getD 0 0/\Qa.getD 0 0<=1000000000;omega
   have hpf:=(XU hp).1;have hpq:0<=Qa.getD 0 La/\Qa.getD 0 La<=1000000000:=by have:=Zj hr hp 0;show 0<=Qa.getD 0 0/\Qa.getD 0 0<=1000000000;omega
   have hsl:(st.length:Int)=i:=by rw[ZB];exact Ko (by omega)
   by_cases q0:(i:Int)<((↑rf.Qb.length:Int))
   ·exact((ih0 _ (by omega)).1 (i+1) (st++[Qg.count (rf.Qb.getD i.toNat La)]) (sn+1) rfl (by omega) (by omega) (by(simp only[Li,Lk,Lt];omega)) (by(rw[ZB];exact Zv (by omega)))
     (Xs.landM okF hJ Qf (HM B rf Qa i st sn Qm)
     ⟨(Zf fun _=>by rfl),⟨(QY (by omega) (by omega)),⟨⟨(by(rw[QZ (z:=1) (fun _=>rfl)];first|omega|(simp;omega)|(simp_all;done))),(by unfold maxLen;omega),by omega,by first|exact X1|exact Xq rfl⟩,⟨⟨by omega,by omega,(Qs (z:=12) (fun _=>rfl) (by omega))⟩,⟨(Xd q0),trivial⟩⟩⟩⟩⟩ (by kernel_rfl) (by kernel_rfl))).cast (by rfl)
   ·have Vw:Qr (wD B rf Qa i st sn Qm):=by
     exact⟨(X9 (Int.not_lt.1 q0)),trivial⟩
    by_cases q1:(0:Int)<rf.Qd
    ·have UP:Qr (wC B rf Qa i st sn Qm):=by
      exact⟨(Xd q1),Vw⟩
     by_cases q2:(0:Int)<((↑rf.Qb.length:Int))
     ·have Pb:Qr (mZ B rf Qa i st sn Qm):=by
       exact⟨⟨by omega,by omega,(Qs (z:=1) (fun _=>rfl) (by omega))⟩,⟨⟨by omega,by omega,(Qs (z:=12) (fun _=>rfl) (by omega))⟩,⟨(Xd q2),UP⟩⟩⟩
      cases q3:hasB (Qa.getD 0 La) 0 with
      |true=>
       have hse:st=Zr rf:=by rw[ZB,show i=rf.Qb.length by omega];exact sH (b:=false)
       exact((ih0 _ (by omega)).2.1 (1) (st) ([Qg.Ys (rf.Qb.getD 0 La)]) ([if true=true then Qg.VW (rf.Qb.getD 0 La)else Qg.Ua (rf.Qb.getD 0 La)]) (sn) (1) (1) rfl (by omega) (by omega) (by with_reducible assumption) (by with_reducible assumption) (by rfl) (by rfl) (by rfl) (by(rw[Pa];exact congrArg (fun z=>[z]) (DT (k:=0) (by assumption)).symm))
        (Xs.landM okF hJ Qf (HL B rf Qa i st sn Qm)
        ⟨(Zf fun _=>by rfl),⟨(Xt (by kernel_rfl)),⟨(Xt (by kernel_rfl)),⟨⟨trivial,Wq (rf.Qb.getD 0 La) (true)⟩,⟨⟨trivial,(by have t_:=Pr (Qa.getD 0 La) (0) (by with_reducible assumption) (by omega);rw[q3]at t_;exact t_)⟩,Pb⟩⟩⟩⟩⟩ (by kernel_rfl) (by kernel_rfl))).cast (by rfl)
      |false=>
       have hse:st=Zr rf:=by rw[ZB,show i=rf.Qb.length by omega];exact sH (b:=false)
       exact((ih0 _ (by omega)).2.1 (1) (st) ([Qg.Ys (rf.Qb.getD 0 La)]) ([if false=true then Qg.VW (rf.Qb.getD 0 La)else Qg.Ua (rf.Qb.getD 0 La)]) (sn) (1) (1) rfl (by omega) (by omega) (by with_reducible assumption) (by with_reducible assumption) (by rfl) (by rfl) (by rfl) (by(rw[Pa];exact congrArg (fun z=>[z]) (DU (k:=0) (by assumption)).symm))
        (Xs.landM okF hJ Qf (HK B rf Qa i st sn Qm)
        ⟨(Zf fun _=>by rfl),⟨(Xt (by kernel_rfl)),⟨(Xt (by kernel_rfl)),⟨⟨trivial,Wq (rf.Qb.getD 0 La) (false)⟩,⟨⟨trivial,(by have t_:=Pr (Qa.getD 0 La) (0) (by with_reducible assumption) (by omega);rw[q3]at t_;exact t_)⟩,Pb⟩⟩⟩⟩⟩ (by kernel_rfl) (by kernel_rfl))).cast (by rfl)
     ·exfalso
      (have ZA:=Q4 (Q8 hr).1;omega)
    ·exfalso
     (have ZA:=Q4 (Q8 hr).1;omega)
  ·intro i st gs ks sn gn kn YA h0 h1 hsn ZB Jb hg hkn hk ⟨Qm,ZF,Xs⟩;have ZA:=Q4 (Q8 hr).1;have hsl0:=fA (rf:=rf);have hpq:0<=Qa.getD 0 La/\Qa.getD 0 La<=1000000000:=by have:=Zj hr hp 0;show 0<=Qa.getD 0 0/\Qa.getD 0 0<=1000000000;omega
   have hpf:=(XU hp).1;have hpq:0<=Qa.getD 0 La/\Qa.getD 0 La<=1000000000:=by have:=Zj hr hp 0;show 0<=Qa.getD 0 0/\Qa.getD 0 0<=1000000000;omega
   have hgl:(gs.length:Int)=i:=by rw[hg];exact Ko (by omega)
   have hkl:(ks.length:Int)=i:=by rw[hk];exact Ko (by omega)
   by_cases q0:(i:Int)<((↑rf.Qb.length:Int))
   ·have hp3:Qr (mY B rf Qa i st gs ks sn gn kn Qm):=by
     exact⟨⟨by omega,by omega,(Qs (z:=1) (fun _=>rfl) (by omega))⟩,⟨⟨by omega,by omega,(Qs (z:=12) (fun _=>rfl) (by omega))⟩,⟨(Xd q0),trivial⟩⟩⟩
    cases q1:hasB (Qa.getD 0 La) i with
    |true=>
     exact((ih0 _ (by omega)).2.1 (i+1) (st) (gs++[Qg.Ys (rf.Qb.getD i.toNat La)]) (ks++[if true=true then Qg.VW (rf.Qb.getD i.toNat La)else Qg.Ua (rf.Qb.getD i.toNat La)]) (sn) (gn+1) (kn+1) rfl (by omega) (by omega) (by with_reducible assumption) (by with_reducible assumption) (by(simp only[Li,Lk,Lt];omega)) (by(rw[hg];exact Zv (by omega))) (by(simp only[Li,Lk,Lt];omega)) (by(rw[hk,<-Zv (by omega)];exact congrArg (fun z=>_++[z]) (DT (by assumption)).symm))
      (Xs.landM okF hJ Qf (HJ B rf Qa i st gs ks sn gn kn Qm)
      ⟨(Zf fun _=>by rfl),⟨(Zf fun _=>by rfl),⟨(Zf fun _=>by rfl),⟨(QY (by omega) (by omega)),⟨⟨(by(rw[QZ (z:=1) (fun _=>rfl)];first|omega|(simp;omega)|(simp_all;done))),(by unfold maxLen;omega),by omega,by first|exact X1|exact Xq rfl⟩,⟨⟨(by(rw[QZ (z:=1) (fun _=>rfl)];first|omega|(simp;omega)|(simp_all;done))),(by unfold maxLen;omega),by omega,by first|exact X1|exact Xq rfl⟩,⟨⟨trivial,Wq (rf.Qb.getD i.toNat La) (true)⟩,⟨⟨trivial,(by have t_:=Pr (Qa.getD 0 La) (i) (by with_reducible assumption) (by omega);rw[q1]at t_;exact t_)⟩,hp3⟩⟩⟩⟩⟩⟩⟩⟩ (by kernel_rfl) (by kernel_rfl))).cast (by rfl)
    |false=>
     exact((ih0 _ (by omega)).2.1 (i+1) (st) (gs++[Qg.Ys (rf.Qb.getD i.toNat La)]) (ks++[if false=true then Qg.VW (rf.Qb.getD i.toNat La)else Qg.Ua (rf.Qb.getD i.toNat La)]) (sn) (gn+1) (kn+1) rfl (by omega) (by omega) (by with_reducible assumption) (by with_reducible assumption) (by(simp only[Li,Lk,Lt];omega)) (by(rw[hg];exact Zv (by omega))) (by(simp only[Li,Lk,Lt];omega)) (by(rw[hk,<-Zv (by omega)];exact congrArg (fun z=>_++[z]) (DU (by assumption)).symm))
      (Xs.landM okF hJ Qf (HI B rf Qa i st gs ks sn gn kn Qm)
      ⟨(Zf fun _=>by rfl),⟨(Zf fun _=>by rfl),⟨(Zf fun _=>by rfl),⟨(QY (by omega) (by omega)),⟨⟨(by(rw[QZ (z:=1) (fun _=>rfl)];first|omega|(simp;omega)|(simp_all;done))),(by unfold maxLen;omega),by omega,by first|exact X1|exact Xq rfl⟩,⟨⟨(by(rw[QZ (z:=1) (fun _=>rfl)];first|omega|(simp;omega)|(simp_all;done))),(by unfold maxLen;omega),by omega,by first|exact X1|exact Xq rfl⟩,⟨⟨trivial,Wq (rf.Qb.getD i.toNat La) (false)⟩,⟨⟨trivial,(by have t_:=Pr (Qa.getD 0 La) (i) (by with_reducible assumption) (by omega);rw[q1]at t_;exact t_)⟩,hp3⟩⟩⟩⟩⟩⟩⟩⟩ (by kernel_rfl) (by kernel_rfl))).cast (by rfl)
   ·have hge:gs=Pm rf:=by rw[hg,show i=rf.Qb.length by omega];exact um (b:=false)
    have hke:ks=Pg rf (Qa.getD 0 0):=by rw[hk,show i=rf.Qb.length by omega];exact ug (b:=false)
    exact((ih0 _ (by omega)).2.2.2 (1) (st) ([{n:=gn,l:=gs}]) ([{n:=kn,l:=ks}]) (sn) (1) (1) rfl (by omega) (by omega) (by with_reducible assumption) (by with_reducible assumption) (by rfl) (by(rw[show gn=rf.Qb.length by omega,hge];rfl)) (by rfl) (by(rw[show kn=rf.Qb.length by omega,hke];rfl))
     (Xs.landM okF hJ Qf (HH B rf Qa i st gs ks sn gn kn Qm)
     (by exact⟨(Zf fun _=>by rfl),⟨(by exact(Rt (by exact⟨(.own (Lj _)),trivial⟩))),⟨(Xc (fun x=>List.all_eq_true.1 (by rfl))),⟨(by exact(Rt (by exact⟨(.own (Lj _)),trivial⟩))),⟨(Xc (fun x=>List.all_eq_true.1 (by rfl))),⟨(X9 (Int.not_lt.1 q0)),trivial⟩⟩⟩⟩⟩⟩) (by kernel_rfl) (by kernel_rfl))).cast (by rfl)
  ·intro s i st gs ks gr kr sn gn kn gm km YA s0 s1 h0 h1 hsn ZB hgm hgr hkm hkr Jb hg hkn hk ⟨Qm,ZF,Xs⟩;have ZA:=Q4 (Q8 hr).1;have hsl0:=fA (rf:=rf);have hpf:=(XU hp).1;have hgl:(gs.length:Int)=i:=by rw[hg];exact Ko (by omega)
   have hkl:(ks.length:Int)=i:=by rw[hk];exact Ko (by omega)
   have hgrl:(gr.length:Int)=s:=by rw[hgr];exact JW (by omega)
   have hkrl:(kr.length:Int)=s:=by rw[hkr];exact JW (by omega)
   have hps:0<=Qa.getD s.toNat La/\Qa.getD s.toNat La<=1000000000:=by have:=Zj hr hp s.toNat;show 0<=Qa.getD s.toNat 0/\Qa.getD s.toNat 0<=1000000000;omega
   by_cases q0:(i:Int)<((↑rf.Qb.length:Int))
   ·have T5:Qr (mX B rf Qa s i st gs ks gr kr sn gn kn gm km Qm):=by
     exact⟨⟨by omega,by omega,(Qs (z:=1) (fun _=>rfl) (by omega))⟩,⟨⟨by omega,by omega,(Qs (z:=12) (fun _=>rfl) (by omega))⟩,⟨(Xd q0),trivial⟩⟩⟩
    cases q1:hasB (Qa.getD s.toNat La) i with
    |true=>
     exact((ih0 _ (by omega)).2.2.1 (s) (i+1) (st) (gs++[Qg.Ys (rf.Qb.getD i.toNat La)]) (ks++[if true=true then Qg.VW (rf.Qb.getD i.toNat La)else Qg.Ua (rf.Qb.getD i.toNat La)]) (gr) (kr) (sn) (gn+1) (kn+1) (gm) (km) rfl (by with_reducible assumption) (by with_reducible assumption) (by omega) (by omega) (by with_reducible assumption) (by with_reducible assumption) (by with_reducible assumption) (by with_reducible assumption) (by with_reducible assumption) (by with_reducible assumption) (by(simp only[Li,Lk,Lt];omega)) (by(rw[hg];exact Zv (by omega))) (by(simp only[Li,Lk,Lt];omega)) (by(rw[hk,<-Zv (by omega)];exact congrArg (fun z=>_++[z]) (DT (by assumption)).symm))
      (Xs.landM okF hJ Qf (HG B rf Qa s i st gs ks gr kr sn gn kn gm km Qm)
      ⟨(Zf fun _=>by rfl),⟨(by exact(Xe (Xz (by exact fun _=>rfl)) (Lj _))),⟨(by exact(Xe (Xz (by exact fun _=>rfl)) (Lj _))),⟨(Zf fun _=>by rfl),⟨(Zf fun _=>by rfl),⟨(QY (by omega) (by omega)),⟨⟨(by(rw[QZ (z:=1) (fun _=>rfl)];first|omega|(simp;omega)|(simp_all;done))),(by unfold maxLen;omega),by omega,by first|exact X1|exact Xq rfl⟩,⟨⟨(by(rw[QZ (z:=1) (fun _=>rfl)];first|omega|(simp;omega)|(simp_all;done))),(by unfold maxLen;omega),by omega,by first|exact X1|exact Xq rfl⟩,⟨⟨trivial,Wq (rf.Qb.getD i.toNat La) (true)⟩,⟨⟨trivial,(by have t_:=Pr (Qa.getD s.toNat La) (i) (by with_reducible assumption) (by omega);rw[q1]at t_;exact t_)⟩,T5⟩⟩⟩⟩⟩⟩⟩⟩⟩⟩ (by kernel_rfl) (by kernel_rfl))).cast (by rfl)
    |false=>
     exact((ih0 _ (by omega)).2.2.1 (s) (i+1) (st) (gs++[Qg.Ys (rf.Qb.getD i.toNat La)]) (ks++[if false=true then Qg.VW (rf.Qb.getD i.toNat La)else Qg.Ua (rf.Qb.getD i.toNat La)]) (gr) (kr) (sn) (gn+1) (kn+1) (gm) (km) rfl (by with_reducible assumption) (by with_reducible assumption) (by omega) (by omega) (by with_reducible assumption) (by with_reducible assumption) (by with_reducible assumption) (by with_reducible assumption) (by with_reducible assumption) (by with_reducible assumption) (by(simp only[Li,Lk,Lt];omega)) (by(rw[hg];exact Zv (by omega))) (by(simp only[Li,Lk,Lt];omega)) (by(rw[hk,<-Zv (by omega)];exact congrArg (fun z=>_++[z]) (DU (by assumption)).symm))
      (Xs.landM okF hJ Qf (HF B rf Qa s i st gs ks gr kr sn gn kn gm km Qm)
      ⟨(Zf fun _=>by rfl),⟨(by exact(Xe (Xz (by exact fun _=>rfl)) (Lj _))),⟨(by exact(Xe (Xz (by exact fun _=>rfl)) (Lj _))),⟨(Zf fun _=>by rfl),⟨(Zf fun _=>by rfl),⟨(QY (by omega) (by omega)),⟨⟨(by(rw[QZ (z:=1) (fun _=>rfl)];first|omega|(simp;omega)|(simp_all;done))),(by unfold maxLen;omega),by omega,by first|exact X1|exact Xq rfl⟩,⟨⟨(by(rw[QZ (z:=1) (fun _=>rfl)];first|omega|(simp;omega)|(simp_all;done))),(by unfold maxLen;omega),by omega,by first|exact X1|exact Xq rfl⟩,⟨⟨trivial,Wq (rf.Qb.getD i.toNat La) (false)⟩,⟨⟨trivial,(by have t_:=Pr (Qa.getD s.toNat La) (i) (by with_reducible assumption) (by omega);rw[q1]at t_;exact t_)⟩,T5⟩⟩⟩⟩⟩⟩⟩⟩⟩⟩ (by kernel_rfl) (by kernel_rfl))).cast (by rfl)
   ·have hge:gs=Pm rf:=by rw[hg,show i=rf.Qb.length by omega];exact um (b:=false)
    have hke:ks=Pg rf (Qa.getD s.toNat 0):=by rw[hk,show i=rf.Qb.length by omega];exact ug (b:=false)
    exact((ih0 _ (by omega)).2.2.2 (s+1) (st) (gr++[{n:=gn,l:=gs}]) (kr++[{n:=kn,l:=ks}]) (sn) (gm+1) (km+1) rfl (by omega) (by omega) (by with_reducible assumption) (by with_reducible assumption) (by(simp only[Li,Lk,Lt];omega)) (by(rw[PM (by omega),List.map_append,<-hgr,show gn=rf.Qb.length by omega,hge];rfl)) (by(simp only[Li,Lk,Lt];omega)) (by(rw[PM (by omega),List.map_append,<-hkr,show kn=rf.Qb.length by omega,hke];rfl))
     (Xs.landM okF hJ Qf (HE B rf Qa s i st gs ks gr kr sn gn kn gm km Qm)
     (by exact⟨(Zf fun _=>by rfl),⟨(by exact(Sf (Xe (Xz (by exact fun _=>rfl)) (Lj _)) (by exact⟨(.own (Lj _)),trivial⟩))),⟨(Xc (fun x=>List.all_eq_true.1 (by rfl))),⟨(by exact(Sf (Xe (Xz (by exact fun _=>rfl)) (Lj _)) (by exact⟨(.own (Lj _)),trivial⟩))),⟨(Xc (fun x=>List.all_eq_true.1 (by rfl))),⟨(QY (by omega) (by omega)),⟨⟨(by(rw[QZ (z:=1) (fun _=>rfl)];first|omega|(simp;omega)|(simp_all;done))),(by unfold maxLen;omega),by omega,rfl⟩,⟨⟨(by(rw[QZ (z:=1) (fun _=>rfl)];first|omega|(simp;omega)|(simp_all;done))),(by unfold maxLen;omega),by omega,rfl⟩,⟨(X9 (Int.not_lt.1 q0)),trivial⟩⟩⟩⟩⟩⟩⟩⟩⟩) (by kernel_rfl) (by kernel_rfl))).cast (by rfl)
  ·intro s st gr kr sn gm km YA s0 s1 hsn ZB hgm hgr hkm hkr ⟨Qm,ZF,Xs⟩;have ZA:=Q4 (Q8 hr).1;have hsl0:=fA (rf:=rf);have hpf:=(XU hp).1;have hgrl:(gr.length:Int)=s:=by rw[hgr];exact JW (by omega)
   have hkrl:(kr.length:Int)=s:=by rw[hkr];exact JW (by omega)
   have hps:0<=Qa.getD s.toNat La/\Qa.getD s.toNat La<=1000000000:=by have:=Zj hr hp s.toNat;show 0<=Qa.getD s.toNat 0/\Qa.getD s.toNat 0<=1000000000;omega
   by_cases q0:(s:Int)<rf.Qd
   ·have hp5:Qr (wB B rf Qa s st gr kr sn gm km Qm):=by
     exact⟨(Xd q0),trivial⟩
    by_cases q1:(0:Int)<((↑rf.Qb.length:Int))
    ·have hp6:Qr (mW B rf Qa s st gr kr sn gm km Qm):=by
      exact⟨⟨by omega,by omega,(Qs (z:=1) (fun _=>rfl) (by omega))⟩,⟨⟨by omega,by omega,(Qs (z:=12) (fun _=>rfl) (by omega))⟩,⟨(Xd q1),hp5⟩⟩⟩
     cases q2:hasB (Qa.getD s.toNat La) 0 with
     |true=>
      exact((ih0 _ (by omega)).2.2.1 (s) (1) (st) ([Qg.Ys (rf.Qb.getD 0 La)]) ([if true=true then Qg.VW (rf.Qb.getD 0 La)else Qg.Ua (rf.Qb.getD 0 La)]) (gr) (kr) (sn) (1) (1) (gm) (km) rfl (by with_reducible assumption) (by with_reducible assumption) (by omega) (by omega) (by with_reducible assumption) (by with_reducible assumption) (by with_reducible assumption) (by with_reducible assumption) (by with_reducible assumption) (by with_reducible assumption) (by rfl) (by rfl) (by rfl) (by(rw[Pa];exact congrArg (fun z=>[z]) (DT (k:=0) (by assumption)).symm))
       (Xs.landM okF hJ Qf (HD B rf Qa s st gr kr sn gm km Qm)
       ⟨(Zf fun _=>by rfl),⟨(by exact(Xe (Xz (by exact fun _=>rfl)) (Lj _))),⟨(by exact(Xe (Xz (by exact fun _=>rfl)) (Lj _))),⟨(Xt (by kernel_rfl)),⟨(Xt (by kernel_rfl)),⟨⟨trivial,Wq (rf.Qb.getD 0 La) (true)⟩,⟨⟨trivial,(by have t_:=Pr (Qa.getD s.toNat La) (0) (by with_reducible assumption) (by omega);rw[q2]at t_;exact t_)⟩,hp6⟩⟩⟩⟩⟩⟩⟩ (by kernel_rfl) (by kernel_rfl))).cast (by rfl)
     |false=>
      exact((ih0 _ (by omega)).2.2.1 (s) (1) (st) ([Qg.Ys (rf.Qb.getD 0 La)]) ([if false=true then Qg.VW (rf.Qb.getD 0 La)else Qg.Ua (rf.Qb.getD 0 La)]) (gr) (kr) (sn) (1) (1) (gm) (km) rfl (by with_reducible assumption) (by with_reducible assumption) (by omega) (by omega) (by with_reducible assumption) (by with_reducible assumption) (by with_reducible assumption) (by with_reducible assumption) (by with_reducible assumption) (by with_reducible assumption) (by rfl) (by rfl) (by rfl) (by(rw[Pa];exact congrArg (fun z=>[z]) (DU (k:=0) (by assumption)).symm))
       (Xs.landM okF hJ Qf (EC B rf Qa s st gr kr sn gm km Qm)
       ⟨(Zf fun _=>by rfl),⟨(by exact(Xe (Xz (by exact fun _=>rfl)) (Lj _))),⟨(by exact(Xe (Xz (by exact fun _=>rfl)) (Lj _))),⟨(Xt (by kernel_rfl)),⟨(Xt (by kernel_rfl)),⟨⟨trivial,Wq (rf.Qb.getD 0 La) (false)⟩,⟨⟨trivial,(by have t_:=Pr (Qa.getD s.toNat La) (0) (by with_reducible assumption) (by omega);rw[q2]at t_;exact t_)⟩,hp6⟩⟩⟩⟩⟩⟩⟩ (by kernel_rfl) (by kernel_rfl))).cast (by rfl)
    ·exfalso
     (have ZA:=Q4 (Q8 hr).1;omega)
   ·exact(GoE.endsT okF hJ Qf Xs (EB B rf Qa s st gr kr sn gm km Qm)
     ⟨(Xc (fun x=>List.all_eq_true.1 (by rfl))),⟨(ZS (Xz (by exact fun _=>rfl)) (Lj _)),⟨(ZS (Xz (by exact fun _=>rfl)) (Lj _)),⟨(X9 (Int.not_lt.1 q0)),trivial⟩⟩⟩⟩).cast (by(rw[show QC gm (Qe X7 gr)=QC (Z3 rf).length (Qe XA (Z3 rf))from sJ (g:=fun _=>Pm rf) (fun _=>NX) hgr hgm (by omega),show QC km (Qe X7 kr)=QC (ZQ rf Qa).length (Qe XA (ZQ rf Qa))from sJ (g:=fun z=>Pg rf (Qa.getD z.toNat 0)) (fun _=>Ni) hkr hkm (by omega),hsn,ZB]))
set_option maxHeartbeats 4000000 in
theorem N3(rf:Ql)(Qa:List Int)(hr:XM rf=true)(hp:Xo rf Qa=true){B:Lo}(hJ:∀w,B.has w->J0 w):EndsT YP B (Qp YP 34 104 (([.agg (Qv rf).toArray,XH Qa,.bool false]).map (Q2 0 4))) (c9 rf Qa):=by
 have ZA:=Q4 (Q8 hr).1;have hsl0:=fA (rf:=rf);by_cases q0:(0:Int)<((↑rf.Qb.length:Int))
 ·exact((HN rf Qa hr hp hJ _).1 (1) ([Qg.count (rf.Qb.getD 0 La)]) (1) rfl (by omega) (by omega) (by rfl) (by rfl)
   (GoE.start.landM okF hJ Qf (EA B rf Qa)
   ⟨(Xt (by kernel_rfl)),⟨⟨by omega,by omega,(Qs (z:=12) (fun _=>rfl) (by omega))⟩,⟨(Xd q0),trivial⟩⟩⟩ (by kernel_rfl) (by kernel_rfl))).cast (by rfl)
 ·exfalso
  (have ZA:=Q4 (Q8 hr).1;omega)
theorem QaQ(rf:Ql)(Qa:List Int)(hr:XM rf=true)(hp:Xo rf Qa=true):Qn YP J0 34 #[.agg (Qv rf).toArray,XH Qa,.bool false] (c9 rf Qa):=
 Xb (ts:=[.agg (Qv rf).toArray,XH Qa,.bool false]) XZ (c0:=Qp YP 34 104 (([.agg (Qv rf).toArray,XH Qa,.bool false]).map (Q2 0 4))) (by kernel_rfl) (by kernel_rfl) fun B hJ=>N3 rf Qa hr hp hJ
section
variable (x_:Qg)(B:Lo)(c0:CF)(rf:Ql)(Qa:List Int)(s i:Int)(st gs ks:List Int)(gr kr:List RW)(sn gn kn gm km:Nat)(Qm:Nat->Value)
abbrev c7:Value:=.agg #[XH (Zs rf),QC (Z4 rf).length (Qe XA (Z4 rf)),QC (ZP rf Qa).length (Qe XA (ZP rf Qa))]
def Zp:Array Value:=#[YI x_.count,YI x_.room,YI x_.Ys,YI x_.Yt,YI x_.Xh,YI x_.Zq,YI x_.VZ,YI x_.Ua,YI x_.VV,YI x_.VW,YI x_.goal,YI x_.VF]
def fS:Array Value:=#[YI (if false=true then x_.VV else x_.VZ),YI (if false=true then x_.VW else x_.Ua)]
def fR:Array Value:=#[YI (if true=true then x_.VV else x_.VZ),YI (if true=true then x_.VW else x_.Ua)]
def VI:Array Value:=#[YI (Qa.getD 0 La)]
def fN:Array Value:=#[YI (Qa.getD 0 La),YI 0]
def PY:Array Value:=(Qe Qi rf.Qb)
def YN:=(rf.Qb.getD 0 La)
def YQ:=(YN rf)
def Vc:=(YQ rf)
def fQ:Array Value:=#[.agg (Zp (YQ rf)),.bool false]
def fP:Array Value:=#[.agg (Zp (YQ rf)),.bool true]
def fO:Array Value:=#[YI (Qg.Yt (YQ rf))]
def fM:Array Value:=(Qe Q5 [Qg.Yt (YQ rf)])
def fL:Value:=(.agg (fR (YQ rf)))
def fK:Value:=(.agg (fS (YQ rf)))
def r3:Array Value:=#[YI (if false=true then Qg.VV (YN rf)else Qg.VZ (YN rf))]
def rz:Array Value:=#[YI (if true=true then Qg.VV (YN rf)else Qg.VZ (YN rf))]
def ry:Array Value:=(Qe Q5 [if false=true then Qg.VV (YN rf)else Qg.VZ (YN rf)])
def rv:Array Value:=(Qe Q5 [if true=true then Qg.VV (rf.Qb.getD 0 La)else Qg.VZ (rf.Qb.getD 0 La)])
def ru:Array Value:=#[QC rf.Qb.length (PY rf),YI rf.Qc,YI rf.Qd]
def c6:Array Value:=(Qe Q5 [Qg.Yt (Vc rf)])
def cz:Value:=(.agg (fR (Vc rf)))
def cy:Value:=(.agg (fS (Vc rf)))
def rr:Array Value:=(Qe Q5 [if false=true then Qg.VV (Vc rf)else Qg.VZ (Vc rf)])
def rq:Array Value:=(Qe Q5 [if true=true then Qg.VV (Vc rf)else Qg.VZ (Vc rf)])
def S9(rf:Ql)(Qa:List Int)(i:Int)(st:List Int)(sn:Nat):List Value:=[Qw 1 (QC Qa.length (Qe Q5 Qa)),.bool true,pA 2 0,pA 3 0,pA 4 0,YI i]
def Ra(Qa:List Int)(i:Int)(st:List Int)(sn:Nat):List Obj:=[Obj.cells #[Qw 1 (QC rf.Qb.length (Qe Qi rf.Qb)),YI rf.Qc,YI rf.Qd] 24,Obj.cells #[.slice none 0 0,.slice none 0 0,.slice none 0 0] 42,.cells #[.slice (some ⟨5,0,none⟩) sn 1,.slice none 0 0,.slice none 0 0] 42 (0,0),.cells (Qe Q5 st) 3 (0,0)]
def SB:List Item:=([.code [1,1,0,1,0,0],.inLoop [1,1,0,1,0,0],.inBlock 0,.code [1,1,1]]).map (it (QG YP 34))
def HC:Prop:=∃dJ:Nat->Value,(∀t,Xi (dJ t))/\GoE YP B c0 XW 1 (QA 34 104 (([1,2,3,6,7,8]:List Nat).zip (S9 rf Qa i st sn)) dJ SB) (Q9 (Ra rf Qa i st sn)) (2+(Ra rf Qa i st sn).length) []
def Ju(rf:Ql)(Qa:List Int)(i:Int)(st gs ks:List Int)(sn gn kn:Nat):List Value:=[Qw 1 (QC Qa.length (Qe Q5 Qa)),.bool true,pA 2 0,pA 3 0,pA 4 0,YI 0,.slice (some ⟨6,0,none⟩) gn 1,.slice (some ⟨7,0,none⟩) kn 1,YI i]
def Yx(Qa:List Int)(i:Int)(st gs ks:List Int)(sn gn kn:Nat):List Obj:=[Obj.cells #[Qw 1 (QC rf.Qb.length (Qe Qi rf.Qb)),YI rf.Qc,YI rf.Qd] 24,Obj.cells #[.slice none 0 0,.slice none 0 0,.slice none 0 0] 42,.cells #[.slice (some ⟨5,0,none⟩) sn 1,.slice none 0 0,.slice none 0 0] 42 (0,0),.cells (Qe Q5 st) 3 (0,0),.cells (Qe Q5 gs) 3 (0,0),.cells (Qe Q5 ks) 3 (0,0)]
def Jw:List Item:=([.code [1,1,1,0,1,0,0,1,0,0,1,0,1,0,0],.inLoop [1,1,1,0,1,0,0,1,0,0,1,0,1,0,0],.inBlock 4,.code [1,1,1,0,1,0,0,1,0,0,1,1],.inBlock 3,.code [1,1,1,0,1,0,0,1,1],.inLoop [1,1,1,0,1,0,0],.inBlock 2,.code [1,1,1,1]]).map (it (QG YP 34))
def HB:Prop:=∃dJ:Nat->Value,(∀t,Xi (dJ t))/\GoE YP B c0 XW 1 (QA 34 104 (([1,2,3,6,7,10,11,12,13]:List Nat).zip (Ju rf Qa i st gs ks sn gn kn)) dJ Jw) (Q9 (Yx rf Qa i st gs ks sn gn kn)) (2+(Yx rf Qa i st gs ks sn gn kn).length) []
def Jt(rf:Ql)(Qa:List Int)(s i:Int)(st gs ks:List Int)(gr kr:List RW)(sn gn kn gm km:Nat):List Value:=[Qw 1 (QC Qa.length (Qe Q5 Qa)),.bool true,pA 2 0,pA 3 0,pA 4 0,YI s,.slice (some ⟨8,0,none⟩) gn 1,.slice (some ⟨9,0,none⟩) kn 1,YI i]
def Yw(Qa:List Int)(s i:Int)(st gs ks:List Int)(gr kr:List RW)(sn gn kn gm km:Nat):List Obj:=[Obj.cells #[Qw 1 (QC rf.Qb.length (Qe Qi rf.Qb)),YI rf.Qc,YI rf.Qd] 24,Obj.cells #[.slice none 0 0,.slice none 0 0,.slice none 0 0] 42,.cells #[.slice (some ⟨5,0,none⟩) sn 1,.slice (some ⟨6,0,none⟩) gm 1,.slice (some ⟨7,0,none⟩) km 1] 42 (0,0),.cells (Qe Q5 st) 3 (0,0),.cells (Qe (pushE 1 X7) gr) 25 (0,0),.cells (Qe (pushE 1 X7) kr) 25 (0,0),.cells (Qe Q5 gs) 3 (0,0),.cells (Qe Q5 ks) 3 (0,0)]
def Jv:List Item:=([.code [1,1,1,0,1,0,0,1,0,0,1,0,1,0,0],.inLoop [1,1,1,0,1,0,0,1,0,0,1,0,1,0,0],.inBlock 4,.code [1,1,1,0,1,0,0,1,0,0,1,1],.inBlock 3,.code [1,1,1,0,1,0,0,1,1],.inLoop [1,1,1,0,1,0,0],.inBlock 2,.code [1,1,1,1]]).map (it (QG YP 34))
def HA:Prop:=∃dJ:Nat->Value,(∀t,Xi (dJ t))/\GoE YP B c0 XW 1 (QA 34 104 (([1,2,3,6,7,10,11,12,13]:List Nat).zip (Jt rf Qa s i st gs ks gr kr sn gn kn gm km)) dJ Jv) (Q9 (Yw rf Qa s i st gs ks gr kr sn gn kn gm km)) (2+(Yw rf Qa s i st gs ks gr kr sn gn kn gm km).length) []
def S8(rf:Ql)(Qa:List Int)(s:Int)(st:List Int)(gr kr:List RW)(sn gm km:Nat):List Value:=[Qw 1 (QC Qa.length (Qe Q5 Qa)),.bool true,pA 2 0,pA 3 0,pA 4 0,YI s]
def PZ(Qa:List Int)(s:Int)(st:List Int)(gr kr:List RW)(sn gm km:Nat):List Obj:=[Obj.cells #[Qw 1 (QC rf.Qb.length (Qe Qi rf.Qb)),YI rf.Qc,YI rf.Qd] 24,Obj.cells #[.slice none 0 0,.slice none 0 0,.slice none 0 0] 42,.cells #[.slice (some ⟨5,0,none⟩) sn 1,.slice (some ⟨6,0,none⟩) gm 1,.slice (some ⟨7,0,none⟩) km 1] 42 (0,0),.cells (Qe Q5 st) 3 (0,0),.cells (Qe (pushE 1 X7) gr) 25 (0,0),.cells (Qe (pushE 1 X7) kr) 25 (0,0)]
def SA:List Item:=([.code [1,1,1,0,1,0,0],.inLoop [1,1,1,0,1,0,0],.inBlock 2,.code [1,1,1,1]]).map (it (QG YP 34))
def H9:Prop:=∃dJ:Nat->Value,(∀t,Xi (dJ t))/\GoE YP B c0 XW 1 (QA 34 104 (([1,2,3,6,7,10]:List Nat).zip (S8 rf Qa s st gr kr sn gm km)) dJ SA) (Q9 (PZ rf Qa s st gr kr sn gm km)) (2+(PZ rf Qa s st gr kr sn gm km).length) []
theorem H7(B:Lo)(rf:Ql)(Qa:List Int)(i:Int)(st:List Int)(sn:Nat)(Qm:Nat->Value):let g:=Ra rf Qa i st sn;let f:=rf.Qb;let c:=f.getD i.toNat La;let a:=c.count;let d:=Zm rf.Qc a;let h:=YI d;let b:=st++[Zm rf.Qc a];let e:=Qe Q5 b;landM (Qo YP (Q1 YP) J0 B 18 1 (QA 34 104 (([1,2,3,6,7,8]:List Nat).zip (S9 rf Qa i st sn)) Qm SB) (Q9 g) (2+g.length)
 [(4,Z5),(8,Qh.tidx i.toNat (Zp c)),(15,Qh.pure h []),(21,Qh.XD (Hint.app e)),(25,Wy (i+1))] 0 [] []) [1,2,3,6,7,8] [(2,KS.auto),(3,KS.auto),(4,KS.auto),(7,KS.cells [] e)] []=some ⟨34,104,SB,[],.run,none,S9 rf Qa (i+1) b (sn+1),Ra rf Qa (i+1) b (sn+1),
 [Q0 1 [] e e,wq (i+1)=i+1,Rv (Qe Q5 st) #[YI d] e sn (0+1) 8,Qr []/\Qn YP J0 60 #[.agg (ru rf),YI a] h,Kl i f.length (PY rf) Try.t54.size (Zp c),XC i (↑f.length:Int)=true]⟩:=by intro g f c a d h b e;kernel_rfl
def wx(B:Lo)(rf:Ql)(Qa:List Int)(i:Int)(st:List Int)(sn:Nat)(Qm:Nat->Value):List Prop:=[XC i (↑rf.Qb.length:Int)=false]++([]:List Prop)
def wo(i:Int)(st:List Int)(sn:Nat)(Qm:Nat->Value):Q7:=[(4,ZW),(9,Z5),(17,Z5),(21,Qh.tidx 0 (Zp (rf.Qb.getD 0 La))),(31,Qh.tidx 0 (VI Qa))]
def wv:List Prop:=[XC 0 rf.Qd=true]++wx B rf Qa i st sn Qm
def mV:List Prop:=let a:=rf.Qb;[0=(↑0:Int)/\0<Lc Qa/\Lh (Qe Q5 Qa) (0*TypeInfo.size Try.t3) (0*TypeInfo.size Try.t3+TypeInfo.size Try.t3)=(VI Qa),0=(↑0:Int)/\0<Lc a/\Lh (PY rf) (0*TypeInfo.size Try.t54) (0*TypeInfo.size Try.t54+TypeInfo.size Try.t54)=(Zp (a.getD 0 La)),XC 0 (↑a.length:Int)=true]++wv B rf Qa i st sn Qm
theorem H6(B:Lo)(rf:Ql)(Qa:List Int)(i:Int)(st:List Int)(sn:Nat)(Qm:Nat->Value):let e:=Ra rf Qa i st sn;let d:=Qe Q5 st;let c:=Vc rf;let b:=Value.bool true;let a:=[if true=true then c.VV else c.VZ];landM (Qo YP (Q1 YP) J0 B 44 1 (QA 34 104 (([1,2,3,6,7,8]:List Nat).zip (S9 rf Qa i st sn)) Qm SB) (Q9 e) (2+e.length)
 (wo rf Qa i st sn Qm++[(34,Qh.pure b []),(35,Qh.pure (cz rf) []),(46,Qh.tidx 0 (VI Qa)),(49,Qh.pure b []),(50,Qh.pure (cz rf) [])]) 0 [] []) [1,2,3,6,7,10,11,12,13] [(2,KS.auto),(3,KS.auto),(4,KS.auto),(5,KS.cells [] d),(8,KS.cells [] (c6 rf)),(10,KS.cells [] (rq rf))] []=some ⟨34,104,Jw,[],.run,none,Ju rf Qa (1) (st) ([c.Yt]) a (sn) (1) (1),Yx rf Qa (1) (st) ([c.Yt]) a (sn) (1) (1),
 [Q0 1 [] d d,Q0 1 [] ((fO rf)) (fM rf),Q0 1 [] ((rz rf)) (rv rf),Qr []/\Qn YP J0 61 (fP rf) (fL rf),Qr []/\Qn YP J0 47 (fN Qa) b,0=(↑0:Int)/\0<Lc Qa/\Lh (Qe Q5 Qa) (0*TypeInfo.size Try.t3) (0*TypeInfo.size Try.t3+TypeInfo.size Try.t3)=(VI Qa),Qr []/\Qn YP J0 61 (fP rf) (fL rf),Qr []/\Qn YP J0 47 (fN Qa) b]++mV B rf Qa i st sn Qm⟩:=by intro e d c b a;kernel_rfl
theorem H5(B:Lo)(rf:Ql)(Qa:List Int)(i:Int)(st:List Int)(sn:Nat)(Qm:Nat->Value):let e:=Ra rf Qa i st sn;let d:=Qe Q5 st;let c:=Vc rf;let b:=Value.bool false;let a:=[if false=true then c.VV else c.VZ];landM (Qo YP (Q1 YP) J0 B 44 1 (QA 34 104 (([1,2,3,6,7,8]:List Nat).zip (S9 rf Qa i st sn)) Qm SB) (Q9 e) (2+e.length)
 (wo rf Qa i st sn Qm++[(34,Qh.pure b []),(35,Qh.pure (cy rf) []),(46,Qh.tidx 0 (VI Qa)),(49,Qh.pure b []),(50,Qh.pure (cy rf) [])]) 0 [] []) [1,2,3,6,7,10,11,12,13] [(2,KS.auto),(3,KS.auto),(4,KS.auto),(5,KS.cells [] d),(8,KS.cells [] (c6 rf)),(10,KS.cells [] (rr rf))] []=some ⟨34,104,Jw,[],.run,none,Ju rf Qa (1) (st) ([c.Yt]) a (sn) (1) (1),Yx rf Qa (1) (st) ([c.Yt]) a (sn) (1) (1),
 [Q0 1 [] d d,Q0 1 [] ((fO rf)) (fM rf),Q0 1 [] ((r3 rf)) (ry rf),Qr []/\Qn YP J0 61 (fQ rf) (fK rf),Qr []/\Qn YP J0 47 (fN Qa) b,0=(↑0:Int)/\0<Lc Qa/\Lh (Qe Q5 Qa) (0*TypeInfo.size Try.t3) (0*TypeInfo.size Try.t3+TypeInfo.size Try.t3)=(VI Qa),Qr []/\Qn YP J0 61 (fQ rf) (fK rf),Qr []/\Qn YP J0 47 (fN Qa) b]++mV B rf Qa i st sn Qm⟩:=by intro e d c b a;kernel_rfl
def mU(B:Lo)(rf:Ql)(Qa:List Int)(i:Int)(st gs ks:List Int)(sn gn kn:Nat)(Qm:Nat->Value):List Prop:=let a:=rf.Qb;[0=(↑0:Int)/\0<Lc Qa/\Lh (Qe Q5 Qa) (0*TypeInfo.size Try.t3) (0*TypeInfo.size Try.t3+TypeInfo.size Try.t3)=(VI Qa),Kl i a.length (PY rf) Try.t54.size (Zp (a.getD i.toNat La)),XC i (↑a.length:Int)=true]++([]:List Prop)
def wm(st gs ks:List Int)(sn gn kn:Nat)(Qm:Nat->Value):Q7:=[(4,Z5),(8,Qh.tidx i.toNat (Zp (rf.Qb.getD i.toNat La))),(18,Qh.tidx 0 (VI Qa))]
theorem H4(B:Lo)(rf:Ql)(Qa:List Int)(i:Int)(st gs ks:List Int)(sn gn kn:Nat)(Qm:Nat->Value):let k:=Qa.getD 0 La;let j:=Qe Q5 st;let h:=Yx rf Qa i st gs ks sn gn kn;let e:=Value.bool true;let a:=rf.Qb.getD i.toNat La;let g:=gs++[a.Yt];let d:=Value.agg (fR a);let c:=Qe Q5 g;let b:=ks++[if true=true then a.VV else a.VZ];let f:=Qe Q5 b;landM (Qo YP (Q1 YP) J0 B 20 1 (QA 34 104 (([1,2,3,6,7,10,11,12,13]:List Nat).zip (Ju rf Qa i st gs ks sn gn kn)) Qm Jw) (Q9 h) (2+h.length)
 (wm rf Qa i st gs ks sn gn kn Qm++[(21,Qh.pure e []),(22,Qh.pure d []),(33,Qh.tidx 0 (VI Qa)),(36,Qh.pure e []),(37,Qh.pure d []),(44,Qh.XD (Hint.app c)),(48,Qh.XD (Hint.app f)),(52,Wy (i+1))]) 0 [] []) [1,2,3,6,7,10,11,12,13] [(2,KS.auto),(3,KS.auto),(4,KS.auto),(5,KS.cells [] j),(10,KS.cells [] c),(12,KS.cells [] f)] []=some ⟨34,104,Jw,[],.run,none,Ju rf Qa (i+1) (st) g b (sn) (gn+1) (kn+1),Yx rf Qa (i+1) (st) g b (sn) (gn+1) (kn+1),
 [Q0 1 [] j j,Q0 1 [] c c,Q0 1 [] f f,wq (i+1)=i+1,Rv (Qe Q5 ks) #[YI (if true=true then a.VV else a.VZ)] f kn (0+1) 8,Rv (Qe Q5 gs) #[YI a.Yt] c gn (0+1) 8,Qr []/\Qn YP J0 61 #[.agg (Zp a),.bool true] d,Qr []/\Qn YP J0 47 #[YI k,YI i] e,0=(↑0:Int)/\0<Lc Qa/\Lh (Qe Q5 Qa) (0*TypeInfo.size Try.t3) (0*TypeInfo.size Try.t3+TypeInfo.size Try.t3)=(VI Qa),Qr []/\Qn YP J0 61 #[.agg (Zp a),.bool true] d,Qr []/\Qn YP J0 47 #[YI k,YI i] e]++mU B rf Qa i st gs ks sn gn kn Qm⟩:=by intro k j h e a g d c b f;kernel_rfl
theorem H3(B:Lo)(rf:Ql)(Qa:List Int)(i:Int)(st gs ks:List Int)(sn gn kn:Nat)(Qm:Nat->Value):let k:=Qa.getD 0 La;let j:=Qe Q5 st;let h:=Yx rf Qa i st gs ks sn gn kn;let e:=Value.bool false;let a:=rf.Qb.getD i.toNat La;let g:=gs++[a.Yt];let d:=Value.agg (fS a);let c:=Qe Q5 g;let b:=ks++[if false=true then a.VV else a.VZ];let f:=Qe Q5 b;landM (Qo YP (Q1 YP) J0 B 20 1 (QA 34 104 (([1,2,3,6,7,10,11,12,13]:List Nat).zip (Ju rf Qa i st gs ks sn gn kn)) Qm Jw) (Q9 h) (2+h.length)
 (wm rf Qa i st gs ks sn gn kn Qm++[(21,Qh.pure e []),(22,Qh.pure d []),(33,Qh.tidx 0 (VI Qa)),(36,Qh.pure e []),(37,Qh.pure d []),(44,Qh.XD (Hint.app c)),(48,Qh.XD (Hint.app f)),(52,Wy (i+1))]) 0 [] []) [1,2,3,6,7,10,11,12,13] [(2,KS.auto),(3,KS.auto),(4,KS.auto),(5,KS.cells [] j),(10,KS.cells [] c),(12,KS.cells [] f)] []=some ⟨34,104,Jw,[],.run,none,Ju rf Qa (i+1) (st) g b (sn) (gn+1) (kn+1),Yx rf Qa (i+1) (st) g b (sn) (gn+1) (kn+1),
 [Q0 1 [] j j,Q0 1 [] c c,Q0 1 [] f f,wq (i+1)=i+1,Rv (Qe Q5 ks) #[YI (if false=true then a.VV else a.VZ)] f kn (0+1) 8,Rv (Qe Q5 gs) #[YI a.Yt] c gn (0+1) 8,Qr []/\Qn YP J0 61 #[.agg (Zp a),.bool false] d,Qr []/\Qn YP J0 47 #[YI k,YI i] e,0=(↑0:Int)/\0<Lc Qa/\Lh (Qe Q5 Qa) (0*TypeInfo.size Try.t3) (0*TypeInfo.size Try.t3+TypeInfo.size Try.t3)=(VI Qa),Qr []/\Qn YP J0 61 #[.agg (Zp a),.bool false] d,Qr []/\Qn YP J0 47 #[YI k,YI i] e]++mU B rf Qa i st gs ks sn gn kn Qm⟩:=by intro k j h e a g d c b f;kernel_rfl
theorem Hz(B:Lo)(rf:Ql)(Qa:List Int)(i:Int)(st gs ks:List Int)(sn gn kn:Nat)(Qm:Nat->Value):let f:=[{n:=kn,l:=ks}];let e:=[{n:=gn,l:=gs}];let d:=Qe Q5 st;let c:=Yx rf Qa i st gs ks sn gn kn;let b:=Qe (pushE 1 X7) [{n:=kn,l:=ks}];let a:=Qe (pushE 1 X7) [{n:=gn,l:=gs}];landM (Qo YP (Q1 YP) J0 B 9 1 (QA 34 104 (([1,2,3,6,7,10,11,12,13]:List Nat).zip (Ju rf Qa i st gs ks sn gn kn)) Qm Jw) (Q9 c) (2+c.length)
 [(4,ZW)] 0 [] []) [1,2,3,6,7,10] [(2,KS.auto),(3,KS.auto),(4,KS.auto),(5,KS.cells [] d),(9,KS.rows [] [6] [] a),(11,KS.rows [] [7] [] b)] [{k:=6,rs:=[],cs:=Qe Q5 gs},{k:=7,rs:=[],cs:=Qe Q5 ks}]=some ⟨34,104,SA,[],.run,none,S8 rf Qa (1) (st) e f (sn) (1) (1),PZ rf Qa (1) (st) e f (sn) (1) (1),
 [Q0 1 [] d d,Xj 1 [] [(6,Fz.cs {k:=6,rs:=[],cs:=Qe Q5 gs})] [] #[.slice (some {block:=6,off:=0}) gn 1] a,X8 (Fz.rs {k:=6,rs:=[],cs:=Qe Q5 gs}) (Qe Q5 gs) (Fz.cs {k:=6,rs:=[],cs:=Qe Q5 gs}),Xj 1 [] [(7,Fz.cs {k:=7,rs:=[],cs:=Qe Q5 ks})] [] #[.slice (some {block:=7,off:=0}) kn 1] b,X8 (Fz.rs {k:=7,rs:=[],cs:=Qe Q5 ks}) (Qe Q5 ks) (Fz.cs {k:=7,rs:=[],cs:=Qe Q5 ks}),XC i (↑rf.Qb.length:Int)=false]⟩:=by intro f e d c b a;kernel_rfl
def mT(B:Lo)(rf:Ql)(Qa:List Int)(s i:Int)(st gs ks:List Int)(gr kr:List RW)(sn gn kn gm km:Nat)(Qm:Nat->Value):List Prop:=let a:=rf.Qb;[Kl s Qa.length (Qe Q5 Qa) Try.t3.size #[YI (Qa.getD s.toNat La)],Kl i a.length (PY rf) Try.t54.size (Zp (a.getD i.toNat La)),XC i (↑a.length:Int)=true]++([]:List Prop)
def wk(st gs ks:List Int)(gr kr:List RW)(sn gn kn gm km:Nat)(Qm:Nat->Value):Q7:=[(4,Z5),(8,Qh.tidx i.toNat (Zp (rf.Qb.getD i.toNat La))),(18,Qh.tidx s.toNat #[YI (Qa.getD s.toNat La)])]
theorem Hy(B:Lo)(rf:Ql)(Qa:List Int)(s i:Int)(st gs ks:List Int)(gr kr:List RW)(sn gn kn gm km:Nat)(Qm:Nat->Value):let l:=Qe Q5 st;let h:=Value.bool true;let g:=Yw rf Qa s i st gs ks gr kr sn gn kn gm km;let e:=pushE 1 X7;let d:=Qa.getD s.toNat La;let a:=rf.Qb.getD i.toNat La;let k:=gs++[a.Yt];let f:=Value.agg (fR a);let c:=Qe Q5 k;let b:=ks++[if true=true then a.VV else a.VZ];let j:=Qe Q5 b;landM (Qo YP (Q1 YP) J0 B 20 1 (QA 34 104 (([1,2,3,6,7,10,11,12,13]:List Nat).zip (Jt rf Qa s i st gs ks gr kr sn gn kn gm km)) Qm Jv) (Q9 g) (2+g.length)
 (wk rf Qa s i st gs ks gr kr sn gn kn gm km Qm++[(21,Qh.pure h []),(22,Qh.pure f []),(33,Qh.tidx s.toNat #[YI d]),(36,Qh.pure h []),(37,Qh.pure f []),(44,Qh.XD (Hint.app c)),(48,Qh.XD (Hint.app j)),(52,Wy (i+1))]) 0 [] []) [1,2,3,6,7,10,11,12,13] [(2,KS.auto),(3,KS.auto),(4,KS.auto),(5,KS.cells [] l),(6,KS.rows [(1,1)] [] [] (Qe e gr)),(7,KS.rows [(1,1)] [] [] (Qe e kr)),(12,KS.cells [] c),(14,KS.cells [] j)] []=some ⟨34,104,Jv,[],.run,none,Jt rf Qa (s) (i+1) (st) k b (gr) (kr) (sn) (gn+1) (kn+1) (gm) (km),Yw rf Qa (s) (i+1) (st) k b (gr) (kr) (sn) (gn+1) (kn+1) (gm) (km),
 [Q0 1 [] l l,Xj 1 [(1,1)] [] [] (Qe e gr) (Qe e gr),Xj 1 [(1,1)] [] [] (Qe e kr) (Qe e kr),Q0 1 [] c c,Q0 1 [] j j,wq (i+1)=i+1,Rv (Qe Q5 ks) #[YI (if true=true then a.VV else a.VZ)] j kn (0+1) 8,Rv (Qe Q5 gs) #[YI a.Yt] c gn (0+1) 8,Qr []/\Qn YP J0 61 #[.agg (Zp a),.bool true] f,Qr []/\Qn YP J0 47 #[YI d,YI i] h,Kl s Qa.length (Qe Q5 Qa) Try.t3.size #[YI d],Qr []/\Qn YP J0 61 #[.agg (Zp a),.bool true] f,Qr []/\Qn YP J0 47 #[YI d,YI i] h]++mT B rf Qa s i st gs ks gr kr sn gn kn gm km Qm⟩:=by intro l h g e d a k f c b j;kernel_rfl
theorem Hx(B:Lo)(rf:Ql)(Qa:List Int)(s i:Int)(st gs ks:List Int)(gr kr:List RW)(sn gn kn gm km:Nat)(Qm:Nat->Value):let l:=Qe Q5 st;let h:=Value.bool false;let g:=Yw rf Qa s i st gs ks gr kr sn gn kn gm km;let e:=pushE 1 X7;let d:=Qa.getD s.toNat La;let a:=rf.Qb.getD i.toNat La;let k:=gs++[a.Yt];let f:=Value.agg (fS a);let c:=Qe Q5 k;let b:=ks++[if false=true then a.VV else a.VZ];let j:=Qe Q5 b;landM (Qo YP (Q1 YP) J0 B 20 1 (QA 34 104 (([1,2,3,6,7,10,11,12,13]:List Nat).zip (Jt rf Qa s i st gs ks gr kr sn gn kn gm km)) Qm Jv) (Q9 g) (2+g.length)
 (wk rf Qa s i st gs ks gr kr sn gn kn gm km Qm++[(21,Qh.pure h []),(22,Qh.pure f []),(33,Qh.tidx s.toNat #[YI d]),(36,Qh.pure h []),(37,Qh.pure f []),(44,Qh.XD (Hint.app c)),(48,Qh.XD (Hint.app j)),(52,Wy (i+1))]) 0 [] []) [1,2,3,6,7,10,11,12,13] [(2,KS.auto),(3,KS.auto),(4,KS.auto),(5,KS.cells [] l),(6,KS.rows [(1,1)] [] [] (Qe e gr)),(7,KS.rows [(1,1)] [] [] (Qe e kr)),(12,KS.cells [] c),(14,KS.cells [] j)] []=some ⟨34,104,Jv,[],.run,none,Jt rf Qa (s) (i+1) (st) k b (gr) (kr) (sn) (gn+1) (kn+1) (gm) (km),Yw rf Qa (s) (i+1) (st) k b (gr) (kr) (sn) (gn+1) (kn+1) (gm) (km),
 [Q0 1 [] l l,Xj 1 [(1,1)] [] [] (Qe e gr) (Qe e gr),Xj 1 [(1,1)] [] [] (Qe e kr) (Qe e kr),Q0 1 [] c c,Q0 1 [] j j,wq (i+1)=i+1,Rv (Qe Q5 ks) #[YI (if false=true then a.VV else a.VZ)] j kn (0+1) 8,Rv (Qe Q5 gs) #[YI a.Yt] c gn (0+1) 8,Qr []/\Qn YP J0 61 #[.agg (Zp a),.bool false] f,Qr []/\Qn YP J0 47 #[YI d,YI i] h,Kl s Qa.length (Qe Q5 Qa) Try.t3.size #[YI d],Qr []/\Qn YP J0 61 #[.agg (Zp a),.bool false] f,Qr []/\Qn YP J0 47 #[YI d,YI i] h]++mT B rf Qa s i st gs ks gr kr sn gn kn gm km Qm⟩:=by intro l h g e d a k f c b j;kernel_rfl
theorem Hw(B:Lo)(rf:Ql)(Qa:List Int)(s i:Int)(st gs ks:List Int)(gr kr:List RW)(sn gn kn gm km:Nat)(Qm:Nat->Value):let j:=Qe Q5 st;let h:=some {block:=8,off:=0};let g:=some {block:=9,off:=0};let f:=Yw rf Qa s i st gs ks gr kr sn gn kn gm km;let e:=kr++[{n:=kn,l:=ks}];let d:=gr++[{n:=gn,l:=gs}];let c:=pushE 1 X7;let b:=Qe c kr++#[.slice g kn 1];let a:=Qe c gr++#[.slice h gn 1];landM (Qo YP (Q1 YP) J0 B 9 1 (QA 34 104 (([1,2,3,6,7,10,11,12,13]:List Nat).zip (Jt rf Qa s i st gs ks gr kr sn gn kn gm km)) Qm Jv) (Q9 f) (2+f.length)
 [(4,ZW),(9,Qh.XD (Hint.app a)),(14,Qh.XD (Hint.app b)),(20,Wy (s+1))] 0 [] []) [1,2,3,6,7,10] [(2,KS.auto),(3,KS.auto),(4,KS.auto),(5,KS.cells [] j),(11,KS.rows [(1,1)] [8] [] (Qe c d)),(13,KS.rows [(1,1)] [9] [] (Qe c e))] [{k:=8,rs:=[],cs:=Qe Q5 gs},{k:=9,rs:=[],cs:=Qe Q5 ks}]=some ⟨34,104,SA,[],.run,none,S8 rf Qa (s+1) (st) d e (sn) (gm+1) (km+1),PZ rf Qa (s+1) (st) d e (sn) (gm+1) (km+1),
 [Q0 1 [] j j,Xj 1 [(1,1)] [(8,Fz.cs {k:=8,rs:=[],cs:=Qe Q5 gs})] [] a (Qe c d),X8 (Fz.rs {k:=8,rs:=[],cs:=Qe Q5 gs}) (Qe Q5 gs) (Fz.cs {k:=8,rs:=[],cs:=Qe Q5 gs}),Xj 1 [(1,1)] [(9,Fz.cs {k:=9,rs:=[],cs:=Qe Q5 ks})] [] b (Qe c e),X8 (Fz.rs {k:=9,rs:=[],cs:=Qe Q5 ks}) (Qe Q5 ks) (Fz.cs {k:=9,rs:=[],cs:=Qe Q5 ks}),wq (s+1)=s+1,Rv ((Qe c kr)) #[.slice g kn 1] b km (0+1) 24,Rv ((Qe c gr)) #[.slice h gn 1] a gm (0+1) 24,XC i (↑rf.Qb.length:Int)=false]⟩:=by intro j h g f e d c b a;kernel_rfl
def wu(B:Lo)(rf:Ql)(Qa:List Int)(s:Int)(st:List Int)(gr kr:List RW)(sn gm km:Nat)(Qm:Nat->Value):List Prop:=[XC s rf.Qd=true]++([]:List Prop)
def wj(st:List Int)(gr kr:List RW)(sn gm km:Nat)(Qm:Nat->Value):Q7:=[(3,Z5),(11,Z5),(15,Qh.tidx 0 (Zp (rf.Qb.getD 0 La))),(25,Qh.tidx s.toNat #[YI (Qa.getD s.toNat La)])]
def mS:List Prop:=let a:=rf.Qb;[Kl s Qa.length (Qe Q5 Qa) Try.t3.size #[YI (Qa.getD s.toNat La)],0=(↑0:Int)/\0<Lc a/\Lh (PY rf) (0*TypeInfo.size Try.t54) (0*TypeInfo.size Try.t54+TypeInfo.size Try.t54)=(Zp (a.getD 0 La)),XC 0 (↑a.length:Int)=true]++wu B rf Qa s st gr kr sn gm km Qm
theorem Hv(B:Lo)(rf:Ql)(Qa:List Int)(s:Int)(st:List Int)(gr kr:List RW)(sn gm km:Nat)(Qm:Nat->Value):let g:=Qe Q5 st;let f:=Vc rf;let e:=PZ rf Qa s st gr kr sn gm km;let d:=Value.bool true;let c:=pushE 1 X7;let b:=[if true=true then f.VV else f.VZ];let a:=Qa.getD s.toNat La;landM (Qo YP (Q1 YP) J0 B 34 1 (QA 34 104 (([1,2,3,6,7,10]:List Nat).zip (S8 rf Qa s st gr kr sn gm km)) Qm SA) (Q9 e) (2+e.length)
 (wj rf Qa s st gr kr sn gm km Qm++[(28,Qh.pure d []),(29,Qh.pure (cz rf) []),(40,Qh.tidx s.toNat #[YI a]),(43,Qh.pure d []),(44,Qh.pure (cz rf) [])]) 0 [] []) [1,2,3,6,7,10,11,12,13] [(2,KS.auto),(3,KS.auto),(4,KS.auto),(5,KS.cells [] g),(6,KS.rows [(1,1)] [] [] (Qe c gr)),(7,KS.rows [(1,1)] [] [] (Qe c kr)),(10,KS.cells [] (c6 rf)),(12,KS.cells [] (rq rf))] []=some ⟨34,104,Jv,[],.run,none,Jt rf Qa (s) (1) (st) ([f.Yt]) b (gr) (kr) (sn) (1) (1) (gm) (km),Yw rf Qa (s) (1) (st) ([f.Yt]) b (gr) (kr) (sn) (1) (1) (gm) (km),
 [Q0 1 [] g g,Xj 1 [(1,1)] [] [] (Qe c gr) (Qe c gr),Xj 1 [(1,1)] [] [] (Qe c kr) (Qe c kr),Q0 1 [] ((fO rf)) (fM rf),Q0 1 [] ((rz rf)) (rv rf),Qr []/\Qn YP J0 61 (fP rf) (fL rf),Qr []/\Qn YP J0 47 #[YI a,YI 0] d,Kl s Qa.length (Qe Q5 Qa) Try.t3.size #[YI a],Qr []/\Qn YP J0 61 (fP rf) (fL rf),Qr []/\Qn YP J0 47 #[YI a,YI 0] d]++mS B rf Qa s st gr kr sn gm km Qm⟩:=by intro g f e d c b a;kernel_rfl
theorem E9(B:Lo)(rf:Ql)(Qa:List Int)(s:Int)(st:List Int)(gr kr:List RW)(sn gm km:Nat)(Qm:Nat->Value):let g:=Qe Q5 st;let f:=Vc rf;let e:=PZ rf Qa s st gr kr sn gm km;let d:=Value.bool false;let c:=pushE 1 X7;let b:=[if false=true then f.VV else f.VZ];let a:=Qa.getD s.toNat La;landM (Qo YP (Q1 YP) J0 B 34 1 (QA 34 104 (([1,2,3,6,7,10]:List Nat).zip (S8 rf Qa s st gr kr sn gm km)) Qm SA) (Q9 e) (2+e.length)
 (wj rf Qa s st gr kr sn gm km Qm++[(28,Qh.pure d []),(29,Qh.pure (cy rf) []),(40,Qh.tidx s.toNat #[YI a]),(43,Qh.pure d []),(44,Qh.pure (cy rf) [])]) 0 [] []) [1,2,3,6,7,10,11,12,13] [(2,KS.auto),(3,KS.auto),(4,KS.auto),(5,KS.cells [] g),(6,KS.rows [(1,1)] [] [] (Qe c gr)),(7,KS.rows [(1,1)] [] [] (Qe c kr)),(10,KS.cells [] (c6 rf)),(12,KS.cells [] (rr rf))] []=some ⟨34,104,Jv,[],.run,none,Jt rf Qa (s) (1) (st) ([f.Yt]) b (gr) (kr) (sn) (1) (1) (gm) (km),Yw rf Qa (s) (1) (st) ([f.Yt]) b (gr) (kr) (sn) (1) (1) (gm) (km),
 [Q0 1 [] g g,Xj 1 [(1,1)] [] [] (Qe c gr) (Qe c gr),Xj 1 [(1,1)] [] [] (Qe c kr) (Qe c kr),Q0 1 [] ((fO rf)) (fM rf),Q0 1 [] ((r3 rf)) (ry rf),Qr []/\Qn YP J0 61 (fQ rf) (fK rf),Qr []/\Qn YP J0 47 #[YI a,YI 0] d,Kl s Qa.length (Qe Q5 Qa) Try.t3.size #[YI a],Qr []/\Qn YP J0 61 (fQ rf) (fK rf),Qr []/\Qn YP J0 47 #[YI a,YI 0] d]++mS B rf Qa s st gr kr sn gm km Qm⟩:=by intro g f e d c b a;kernel_rfl
theorem E8(B:Lo)(rf:Ql)(Qa:List Int)(s:Int)(st:List Int)(gr kr:List RW)(sn gm km:Nat)(Qm:Nat->Value):let d:=PZ rf Qa s st gr kr sn gm km;let c:=Fz.cs {k:=5,rs:=[],cs:=Qe Q5 st};let b:=Fz.cs {k:=7,rs:=[1],cs:=Qe X7 kr};let a:=Fz.cs {k:=6,rs:=[1],cs:=Qe X7 gr};QO (Qo YP (Q1 YP) J0 B 9 1 (QA 34 104 (([1,2,3,6,7,10]:List Nat).zip (S8 rf Qa s st gr kr sn gm km)) Qm SA) (Q9 d) (2+d.length)
 [(3,ZW)] 0 [] []) [{k:=5,rs:=[],cs:=Qe Q5 st},{k:=6,rs:=[1],cs:=Qe X7 gr},{k:=7,rs:=[1],cs:=Qe X7 kr}]=some (.agg #[QC sn c,QC gm a,QC km b],
 [X8 (Fz.rs {k:=5,rs:=[],cs:=Qe Q5 st}) (Qe Q5 st) c,X8 (Fz.rs {k:=6,rs:=[1],cs:=Qe X7 gr}) (Qe (pushE 1 X7) gr) a,X8 (Fz.rs {k:=7,rs:=[1],cs:=Qe X7 kr}) (Qe (pushE 1 X7) kr) b,XC s rf.Qd=false]):=by intro d c b a;kernel_rfl
theorem E7(B:Lo)(rf:Ql)(Qa:List Int):let d:=rf.Qb;let c:=Qg.count (Vc rf);let b:=rf.Qc;let a:=Qg.count (d.getD 0 La);landM (Qo YP (Q1 YP) J0 B 27 1 (Qp YP 34 104 (([.agg (Qv rf).toArray,XH Qa,.bool true]).map (Q2 0 4))) XW 1
 [(8,Z5),(12,Qh.tidx 0 (Zp (Vc rf))),(19,Qh.pure (YI (Zm b c)) [])] 0 [] []) [1,2,3,6,7,8] [(1,KS.auto),(2,KS.auto),(3,KS.auto),(5,KS.cells [] (Qe Q5 [Zm b c]))] []=some ⟨34,104,SB,[],.run,none,S9 rf Qa (1) ([Zm b c]) (1),Ra rf Qa (1) ([Zm b c]) (1),
 [Q0 1 [] (#[YI (Zm b a)]) (Qe Q5 [Zm b a]),Qr []/\Qn YP J0 60 #[.agg (ru rf),YI a] (YI (Zm b a)),0=(↑0:Int)/\0<Lc d/\Lh (PY rf) (0*TypeInfo.size Try.t54) (0*TypeInfo.size Try.t54+TypeInfo.size Try.t54)=(Zp (d.getD 0 La)),XC 0 (↑d.length:Int)=true]⟩:=by intro d c b a;kernel_rfl
end
set_option maxHeartbeats 4000000 in
theorem H8(rf:Ql)(Qa:List Int)(hr:XM rf=true)(hp:Xo rf Qa=true){B:Lo}(hJ:∀w,B.has w->J0 w){c0:CF}:∀m:Nat,(∀(i:Int) (st:List Int) (sn:Nat),10000+(rf.Qb.length-i.toNat)=m->∀(h0:1<=i) (h1:i<=rf.Qb.length) (hsn:sn=st.length) (ZB:st=aC (sV true rf) i),HC B c0 rf Qa i st sn->EndsT YP B c0 (c7 rf Qa))/\(∀(i:Int) (st gs ks:List Int) (sn gn kn:Nat),9000+(rf.Qb.length-i.toNat)=m->∀(h0:1<=i) (h1:i<=rf.Qb.length) (hsn:sn=st.length) (ZB:st=Zs rf) (Jb:gn=gs.length) (hg:gs=aC (gV true rf) i) (hkn:kn=ks.length) (hk:ks=aC (kV true rf (Qa.getD 0 0)) i),HB B c0 rf Qa i st gs ks sn gn kn->EndsT YP B c0 (c7 rf Qa))/\(∀(s i:Int) (st gs ks:List Int) (gr kr:List RW) (sn gn kn gm km:Nat),100*(rf.Qd-s).toNat+(rf.Qb.length-i.toNat)=m->∀(s0:1<=s) (s1:s<rf.Qd) (h0:1<=i) (h1:i<=rf.Qb.length) (hsn:sn=st.length) (ZB:st=Zs rf) (hgm:gm=gr.length) (hgr:gr=(Yq 0 s).map fun _=>⟨rf.Qb.length,Pn rf⟩) (hkm:km=kr.length) (hkr:kr=(Yq 0 s).map fun z=>⟨rf.Qb.length,Pf rf (Qa.getD z.toNat 0)⟩) (Jb:gn=gs.length) (hg:gs=aC (gV true rf) i) (hkn:kn=ks.length) (hk:ks=aC (kV true rf (Qa.getD s.toNat 0)) i),HA B c0 rf Qa s i st gs ks gr kr sn gn kn gm km->EndsT YP B c0 (c7 rf Qa))/\(∀(s:Int) (st:List Int) (gr kr:List RW) (sn gm km:Nat),100*(rf.Qd-s).toNat+99=m->∀(s0:1<=s) (s1:s<=rf.Qd) (hsn:sn=st.length) (ZB:st=Zs rf) (hgm:gm=gr.length) (hgr:gr=(Yq 0 s).map fun _=>⟨rf.Qb.length,Pn rf⟩) (hkm:km=kr.length) (hkr:kr=(Yq 0 s).map fun z=>⟨rf.Qb.length,Pf rf (Qa.getD z.toNat 0)⟩),H9 B c0 rf Qa s st gr kr sn gm km->EndsT YP B c0 (c7 rf Qa)):=by
 intro m0;induction m0 using Lz with
 |_ m0 ih0=>
  refine⟨?_, ?_, ?_, ?_⟩
  ·intro i st sn YA h0 h1 hsn ZB ⟨Qm,ZF,Xs⟩;have ZA:=Q4 (Q8 hr).1;have hsl0:=fB (rf:=rf);have hpq:0<=Qa.getD 0 La/\Qa.getD 0 La<=1000000000:=by have:=Zj hr hp 0;show 0<=Qa.getD 0 0/\Qa.getD 0 0<=1000000000;omega
   have hpf:=(XU hp).1;have hpq:0<=Qa.getD 0 La/\Qa.getD 0 La<=1000000000:=by have:=Zj hr hp 0;show 0<=Qa.getD 0 0/\Qa.getD 0 0<=1000000000;omega
   have hsl:(st.length:Int)=i:=by rw[ZB];exact Ko (by omega)
   by_cases q0:(i:Int)<((↑rf.Qb.length:Int))
   ·have hci:=(Zx ((Q8 hr).2 i (by omega) q0).1).1;exact((ih0 _ (by omega)).1 (i+1) (st++[Zm rf.Qc (Qg.count (rf.Qb.getD i.toNat La))]) (sn+1) rfl (by omega) (by omega) (by(simp only[Li,Lk,Lt];omega)) (by(rw[ZB];exact Zv (by omega)))
     (Xs.landM okF hJ Qf (H7 B rf Qa i st sn Qm)
     ⟨(Zf fun _=>by rfl),⟨(QY (by omega) (by omega)),⟨⟨(by(rw[QZ (z:=1) (fun _=>rfl)];first|omega|(simp;omega)|(simp_all;done))),(by unfold maxLen;omega),by omega,by first|exact X1|exact Xq rfl⟩,⟨⟨trivial,Hu (rf) (Qg.count (rf.Qb.getD i.toNat La)) (by omega) (by omega)⟩,⟨⟨by omega,by omega,(Qs (z:=12) (fun _=>rfl) (by omega))⟩,⟨(Xd q0),trivial⟩⟩⟩⟩⟩⟩ (by kernel_rfl) (by kernel_rfl))).cast (by rfl)
   ·have Vw:Qr (wx B rf Qa i st sn Qm):=by
     exact⟨(X9 (Int.not_lt.1 q0)),trivial⟩
    by_cases q1:(0:Int)<rf.Qd
    ·have UP:Qr (wv B rf Qa i st sn Qm):=by
      exact⟨(Xd q1),Vw⟩
     by_cases q2:(0:Int)<((↑rf.Qb.length:Int))
     ·have Pb:Qr (mV B rf Qa i st sn Qm):=by
       exact⟨⟨by omega,by omega,(Qs (z:=1) (fun _=>rfl) (by omega))⟩,⟨⟨by omega,by omega,(Qs (z:=12) (fun _=>rfl) (by omega))⟩,⟨(Xd q2),UP⟩⟩⟩
      cases q3:hasB (Qa.getD 0 La) 0 with
      |true=>
       have hse:st=Zs rf:=by rw[ZB,show i=rf.Qb.length by omega];exact sH (b:=true)
       exact((ih0 _ (by omega)).2.1 (1) (st) ([Qg.Yt (rf.Qb.getD 0 La)]) ([if true=true then Qg.VV (rf.Qb.getD 0 La)else Qg.VZ (rf.Qb.getD 0 La)]) (sn) (1) (1) rfl (by omega) (by omega) (by with_reducible assumption) (by with_reducible assumption) (by rfl) (by rfl) (by rfl) (by(rw[Pa];exact congrArg (fun z=>[z]) (DR (k:=0) (by assumption)).symm))
        (Xs.landM okF hJ Qf (H6 B rf Qa i st sn Qm)
        ⟨(Zf fun _=>by rfl),⟨(Xt (by kernel_rfl)),⟨(Xt (by kernel_rfl)),⟨⟨trivial,Wq (rf.Qb.getD 0 La) (true)⟩,⟨⟨trivial,(by have t_:=Pr (Qa.getD 0 La) (0) (by with_reducible assumption) (by omega);rw[q3]at t_;exact t_)⟩,⟨⟨by omega,by omega,(Qs (z:=1) (fun _=>rfl) (by omega))⟩,⟨⟨trivial,Wq (rf.Qb.getD 0 La) (true)⟩,⟨⟨trivial,(by have t_:=Pr (Qa.getD 0 La) (0) (by with_reducible assumption) (by omega);rw[q3]at t_;exact t_)⟩,Pb⟩⟩⟩⟩⟩⟩⟩⟩ (by kernel_rfl) (by kernel_rfl))).cast (by rfl)
      |false=>
       have hse:st=Zs rf:=by rw[ZB,show i=rf.Qb.length by omega];exact sH (b:=true)
       exact((ih0 _ (by omega)).2.1 (1) (st) ([Qg.Yt (rf.Qb.getD 0 La)]) ([if false=true then Qg.VV (rf.Qb.getD 0 La)else Qg.VZ (rf.Qb.getD 0 La)]) (sn) (1) (1) rfl (by omega) (by omega) (by with_reducible assumption) (by with_reducible assumption) (by rfl) (by rfl) (by rfl) (by(rw[Pa];exact congrArg (fun z=>[z]) (DS (k:=0) (by assumption)).symm))
        (Xs.landM okF hJ Qf (H5 B rf Qa i st sn Qm)
        ⟨(Zf fun _=>by rfl),⟨(Xt (by kernel_rfl)),⟨(Xt (by kernel_rfl)),⟨⟨trivial,Wq (rf.Qb.getD 0 La) (false)⟩,⟨⟨trivial,(by have t_:=Pr (Qa.getD 0 La) (0) (by with_reducible assumption) (by omega);rw[q3]at t_;exact t_)⟩,⟨⟨by omega,by omega,(Qs (z:=1) (fun _=>rfl) (by omega))⟩,⟨⟨trivial,Wq (rf.Qb.getD 0 La) (false)⟩,⟨⟨trivial,(by have t_:=Pr (Qa.getD 0 La) (0) (by with_reducible assumption) (by omega);rw[q3]at t_;exact t_)⟩,Pb⟩⟩⟩⟩⟩⟩⟩⟩ (by kernel_rfl) (by kernel_rfl))).cast (by rfl)
     ·exfalso
      (have ZA:=Q4 (Q8 hr).1;omega)
    ·exfalso
     (have ZA:=Q4 (Q8 hr).1;omega)
  ·intro i st gs ks sn gn kn YA h0 h1 hsn ZB Jb hg hkn hk ⟨Qm,ZF,Xs⟩;have ZA:=Q4 (Q8 hr).1;have hsl0:=fB (rf:=rf);have hpq:0<=Qa.getD 0 La/\Qa.getD 0 La<=1000000000:=by have:=Zj hr hp 0;show 0<=Qa.getD 0 0/\Qa.getD 0 0<=1000000000;omega
   have hpf:=(XU hp).1;have hpq:0<=Qa.getD 0 La/\Qa.getD 0 La<=1000000000:=by have:=Zj hr hp 0;show 0<=Qa.getD 0 0/\Qa.getD 0 0<=1000000000;omega
   have hgl:(gs.length:Int)=i:=by rw[hg];exact Ko (by omega)
   have hkl:(ks.length:Int)=i:=by rw[hk];exact Ko (by omega)
   by_cases q0:(i:Int)<((↑rf.Qb.length:Int))
   ·have hp3:Qr (mU B rf Qa i st gs ks sn gn kn Qm):=by
     exact⟨⟨by omega,by omega,(Qs (z:=1) (fun _=>rfl) (by omega))⟩,⟨⟨by omega,by omega,(Qs (z:=12) (fun _=>rfl) (by omega))⟩,⟨(Xd q0),trivial⟩⟩⟩
    cases q1:hasB (Qa.getD 0 La) i with
    |true=>
     exact((ih0 _ (by omega)).2.1 (i+1) (st) (gs++[Qg.Yt (rf.Qb.getD i.toNat La)]) (ks++[if true=true then Qg.VV (rf.Qb.getD i.toNat La)else Qg.VZ (rf.Qb.getD i.toNat La)]) (sn) (gn+1) (kn+1) rfl (by omega) (by omega) (by with_reducible assumption) (by with_reducible assumption) (by(simp only[Li,Lk,Lt];omega)) (by(rw[hg];exact Zv (by omega))) (by(simp only[Li,Lk,Lt];omega)) (by(rw[hk,<-Zv (by omega)];exact congrArg (fun z=>_++[z]) (DR (by assumption)).symm))
      (Xs.landM okF hJ Qf (H4 B rf Qa i st gs ks sn gn kn Qm)
      ⟨(Zf fun _=>by rfl),⟨(Zf fun _=>by rfl),⟨(Zf fun _=>by rfl),⟨(QY (by omega) (by omega)),⟨⟨(by(rw[QZ (z:=1) (fun _=>rfl)];first|omega|(simp;omega)|(simp_all;done))),(by unfold maxLen;omega),by omega,by first|exact X1|exact Xq rfl⟩,⟨⟨(by(rw[QZ (z:=1) (fun _=>rfl)];first|omega|(simp;omega)|(simp_all;done))),(by unfold maxLen;omega),by omega,by first|exact X1|exact Xq rfl⟩,⟨⟨trivial,Wq (rf.Qb.getD i.toNat La) (true)⟩,⟨⟨trivial,(by have t_:=Pr (Qa.getD 0 La) (i) (by with_reducible assumption) (by omega);rw[q1]at t_;exact t_)⟩,⟨⟨by omega,by omega,(Qs (z:=1) (fun _=>rfl) (by omega))⟩,⟨⟨trivial,Wq (rf.Qb.getD i.toNat La) (true)⟩,⟨⟨trivial,(by have t_:=Pr (Qa.getD 0 La) (i) (by with_reducible assumption) (by omega);rw[q1]at t_;exact t_)⟩,hp3⟩⟩⟩⟩⟩⟩⟩⟩⟩⟩⟩ (by kernel_rfl) (by kernel_rfl))).cast (by rfl)
    |false=>
     exact((ih0 _ (by omega)).2.1 (i+1) (st) (gs++[Qg.Yt (rf.Qb.getD i.toNat La)]) (ks++[if false=true then Qg.VV (rf.Qb.getD i.toNat La)else Qg.VZ (rf.Qb.getD i.toNat La)]) (sn) (gn+1) (kn+1) rfl (by omega) (by omega) (by with_reducible assumption) (by with_reducible assumption) (by(simp only[Li,Lk,Lt];omega)) (by(rw[hg];exact Zv (by omega))) (by(simp only[Li,Lk,Lt];omega)) (by(rw[hk,<-Zv (by omega)];exact congrArg (fun z=>_++[z]) (DS (by assumption)).symm))
      (Xs.landM okF hJ Qf (H3 B rf Qa i st gs ks sn gn kn Qm)
      ⟨(Zf fun _=>by rfl),⟨(Zf fun _=>by rfl),⟨(Zf fun _=>by rfl),⟨(QY (by omega) (by omega)),⟨⟨(by(rw[QZ (z:=1) (fun _=>rfl)];first|omega|(simp;omega)|(simp_all;done))),(by unfold maxLen;omega),by omega,by first|exact X1|exact Xq rfl⟩,⟨⟨(by(rw[QZ (z:=1) (fun _=>rfl)];first|omega|(simp;omega)|(simp_all;done))),(by unfold maxLen;omega),by omega,by first|exact X1|exact Xq rfl⟩,⟨⟨trivial,Wq (rf.Qb.getD i.toNat La) (false)⟩,⟨⟨trivial,(by have t_:=Pr (Qa.getD 0 La) (i) (by with_reducible assumption) (by omega);rw[q1]at t_;exact t_)⟩,⟨⟨by omega,by omega,(Qs (z:=1) (fun _=>rfl) (by omega))⟩,⟨⟨trivial,Wq (rf.Qb.getD i.toNat La) (false)⟩,⟨⟨trivial,(by have t_:=Pr (Qa.getD 0 La) (i) (by with_reducible assumption) (by omega);rw[q1]at t_;exact t_)⟩,hp3⟩⟩⟩⟩⟩⟩⟩⟩⟩⟩⟩ (by kernel_rfl) (by kernel_rfl))).cast (by rfl)
   ·have hge:gs=Pn rf:=by rw[hg,show i=rf.Qb.length by omega];exact um (b:=true)
    have hke:ks=Pf rf (Qa.getD 0 0):=by rw[hk,show i=rf.Qb.length by omega];exact ug (b:=true)
    exact((ih0 _ (by omega)).2.2.2 (1) (st) ([{n:=gn,l:=gs}]) ([{n:=kn,l:=ks}]) (sn) (1) (1) rfl (by omega) (by omega) (by with_reducible assumption) (by with_reducible assumption) (by rfl) (by(rw[show gn=rf.Qb.length by omega,hge];rfl)) (by rfl) (by(rw[show kn=rf.Qb.length by omega,hke];rfl))
     (Xs.landM okF hJ Qf (Hz B rf Qa i st gs ks sn gn kn Qm)
     (by exact⟨(Zf fun _=>by rfl),⟨(by exact(Rt (by exact⟨(.own (Lj _)),trivial⟩))),⟨(Xc (fun x=>List.all_eq_true.1 (by rfl))),⟨(by exact(Rt (by exact⟨(.own (Lj _)),trivial⟩))),⟨(Xc (fun x=>List.all_eq_true.1 (by rfl))),⟨(X9 (Int.not_lt.1 q0)),trivial⟩⟩⟩⟩⟩⟩) (by kernel_rfl) (by kernel_rfl))).cast (by rfl)
  ·intro s i st gs ks gr kr sn gn kn gm km YA s0 s1 h0 h1 hsn ZB hgm hgr hkm hkr Jb hg hkn hk ⟨Qm,ZF,Xs⟩;have ZA:=Q4 (Q8 hr).1;have hsl0:=fB (rf:=rf);have hpf:=(XU hp).1;have hgl:(gs.length:Int)=i:=by rw[hg];exact Ko (by omega)
   have hkl:(ks.length:Int)=i:=by rw[hk];exact Ko (by omega)
   have hgrl:(gr.length:Int)=s:=by rw[hgr];exact JW (by omega)
   have hkrl:(kr.length:Int)=s:=by rw[hkr];exact JW (by omega)
   have hps:0<=Qa.getD s.toNat La/\Qa.getD s.toNat La<=1000000000:=by have:=Zj hr hp s.toNat;show 0<=Qa.getD s.toNat 0/\Qa.getD s.toNat 0<=1000000000;omega
   by_cases q0:(i:Int)<((↑rf.Qb.length:Int))
   ·have T5:Qr (mT B rf Qa s i st gs ks gr kr sn gn kn gm km Qm):=by
     exact⟨⟨by omega,by omega,(Qs (z:=1) (fun _=>rfl) (by omega))⟩,⟨⟨by omega,by omega,(Qs (z:=12) (fun _=>rfl) (by omega))⟩,⟨(Xd q0),trivial⟩⟩⟩
    cases q1:hasB (Qa.getD s.toNat La) i with
    |true=>
     exact((ih0 _ (by omega)).2.2.1 (s) (i+1) (st) (gs++[Qg.Yt (rf.Qb.getD i.toNat La)]) (ks++[if true=true then Qg.VV (rf.Qb.getD i.toNat La)else Qg.VZ (rf.Qb.getD i.toNat La)]) (gr) (kr) (sn) (gn+1) (kn+1) (gm) (km) rfl (by with_reducible assumption) (by with_reducible assumption) (by omega) (by omega) (by with_reducible assumption) (by with_reducible assumption) (by with_reducible assumption) (by with_reducible assumption) (by with_reducible assumption) (by with_reducible assumption) (by(simp only[Li,Lk,Lt];omega)) (by(rw[hg];exact Zv (by omega))) (by(simp only[Li,Lk,Lt];omega)) (by(rw[hk,<-Zv (by omega)];exact congrArg (fun z=>_++[z]) (DR (by assumption)).symm))
      (Xs.landM okF hJ Qf (Hy B rf Qa s i st gs ks gr kr sn gn kn gm km Qm)
      ⟨(Zf fun _=>by rfl),⟨(by exact(Xe (Xz (by exact fun _=>rfl)) (Lj _))),⟨(by exact(Xe (Xz (by exact fun _=>rfl)) (Lj _))),⟨(Zf fun _=>by rfl),⟨(Zf fun _=>by rfl),⟨(QY (by omega) (by omega)),⟨⟨(by(rw[QZ (z:=1) (fun _=>rfl)];first|omega|(simp;omega)|(simp_all;done))),(by unfold maxLen;omega),by omega,by first|exact X1|exact Xq rfl⟩,⟨⟨(by(rw[QZ (z:=1) (fun _=>rfl)];first|omega|(simp;omega)|(simp_all;done))),(by unfold maxLen;omega),by omega,by first|exact X1|exact Xq rfl⟩,⟨⟨trivial,Wq (rf.Qb.getD i.toNat La) (true)⟩,⟨⟨trivial,(by have t_:=Pr (Qa.getD s.toNat La) (i) (by with_reducible assumption) (by omega);rw[q1]at t_;exact t_)⟩,⟨⟨by omega,by omega,(Qs (z:=1) (fun _=>rfl) (by omega))⟩,⟨⟨trivial,Wq (rf.Qb.getD i.toNat La) (true)⟩,⟨⟨trivial,(by have t_:=Pr (Qa.getD s.toNat La) (i) (by with_reducible assumption) (by omega);rw[q1]at t_;exact t_)⟩,T5⟩⟩⟩⟩⟩⟩⟩⟩⟩⟩⟩⟩⟩ (by kernel_rfl) (by kernel_rfl))).cast (by rfl)
    |false=>
     exact((ih0 _ (by omega)).2.2.1 (s) (i+1) (st) (gs++[Qg.Yt (rf.Qb.getD i.toNat La)]) (ks++[if false=true then Qg.VV (rf.Qb.getD i.toNat La)else Qg.VZ (rf.Qb.getD i.toNat La)]) (gr) (kr) (sn) (gn+1) (kn+1) (gm) (km) rfl (by with_reducible assumption) (by with_reducible assumption) (by omega) (by omega) (by with_reducible assumption) (by with_reducible assumption) (by with_reducible assumption) (by with_reducible assumption) (by with_reducible assumption) (by with_reducible assumption) (by(simp only[Li,Lk,Lt];omega)) (by(rw[hg];exact Zv (by omega))) (by(simp only[Li,Lk,Lt];omega)) (by(rw[hk,<-Zv (by omega)];exact congrArg (fun z=>_++[z]) (DS (by assumption)).symm))
      (Xs.landM okF hJ Qf (Hx B rf Qa s i st gs ks gr kr sn gn kn gm km Qm)
      ⟨(Zf fun _=>by rfl),⟨(by exact(Xe (Xz (by exact fun _=>rfl)) (Lj _))),⟨(by exact(Xe (Xz (by exact fun _=>rfl)) (Lj _))),⟨(Zf fun _=>by rfl),⟨(Zf fun _=>by rfl),⟨(QY (by omega) (by omega)),⟨⟨(by(rw[QZ (z:=1) (fun _=>rfl)];first|omega|(simp;omega)|(simp_all;done))),(by unfold maxLen;omega),by omega,by first|exact X1|exact Xq rfl⟩,⟨⟨(by(rw[QZ (z:=1) (fun _=>rfl)];first|omega|(simp;omega)|(simp_all;done))),(by unfold maxLen;omega),by omega,by first|exact X1|exact Xq rfl⟩,⟨⟨trivial,Wq (rf.Qb.getD i.toNat La) (false)⟩,⟨⟨trivial,(by have t_:=Pr (Qa.getD s.toNat La) (i) (by with_reducible assumption) (by omega);rw[q1]at t_;exact t_)⟩,⟨⟨by omega,by omega,(Qs (z:=1) (fun _=>rfl) (by omega))⟩,⟨⟨trivial,Wq (rf.Qb.getD i.toNat La) (false)⟩,⟨⟨trivial,(by have t_:=Pr (Qa.getD s.toNat La) (i) (by with_reducible assumption) (by omega);rw[q1]at t_;exact t_)⟩,T5⟩⟩⟩⟩⟩⟩⟩⟩⟩⟩⟩⟩⟩ (by kernel_rfl) (by kernel_rfl))).cast (by rfl)
   ·have hge:gs=Pn rf:=by rw[hg,show i=rf.Qb.length by omega];exact um (b:=true)
    have hke:ks=Pf rf (Qa.getD s.toNat 0):=by rw[hk,show i=rf.Qb.length by omega];exact ug (b:=true)
    exact((ih0 _ (by omega)).2.2.2 (s+1) (st) (gr++[{n:=gn,l:=gs}]) (kr++[{n:=kn,l:=ks}]) (sn) (gm+1) (km+1) rfl (by omega) (by omega) (by with_reducible assumption) (by with_reducible assumption) (by(simp only[Li,Lk,Lt];omega)) (by(rw[PM (by omega),List.map_append,<-hgr,show gn=rf.Qb.length by omega,hge];rfl)) (by(simp only[Li,Lk,Lt];omega)) (by(rw[PM (by omega),List.map_append,<-hkr,show kn=rf.Qb.length by omega,hke];rfl))
     (Xs.landM okF hJ Qf (Hw B rf Qa s i st gs ks gr kr sn gn kn gm km Qm)
     (by exact⟨(Zf fun _=>by rfl),⟨(by exact(Sf (Xe (Xz (by exact fun _=>rfl)) (Lj _)) (by exact⟨(.own (Lj _)),trivial⟩))),⟨(Xc (fun x=>List.all_eq_true.1 (by rfl))),⟨(by exact(Sf (Xe (Xz (by exact fun _=>rfl)) (Lj _)) (by exact⟨(.own (Lj _)),trivial⟩))),⟨(Xc (fun x=>List.all_eq_true.1 (by rfl))),⟨(QY (by omega) (by omega)),⟨⟨(by(rw[QZ (z:=1) (fun _=>rfl)];first|omega|(simp;omega)|(simp_all;done))),(by unfold maxLen;omega),by omega,rfl⟩,⟨⟨(by(rw[QZ (z:=1) (fun _=>rfl)];first|omega|(simp;omega)|(simp_all;done))),(by unfold maxLen;omega),by omega,rfl⟩,⟨(X9 (Int.not_lt.1 q0)),trivial⟩⟩⟩⟩⟩⟩⟩⟩⟩) (by kernel_rfl) (by kernel_rfl))).cast (by rfl)
  ·intro s st gr kr sn gm km YA s0 s1 hsn ZB hgm hgr hkm hkr ⟨Qm,ZF,Xs⟩;have ZA:=Q4 (Q8 hr).1;have hsl0:=fB (rf:=rf);have hpf:=(XU hp).1;have hgrl:(gr.length:Int)=s:=by rw[hgr];exact JW (by omega)
   have hkrl:(kr.length:Int)=s:=by rw[hkr];exact JW (by omega)
   have hps:0<=Qa.getD s.toNat La/\Qa.getD s.toNat La<=1000000000:=by have:=Zj hr hp s.toNat;show 0<=Qa.getD s.toNat 0/\Qa.getD s.toNat 0<=1000000000;omega
   by_cases q0:(s:Int)<rf.Qd
   ·have hp5:Qr (wu B rf Qa s st gr kr sn gm km Qm):=by
     exact⟨(Xd q0),trivial⟩
    by_cases q1:(0:Int)<((↑rf.Qb.length:Int))
    ·have hp6:Qr (mS B rf Qa s st gr kr sn gm km Qm):=by
      exact⟨⟨by omega,by omega,(Qs (z:=1) (fun _=>rfl) (by omega))⟩,⟨⟨by omega,by omega,(Qs (z:=12) (fun _=>rfl) (by omega))⟩,⟨(Xd q1),hp5⟩⟩⟩
     cases q2:hasB (Qa.getD s.toNat La) 0 with
     |true=>
      exact((ih0 _ (by omega)).2.2.1 (s) (1) (st) ([Qg.Yt (rf.Qb.getD 0 La)]) ([if true=true then Qg.VV (rf.Qb.getD 0 La)else Qg.VZ (rf.Qb.getD 0 La)]) (gr) (kr) (sn) (1) (1) (gm) (km) rfl (by with_reducible assumption) (by with_reducible assumption) (by omega) (by omega) (by with_reducible assumption) (by with_reducible assumption) (by with_reducible assumption) (by with_reducible assumption) (by with_reducible assumption) (by with_reducible assumption) (by rfl) (by rfl) (by rfl) (by(rw[Pa];exact congrArg (fun z=>[z]) (DR (k:=0) (by assumption)).symm))
       (Xs.landM okF hJ Qf (Hv B rf Qa s st gr kr sn gm km Qm)
       ⟨(Zf fun _=>by rfl),⟨(by exact(Xe (Xz (by exact fun _=>rfl)) (Lj _))),⟨(by exact(Xe (Xz (by exact fun _=>rfl)) (Lj _))),⟨(Xt (by kernel_rfl)),⟨(Xt (by kernel_rfl)),⟨⟨trivial,Wq (rf.Qb.getD 0 La) (true)⟩,⟨⟨trivial,(by have t_:=Pr (Qa.getD s.toNat La) (0) (by with_reducible assumption) (by omega);rw[q2]at t_;exact t_)⟩,⟨⟨by omega,by omega,(Qs (z:=1) (fun _=>rfl) (by omega))⟩,⟨⟨trivial,Wq (rf.Qb.getD 0 La) (true)⟩,⟨⟨trivial,(by have t_:=Pr (Qa.getD s.toNat La) (0) (by with_reducible assumption) (by omega);rw[q2]at t_;exact t_)⟩,hp6⟩⟩⟩⟩⟩⟩⟩⟩⟩⟩ (by kernel_rfl) (by kernel_rfl))).cast (by rfl)
     |false=>
      exact((ih0 _ (by omega)).2.2.1 (s) (1) (st) ([Qg.Yt (rf.Qb.getD 0 La)]) ([if false=true then Qg.VV (rf.Qb.getD 0 La)else Qg.VZ (rf.Qb.getD 0 La)]) (gr) (kr) (sn) (1) (1) (gm) (km) rfl (by with_reducible assumption) (by with_reducible assumption) (by omega) (by omega) (by with_reducible assumption) (by with_reducible assumption) (by with_reducible assumption) (by with_reducible assumption) (by with_reducible assumption) (by with_reducible assumption) (by rfl) (by rfl) (by rfl) (by(rw[Pa];exact congrArg (fun z=>[z]) (DS (k:=0) (by assumption)).symm))
       (Xs.landM okF hJ Qf (E9 B rf Qa s st gr kr sn gm km Qm)
       ⟨(Zf fun _=>by rfl),⟨(by exact(Xe (Xz (by exact fun _=>rfl)) (Lj _))),⟨(by exact(Xe (Xz (by exact fun _=>rfl)) (Lj _))),⟨(Xt (by kernel_rfl)),⟨(Xt (by kernel_rfl)),⟨⟨trivial,Wq (rf.Qb.getD 0 La) (false)⟩,⟨⟨trivial,(by have t_:=Pr (Qa.getD s.toNat La) (0) (by with_reducible assumption) (by omega);rw[q2]at t_;exact t_)⟩,⟨⟨by omega,by omega,(Qs (z:=1) (fun _=>rfl) (by omega))⟩,⟨⟨trivial,Wq (rf.Qb.getD 0 La) (false)⟩,⟨⟨trivial,(by have t_:=Pr (Qa.getD s.toNat La) (0) (by with_reducible assumption) (by omega);rw[q2]at t_;exact t_)⟩,hp6⟩⟩⟩⟩⟩⟩⟩⟩⟩⟩ (by kernel_rfl) (by kernel_rfl))).cast (by rfl)
    ·exfalso
     (have ZA:=Q4 (Q8 hr).1;omega)
   ·exact(GoE.endsT okF hJ Qf Xs (E8 B rf Qa s st gr kr sn gm km Qm)
     ⟨(Xc (fun x=>List.all_eq_true.1 (by rfl))),⟨(ZS (Xz (by exact fun _=>rfl)) (Lj _)),⟨(ZS (Xz (by exact fun _=>rfl)) (Lj _)),⟨(X9 (Int.not_lt.1 q0)),trivial⟩⟩⟩⟩).cast (by(rw[show QC gm (Qe X7 gr)=QC (Z4 rf).length (Qe XA (Z4 rf))from sJ (g:=fun _=>Pn rf) (fun _=>NY) hgr hgm (by omega),show QC km (Qe X7 kr)=QC (ZP rf Qa).length (Qe XA (ZP rf Qa))from sJ (g:=fun z=>Pf rf (Qa.getD z.toNat 0)) (fun _=>Nh) hkr hkm (by omega),hsn,ZB]))
set_option maxHeartbeats 4000000 in
theorem N2(rf:Ql)(Qa:List Int)(hr:XM rf=true)(hp:Xo rf Qa=true){B:Lo}(hJ:∀w,B.has w->J0 w):EndsT YP B (Qp YP 34 104 (([.agg (Qv rf).toArray,XH Qa,.bool true]).map (Q2 0 4))) (c7 rf Qa):=by
 have ZA:=Q4 (Q8 hr).1;have hsl0:=fB (rf:=rf);have hcc:0<=(rf.Qb.getD 0 La).count/\(rf.Qb.getD 0 La).count<=1000000:=(Zx ((Q8 hr).2 0 (by omega) (by omega)).1).1;by_cases q0:(0:Int)<((↑rf.Qb.length:Int))
 ·exact((H8 rf Qa hr hp hJ _).1 (1) ([Zm rf.Qc (Qg.count (rf.Qb.getD 0 La))]) (1) rfl (by omega) (by omega) (by rfl) (by rfl)
   (GoE.start.landM okF hJ Qf (E7 B rf Qa)
   ⟨(Xt (by kernel_rfl)),⟨⟨trivial,Hu (rf) (Qg.count (rf.Qb.getD 0 La)) (by omega) (by omega)⟩,⟨⟨by omega,by omega,(Qs (z:=12) (fun _=>rfl) (by omega))⟩,⟨(Xd q0),trivial⟩⟩⟩⟩ (by kernel_rfl) (by kernel_rfl))).cast (by rfl)
 ·exfalso
  (have ZA:=Q4 (Q8 hr).1;omega)
theorem QaP(rf:Ql)(Qa:List Int)(hr:XM rf=true)(hp:Xo rf Qa=true):Qn YP J0 34 #[.agg (Qv rf).toArray,XH Qa,.bool true] (c7 rf Qa):=
 Xb (ts:=[.agg (Qv rf).toArray,XH Qa,.bool true]) XZ (c0:=Qp YP 34 104 (([.agg (Qv rf).toArray,XH Qa,.bool true]).map (Q2 0 4))) (by kernel_rfl) (by kernel_rfl) fun B hJ=>N2 rf Qa hr hp hJ
end
end Go.Proofs.Ytncjjangllkokaa

namespace Go.Proofs.Ytncjjangllkokaa
open Go Go.CE Go.RowKit
set_option maxRecDepth 100000
end Go.Proofs.Ytncjjangllkokaa

namespace Go.Proofs.Ytncjjangllkokaa
open Go Go.CE Go.RowKit
set_option maxRecDepth 100000
end Go.Proofs.Ytncjjangllkokaa

namespace Go.Proofs.Ytncjjangllkokaa
open Go Go.CE Go.RowKit
theorem cq{ss:List Span}{g:Span->Int}(h:∀s∈ss,s.lo<=g s/\g s<=s.hi):aU (ss.map g) ss=true:=by
 unfold aU vz;simp only[YB,decide_eq_true_iff,List.length_map,true_and,List.all_eq_true];intro k hk;unfold Yq at hk;obtain⟨m,hm,rfl⟩:=List.mem_map.1 hk;have hm':=List.mem_range.1 hm;have h0:0<=0+(m:Int):=by omega
 have h1:0+(m:Int)<ss.length:=by omega
 have e:(ss.map g).getD (0+(m:Int)).toNat La=g (ss.getD (0+(m:Int)).toNat La):=eT h0 h1;rw[e];exact RY.2 (h _ (Mz h0 h1))
theorem sh{rf:Ql}(hr:QL rf=true){x:Qg}(hx:x∈rf.Qb):Zn x=true:=by
 obtain⟨i,h0,h1,rfl⟩:=yM hx;exact((QR hr).2 i h0 h1).1
theorem vy{rf:Ql}(hr:QL rf=true):∀s∈rf.Qb.map (XB rf.Qc),s.lo<=s.hi:=fun s hs=>by
 obtain⟨x,hx,rfl⟩:=List.mem_map.1 hs;have hp:=RH (sh hr hx);have ZA:=Q4 (QR hr).1;exact(DO (a:=x.count) (r:=rf.Qc) (by omega) (by omega)).1
theorem DX{rf:Ql}(hr:QL rf=true):∀s∈rf.Qb.map XI,s.lo<=s.hi:=fun s hs=>by
 obtain⟨x,hx,rfl⟩:=List.mem_map.1 hs;have hp:=RH (sh hr hx);exact hp.2.2.2.2.1.2.1
theorem D3{rf:Ql}(hr:QL rf=true){p:Int}:∀s∈XE rf.Qb p,s.lo<=s.hi:=fun s hs=>by
 obtain⟨i,h0,h1,rfl⟩:=yM hs;rw[WS]at h1;rw[R8 h0 h1];exact(cn hr h0 h1).2.1
theorem Rn{rf:Ql}{Qa:List Int}(hr:QL rf=true):Za rf Qa ⟨Zr rf,Z3 rf,ZQ rf Qa⟩=true:=by
 have ZA:=Q4 (QR hr).1;have e1:((Z3 rf).length:Int)=rf.Qd:=by rw[Z3,Xk];omega
 have e2:((ZQ rf Qa).length:Int)=rf.Qd:=by rw[ZQ,Xk];omega
 unfold Za fE;simp only[YB,decide_eq_true_iff,List.all_eq_true];refine⟨cq fun s hs=>⟨LR _,vy hr s hs⟩,e1,e2,fun s hs=> ?_⟩;unfold Yq at hs;obtain⟨m,hm,rfl⟩:=List.mem_map.1 hs;have hm':=List.mem_range.1 hm;have h0:0<=0+(m:Int):=by omega
 have h1:0+(m:Int)<rf.Qd:=by omega
 unfold v9;rw[show(Z3 rf).getD (0+(m:Int)).toNat La=Pm rf from XQ h0 h1,show(ZQ rf Qa).getD (0+(m:Int)).toNat La=Pg rf (Qa.getD (0+(m:Int)).toNat 0)from XQ h0 h1,YB];exact⟨cq fun s hs=>⟨LR _,DX hr s hs⟩,cq fun s hs=>⟨D3 hr s hs,LR _⟩⟩
theorem Rm{rf:Ql}{Qa:List Int}(hr:QL rf=true):Za rf Qa ⟨Zs rf,Z4 rf,ZP rf Qa⟩=true:=by
 have ZA:=Q4 (QR hr).1;have e1:((Z4 rf).length:Int)=rf.Qd:=by rw[Z4,Xk];omega
 have e2:((ZP rf Qa).length:Int)=rf.Qd:=by rw[ZP,Xk];omega
 unfold Za fE;simp only[YB,decide_eq_true_iff,List.all_eq_true];refine⟨cq fun s hs=>⟨vy hr s hs,LR _⟩,e1,e2,fun s hs=> ?_⟩;unfold Yq at hs;obtain⟨m,hm,rfl⟩:=List.mem_map.1 hs;have hm':=List.mem_range.1 hm;have h0:0<=0+(m:Int):=by omega
 have h1:0+(m:Int)<rf.Qd:=by omega
 unfold v9;rw[show(Z4 rf).getD (0+(m:Int)).toNat La=Pn rf from XQ h0 h1,show(ZP rf Qa).getD (0+(m:Int)).toNat La=Pf rf (Qa.getD (0+(m:Int)).toNat 0)from XQ h0 h1,YB];exact⟨cq fun s hs=>⟨DX hr s hs,LR _⟩,cq fun s hs=>⟨LR _,D3 hr s hs⟩⟩
end Go.Proofs.Ytncjjangllkokaa

namespace Go.Proofs.Ytncjjangllkokaa
open Go Go.CE Go.RowKit
set_option maxRecDepth 100000
theorem tG(rf:Ql)(Qa:List Int)(st:List Int)(gs ts:List (List Int)):Qn YP J0 26 #[.agg (Qv rf).toArray,XH Qa,.agg #[XH st,Yv gs,Yv ts]] (.tuple #[if QL rf && (Xo rf Qa && Za rf Qa ⟨st,gs,ts⟩)then Yv (QW rf.Qd rf.Qb gs ts (Qu st))else Yv [],.agg #[YI (if QL rf && (Xo rf Qa && Za rf Qa ⟨st,gs,ts⟩)then(Qu st).sum else 0),YI (if QL rf && (Xo rf Qa && Za rf Qa ⟨st,gs,ts⟩)then Xn 0 rf.Qd (Ym rf.Qb gs ts (Qu st))else 0),YI (if QL rf && (Xo rf Qa && Za rf Qa ⟨st,gs,ts⟩)then Xn 0 rf.Qd (Va rf.Qb gs ts (Qu st))else 0),YI (if QL rf && (Xo rf Qa && Za rf Qa ⟨st,gs,ts⟩)then Xn 0 rf.Qd (Yj rf.Qb gs ts (Qu st))else 0),YI (if QL rf && (Xo rf Qa && Za rf Qa ⟨st,gs,ts⟩)then(aH rf.Qb gs ts (Qu st) rf.Qd.toNat).sum else 0)],YI (if QL rf && (Xo rf Qa && Za rf Qa ⟨st,gs,ts⟩)then 0 else 2)]):=Qba rf Qa ⟨st,gs,ts⟩
end Go.Proofs.Ytncjjangllkokaa

