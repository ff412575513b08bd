/- Reef: the truths with as few Qo as can be, and with as many. -/
import Derived.Test.YtncjjangllkokaaZRB16
import Derived.Test.YtncjjangllkokaaZRB15
set_option linter.all false
open List renaming length->Ld,length_append->Ls,length_cons->Lr,length_nil->LD
open Array renaming extract->Lh
open Nat renaming strongRecOn->LB
open List.Mem renaming head->LP
open Inhabited renaming default->La
namespace Go.Proofs.Ytncjjangllkokaa
open Go Go.CE Go.RowKit
noncomputable section
set_option maxRecDepth 100000
def TF(f:Int->Int)(i:Int):List Int:=(PQ 0 i).map f
theorem Kh{f:Int->Int}{i:Int}(h:0<=i):((TF f i).length:Int)=i:=by simp[TF,PQ];omega
theorem Jt{f:Int->Int}:TF f 1=[f 0]:=rfl
theorem Zr{f:Int->Int}{i:Int}(h:0<=i):TF f i++[f i]=TF f (i+1):=by unfold TF;rw[KN h,List.map_append];rfl
def sV(b:Bool)(rf:Qc)(k:Int):Int:=bif b then J8 rf.Qh (YD rf.Qa k).count else(YD rf.Qa k).count
def gV(b:Bool)(rf:Qc)(k:Int):Int:=bif b then(YD rf.Qa k).US else(YD rf.Qa k).UR
def kV(b:Bool)(rf:Qc)(p k:Int):Int:=bif b then(Ul p k (YD rf.Qa k)).lo else(Ul p k (YD rf.Qa k)).hi
theorem rD{b:Bool}{rf:Qc}:TF (sV b rf) rf.Qa.length=bif b then RE rf else YA rf:=by
 cases b
 ·show _=(rf.Qa.map (Z7 rf.Qh)).map dh;rw[List.map_map,cc];rfl
 ·show _=(rf.Qa.map (Z7 rf.Qh)).map o9;rw[List.map_map,cc];rfl
theorem tv{b:Bool}{rf:Qc}:TF (gV b rf) rf.Qa.length=bif b then Ec rf else SB rf:=by
 cases b
 ·show _=(rf.Qa.map Wh).map dh;rw[List.map_map,cc];rfl
 ·show _=(rf.Qa.map Wh).map o9;rw[List.map_map,cc];rfl
theorem tn{b:Bool}{rf:Qc}{p:Int}:TF (kV b rf p) rf.Qa.length=bif b then BJ rf p else SO rf p:=by
 cases b
 ·show _=(ZH rf.Qa p).map o9;unfold ZH Ze;rw[List.map_map];rfl
 ·show _=(ZH rf.Qa p).map dh;unfold ZH Ze;rw[List.map_map];rfl
theorem Bs{rf:Qc}{p k:Int}(h:hasB p k=true):kV false rf p k=(YD rf.Qa k).Vs:=by unfold kV Ul;rw[h];rfl
theorem Bt{rf:Qc}{p k:Int}(h:hasB p k=false):kV false rf p k=(YD rf.Qa k).VC:=by unfold kV Ul;rw[h];rfl
theorem Bq{rf:Qc}{p k:Int}(h:hasB p k=true):kV true rf p k=(YD rf.Qa k).Vr:=by unfold kV Ul;rw[h];rfl
theorem Br{rf:Qc}{p k:Int}(h:hasB p k=false):kV true rf p k=(YD rf.Qa k).VB:=by unfold kV Ul;rw[h];rfl
theorem rE{rf:Qc}{g:Int->List Int}{rs:List RW}{s:Int}{m:Nat}(hl:∀k,(g k).length=rf.Qa.length)(h:rs=(PQ 0 s).map fun z=>⟨rf.Qa.length,g z⟩)(hm:m=rs.length)(hs:s=rf.Qb):Xo m (Qe QP rs)=Xo (Ze rf.Qb g).length (Qe XM (Ze rf.Qb g)):=by
 subst hs;have e:Qe QP rs=Qe XM (Ze rf.Qb g):=by rw[h];exact jR _ _ _ fun k _=>hl k
 have e2:m=(Ze rf.Qb g).length:=by rw[hm,h,Ze,List.length_map,List.length_map]
 rw[e,e2]
theorem On{rf:Qc}:(SB rf).length=rf.Qa.length:=by simp[SB]
theorem Oo{rf:Qc}:(Ec rf).length=rf.Qa.length:=by simp[Ec]
theorem My{rf:Qc}{p:Int}:(BJ rf p).length=rf.Qa.length:=by simp[BJ,V1]
theorem Mz{rf:Qc}{p:Int}:(SO rf p).length=rf.Qa.length:=by simp[SO,V1]
theorem JC{rf:Qc}:(YA rf).length=rf.Qa.length:=by simp[YA]
theorem JD{rf:Qc}:(RE rf).length=rf.Qa.length:=by simp[RE]
theorem Jp{f:Int->RW}{s:Int}(h:0<=s):(((PQ 0 s).map f).length:Int)=s:=by simp[PQ];omega
section
variable (x_:Qd)(B:Lo)(c0:CF)(rf:Qc)(plan:List Int)(s i:Int)(st gs ks:List Int)(gr kr:List RW)(sn gn kn gm km:Nat)(Ql:Nat->Value)
abbrev bD:Value:=.agg #[X7 (YA rf),Xo (Va rf).length (Qe XM (Va rf)),Xo (Vi rf plan).length (Qe XM (Vi rf plan))]
def ZL:Array Value:=#[YI x_.count,YI x_.room,YI x_.UR,YI x_.US,YI x_.QI,YI x_.Xw,YI x_.VB,YI x_.VC,YI x_.Vr,YI x_.Vs,YI x_.goal,YI x_.XF]
def RX:Array Value:=#[YI (if false=true then x_.Vr else x_.VB),YI (if false=true then x_.Vs else x_.VC)]
def RV:Array Value:=#[YI (if true=true then x_.Vr else x_.VB),YI (if true=true then x_.Vs else x_.VC)]
def RT:Array Value:=(Qe Qt rf.Qa)
def ep:Array Value:=#[YI (plan.getD 0 La)]
def RU:=(rf.Qa.getD 0 La)
def Py:=(RU rf)
def UT:=(Py rf)
def ew:Array Value:=#[YI (Qd.UR (Py rf))]
def eu:Array Value:=(Qe Qy [Qd.UR (Py rf)])
def vn:Array Value:=#[YI (if false=true then Qd.Vs (Py rf)else Qd.VC (Py rf))]
def vm:Array Value:=#[YI (if true=true then Qd.Vs (Py rf)else Qd.VC (Py rf))]
def vl:Array Value:=(Qe Qy [if false=true then Qd.Vs (RU rf)else Qd.VC (RU rf)])
def vk:Array Value:=(Qe Qy [if true=true then Qd.Vs (RU rf)else Qd.VC (RU rf)])
def bC:Array Value:=(Qe Qy [Qd.UR (UT rf)])
def qq:Array Value:=(Qe Qy [if false=true then Qd.Vs (UT rf)else Qd.VC (UT rf)])
def qp:Array Value:=(Qe Qy [if true=true then Qd.Vs (UT rf)else Qd.VC (UT rf)])
def qo:Array Value:=#[.agg (ZL (rf.Qa.getD 0 La)),.bool false]
def qm:Array Value:=#[.agg (ZL (rf.Qa.getD 0 La)),.bool true]
def RZ(rf:Qc)(plan:List Int)(i:Int)(st:List Int)(sn:Nat):List Value:=[Qk 1 (X7 plan),.bool false,pA 2 0,pA 3 0,pA 4 0,YI i]
def P0(plan:List Int)(i:Int)(st:List Int)(sn:Nat):List Obj:=[Obj.cells #[Qk 1 (Xp rf.Qa),YI rf.Qh,YI rf.Qb] 24,Obj.cells #[.slice none 0 0,.slice none 0 0,.slice none 0 0] 42,.cells #[.slice (some ⟨5,0,none⟩) sn 1,.slice none 0 0,.slice none 0 0] 42 (0,0),.cells (Qe Qy st) 3 (0,0)]
def Sb:List Item:=([.code [1,1,0,1,0,0],.inLoop [1,1,0,1,0,0],.inBlock 0,.code [1,1,1]]).map (it (Q8 YP 34))
def Gq:Prop:=∃dJ:Nat->Value,(∀t,Xh (dJ t))/\GoE YP B c0 Zd 1 (QC 34 104 (([1,2,3,6,7,8]:List Nat).zip (RZ rf plan i st sn)) dJ Sb) (Q9 (P0 rf plan i st sn)) (2+(P0 rf plan i st sn).length) []
def YW(rf:Qc)(plan:List Int)(i:Int)(st gs ks:List Int)(sn gn kn:Nat):List Value:=[Qk 1 (X7 plan),.bool false,pA 2 0,pA 3 0,pA 4 0,YI 0,.slice (some ⟨6,0,none⟩) gn 1,.slice (some ⟨7,0,none⟩) kn 1,YI i]
def KU(plan:List Int)(i:Int)(st gs ks:List Int)(sn gn kn:Nat):List Obj:=[Obj.cells #[Qk 1 (Xp rf.Qa),YI rf.Qh,YI rf.Qb] 24,Obj.cells #[.slice none 0 0,.slice none 0 0,.slice none 0 0] 42,.cells #[.slice (some ⟨5,0,none⟩) sn 1,.slice none 0 0,.slice none 0 0] 42 (0,0),.cells (Qe Qy st) 3 (0,0),.cells (Qe Qy gs) 3 (0,0),.cells (Qe Qy ks) 3 (0,0)]
def YY:List Item:=([.code [1,1,1,0,1,0,0,1,0,0,1,0,1,0,0],.inLoop [1,1,1,0,1,0,0,1,0,0,1,0,1,0,0],.inBlock 4,.code [1,1,1,0,1,0,0,1,0,0,1,1],.inBlock 3,.code [1,1,1,0,1,0,0,1,1],.inLoop [1,1,1,0,1,0,0],.inBlock 2,.code [1,1,1,1]]).map (it (Q8 YP 34))
def Gp:Prop:=∃dJ:Nat->Value,(∀t,Xh (dJ t))/\GoE YP B c0 Zd 1 (QC 34 104 (([1,2,3,6,7,10,11,12,13]:List Nat).zip (YW rf plan i st gs ks sn gn kn)) dJ YY) (Q9 (KU rf plan i st gs ks sn gn kn)) (2+(KU rf plan i st gs ks sn gn kn).length) []
def YV(rf:Qc)(plan:List Int)(s i:Int)(st gs ks:List Int)(gr kr:List RW)(sn gn kn gm km:Nat):List Value:=[Qk 1 (X7 plan),.bool false,pA 2 0,pA 3 0,pA 4 0,YI s,.slice (some ⟨8,0,none⟩) gn 1,.slice (some ⟨9,0,none⟩) kn 1,YI i]
def KT(plan:List Int)(s i:Int)(st gs ks:List Int)(gr kr:List RW)(sn gn kn gm km:Nat):List Obj:=[Obj.cells #[Qk 1 (Xp rf.Qa),YI rf.Qh,YI rf.Qb] 24,Obj.cells #[.slice none 0 0,.slice none 0 0,.slice none 0 0] 42,.cells #[.slice (some ⟨5,0,none⟩) sn 1,.slice (some ⟨6,0,none⟩) gm 1,.slice (some ⟨7,0,none⟩) km 1] 42 (0,0),.cells (Qe Qy st) 3 (0,0),.cells (Qe (QY 1 QP) gr) 25 (0,0),.cells (Qe (QY 1 QP) kr) 25 (0,0),.cells (Qe Qy gs) 3 (0,0),.cells (Qe Qy ks) 3 (0,0)]
def YX:List Item:=([.code [1,1,1,0,1,0,0,1,0,0,1,0,1,0,0],.inLoop [1,1,1,0,1,0,0,1,0,0,1,0,1,0,0],.inBlock 4,.code [1,1,1,0,1,0,0,1,0,0,1,1],.inBlock 3,.code [1,1,1,0,1,0,0,1,1],.inLoop [1,1,1,0,1,0,0],.inBlock 2,.code [1,1,1,1]]).map (it (Q8 YP 34))
def Gn:Prop:=∃dJ:Nat->Value,(∀t,Xh (dJ t))/\GoE YP B c0 Zd 1 (QC 34 104 (([1,2,3,6,7,10,11,12,13]:List Nat).zip (YV rf plan s i st gs ks gr kr sn gn kn gm km)) dJ YX) (Q9 (KT rf plan s i st gs ks gr kr sn gn kn gm km)) (2+(KT rf plan s i st gs ks gr kr sn gn kn gm km).length) []
def RY(rf:Qc)(plan:List Int)(s:Int)(st:List Int)(gr kr:List RW)(sn gm km:Nat):List Value:=[Qk 1 (X7 plan),.bool false,pA 2 0,pA 3 0,pA 4 0,YI s]
def Pz(plan:List Int)(s:Int)(st:List Int)(gr kr:List RW)(sn gm km:Nat):List Obj:=[Obj.cells #[Qk 1 (Xp rf.Qa),YI rf.Qh,YI rf.Qb] 24,Obj.cells #[.slice none 0 0,.slice none 0 0,.slice none 0 0] 42,.cells #[.slice (some ⟨5,0,none⟩) sn 1,.slice (some ⟨6,0,none⟩) gm 1,.slice (some ⟨7,0,none⟩) km 1] 42 (0,0),.cells (Qe Qy st) 3 (0,0),.cells (Qe (QY 1 QP) gr) 25 (0,0),.cells (Qe (QY 1 QP) kr) 25 (0,0)]
def Sa:List Item:=([.code [1,1,1,0,1,0,0],.inLoop [1,1,1,0,1,0,0],.inBlock 2,.code [1,1,1,1]]).map (it (Q8 YP 34))
def Gm:Prop:=∃dJ:Nat->Value,(∀t,Xh (dJ t))/\GoE YP B c0 Zd 1 (QC 34 104 (([1,2,3,6,7,10]:List Nat).zip (RY rf plan s st gr kr sn gm km)) dJ Sa) (Q9 (Pz rf plan s st gr kr sn gm km)) (2+(Pz rf plan s st gr kr sn gm km).length) []
theorem Gk(B:Lo)(rf:Qc)(plan:List Int)(i:Int)(st:List Int)(sn:Nat)(Ql:Nat->Value):let e:=P0 rf plan i st sn;let d:=rf.Qa;let a:=d.getD i.toNat La;let c:=st++[a.count];let b:=Qe Qy c;landM (Qn YP (Q0 YP) J0 B 18 1 (QC 34 104 (([1,2,3,6,7,8]:List Nat).zip (RZ rf plan i st sn)) Ql Sb) (Q9 e) (2+e.length)
 [(4,Wj),(8,Qf.tidx i.toNat (ZL a)),(17,Qf.XO (Hint.app b)),(21,Zu (i+1))] 0 [] []) [1,2,3,6,7,8] [(2,KS.auto),(3,KS.auto),(4,KS.auto),(7,KS.cells [] b)] []=some ⟨34,104,Sb,[],.run,none,RZ rf plan (i+1) c (sn+1),P0 rf plan (i+1) c (sn+1),
 [QE 1 [] b b,wq (i+1)=i+1,PM (Qe Qy st) #[YI a.count] b sn (0+1) 8,VN i d.length (RT rf) Try.t54.size (ZL a),XB i (↑d.length:Int)=true]⟩:=by intro e d a c b;kernel_rfl
def vw(B:Lo)(rf:Qc)(plan:List Int)(i:Int)(st:List Int)(sn:Nat)(Ql:Nat->Value):List Prop:=[XB i (↑rf.Qa.length:Int)=false]++([]:List Prop)
def vt(i:Int)(st:List Int)(sn:Nat)(Ql:Nat->Value):QA:=[(4,WC),(9,Wj),(17,Wj),(21,Qf.tidx 0 (ZL (rf.Qa.getD 0 La))),(31,Qf.tidx 0 (ep plan))]
def vv:List Prop:=[XB 0 rf.Qb=true]++vw B rf plan i st sn Ql
def l9:List Prop:=let a:=rf.Qa;[0=(↑0:Int)/\0<Ld plan/\Lh (Qe Qy plan) (0*TypeInfo.size Try.t3) (0*TypeInfo.size Try.t3+TypeInfo.size Try.t3)=(ep plan),0=(↑0:Int)/\0<Ld a/\Lh (RT rf) (0*TypeInfo.size Try.t54) (0*TypeInfo.size Try.t54+TypeInfo.size Try.t54)=(ZL (a.getD 0 La)),XB 0 (↑a.length:Int)=true]++vv B rf plan i st sn Ql
theorem Gj(B:Lo)(rf:Qc)(plan:List Int)(i:Int)(st:List Int)(sn:Nat)(Ql:Nat->Value):let d:=P0 rf plan i st sn;let c:=Qe Qy st;let b:=UT rf;let a:=[if true=true then b.Vs else b.VC];landM (Qn YP (Q0 YP) J0 B 44 1 (QC 34 104 (([1,2,3,6,7,8]:List Nat).zip (RZ rf plan i st sn)) Ql Sb) (Q9 d) (2+d.length)
 (vt rf plan i st sn Ql++[(34,Qf.pure (.bool true) []),(35,Qf.pure (.agg (RV b)) [])]) 0 [] []) [1,2,3,6,7,10,11,12,13] [(2,KS.auto),(3,KS.auto),(4,KS.auto),(5,KS.cells [] c),(8,KS.cells [] (bC rf)),(10,KS.cells [] (qp rf))] []=some ⟨34,104,YY,[],.run,none,YW rf plan (1) (st) ([b.UR]) a (sn) (1) (1),KU rf plan (1) (st) ([b.UR]) a (sn) (1) (1),
 [QE 1 [] c c,QE 1 [] ((ew rf)) (eu rf),QE 1 [] ((vm rf)) (vk rf),Qz []/\Qv YP J0 61 (qm rf) (.agg (RV (rf.Qa.getD 0 La))),Qz []/\Qv YP J0 47 #[YI (plan.getD 0 La),YI 0] (.bool true)]++l9 B rf plan i st sn Ql⟩:=by intro d c b a;kernel_rfl
theorem Gi(B:Lo)(rf:Qc)(plan:List Int)(i:Int)(st:List Int)(sn:Nat)(Ql:Nat->Value):let d:=P0 rf plan i st sn;let c:=Qe Qy st;let b:=UT rf;let a:=[if false=true then b.Vs else b.VC];landM (Qn YP (Q0 YP) J0 B 44 1 (QC 34 104 (([1,2,3,6,7,8]:List Nat).zip (RZ rf plan i st sn)) Ql Sb) (Q9 d) (2+d.length)
 (vt rf plan i st sn Ql++[(34,Qf.pure (.bool false) []),(35,Qf.pure (.agg (RX b)) [])]) 0 [] []) [1,2,3,6,7,10,11,12,13] [(2,KS.auto),(3,KS.auto),(4,KS.auto),(5,KS.cells [] c),(8,KS.cells [] (bC rf)),(10,KS.cells [] (qq rf))] []=some ⟨34,104,YY,[],.run,none,YW rf plan (1) (st) ([b.UR]) a (sn) (1) (1),KU rf plan (1) (st) ([b.UR]) a (sn) (1) (1),
 [QE 1 [] c c,QE 1 [] ((ew rf)) (eu rf),QE 1 [] ((vn rf)) (vl rf),Qz []/\Qv YP J0 61 (qo rf) (.agg (RX (rf.Qa.getD 0 La))),Qz []/\Qv YP J0 47 #[YI (plan.getD 0 La),YI 0] (.bool false)]++l9 B rf plan i st sn Ql⟩:=by intro d c b a;kernel_rfl
def l8(B:Lo)(rf:Qc)(plan:List Int)(i:Int)(st gs ks:List Int)(sn gn kn:Nat)(Ql:Nat->Value):List Prop:=let a:=rf.Qa;[0=(↑0:Int)/\0<Ld plan/\Lh (Qe Qy plan) (0*TypeInfo.size Try.t3) (0*TypeInfo.size Try.t3+TypeInfo.size Try.t3)=(ep plan),VN i a.length (RT rf) Try.t54.size (ZL (a.getD i.toNat La)),XB i (↑a.length:Int)=true]++([]:List Prop)
def vq(st gs ks:List Int)(sn gn kn:Nat)(Ql:Nat->Value):QA:=[(4,Wj),(8,Qf.tidx i.toNat (ZL (rf.Qa.getD i.toNat La))),(18,Qf.tidx 0 (ep plan))]
theorem Gh(B:Lo)(rf:Qc)(plan:List Int)(i:Int)(st gs ks:List Int)(sn gn kn:Nat)(Ql:Nat->Value):let g:=Qe Qy st;let f:=KU rf plan i st gs ks sn gn kn;let a:=rf.Qa.getD i.toNat La;let h:=Value.agg (RV a);let e:=gs++[a.UR];let c:=Qe Qy e;let b:=ks++[if true=true then a.Vs else a.VC];let d:=Qe Qy b;landM (Qn YP (Q0 YP) J0 B 20 1 (QC 34 104 (([1,2,3,6,7,10,11,12,13]:List Nat).zip (YW rf plan i st gs ks sn gn kn)) Ql YY) (Q9 f) (2+f.length)
 (vq rf plan i st gs ks sn gn kn Ql++[(21,Qf.pure (.bool true) []),(22,Qf.pure h []),(30,Qf.XO (Hint.app c)),(34,Qf.XO (Hint.app d)),(38,Zu (i+1))]) 0 [] []) [1,2,3,6,7,10,11,12,13] [(2,KS.auto),(3,KS.auto),(4,KS.auto),(5,KS.cells [] g),(10,KS.cells [] c),(12,KS.cells [] d)] []=some ⟨34,104,YY,[],.run,none,YW rf plan (i+1) (st) e b (sn) (gn+1) (kn+1),KU rf plan (i+1) (st) e b (sn) (gn+1) (kn+1),
 [QE 1 [] g g,QE 1 [] c c,QE 1 [] d d,wq (i+1)=i+1,PM (Qe Qy ks) #[YI (if true=true then a.Vs else a.VC)] d kn (0+1) 8,PM (Qe Qy gs) #[YI a.UR] c gn (0+1) 8,Qz []/\Qv YP J0 61 #[.agg (ZL a),.bool true] h,Qz []/\Qv YP J0 47 #[YI (plan.getD 0 La),YI i] (.bool true)]++l8 B rf plan i st gs ks sn gn kn Ql⟩:=by intro g f a h e c b d;kernel_rfl
theorem Gg(B:Lo)(rf:Qc)(plan:List Int)(i:Int)(st gs ks:List Int)(sn gn kn:Nat)(Ql:Nat->Value):let g:=Qe Qy st;let f:=KU rf plan i st gs ks sn gn kn;let a:=rf.Qa.getD i.toNat La;let h:=Value.agg (RX a);let e:=gs++[a.UR];let c:=Qe Qy e;let b:=ks++[if false=true then a.Vs else a.VC];let d:=Qe Qy b;landM (Qn YP (Q0 YP) J0 B 20 1 (QC 34 104 (([1,2,3,6,7,10,11,12,13]:List Nat).zip (YW rf plan i st gs ks sn gn kn)) Ql YY) (Q9 f) (2+f.length)
 (vq rf plan i st gs ks sn gn kn Ql++[(21,Qf.pure (.bool false) []),(22,Qf.pure h []),(30,Qf.XO (Hint.app c)),(34,Qf.XO (Hint.app d)),(38,Zu (i+1))]) 0 [] []) [1,2,3,6,7,10,11,12,13] [(2,KS.auto),(3,KS.auto),(4,KS.auto),(5,KS.cells [] g),(10,KS.cells [] c),(12,KS.cells [] d)] []=some ⟨34,104,YY,[],.run,none,YW rf plan (i+1) (st) e b (sn) (gn+1) (kn+1),KU rf plan (i+1) (st) e b (sn) (gn+1) (kn+1),
 [QE 1 [] g g,QE 1 [] c c,QE 1 [] d d,wq (i+1)=i+1,PM (Qe Qy ks) #[YI (if false=true then a.Vs else a.VC)] d kn (0+1) 8,PM (Qe Qy gs) #[YI a.UR] c gn (0+1) 8,Qz []/\Qv YP J0 61 #[.agg (ZL a),.bool false] h,Qz []/\Qv YP J0 47 #[YI (plan.getD 0 La),YI i] (.bool false)]++l8 B rf plan i st gs ks sn gn kn Ql⟩:=by intro g f a h e c b d;kernel_rfl
theorem Gf(B:Lo)(rf:Qc)(plan:List Int)(i:Int)(st gs ks:List Int)(sn gn kn:Nat)(Ql:Nat->Value):let f:=[{n:=kn,l:=ks}];let e:=[{n:=gn,l:=gs}];let d:=Qe Qy st;let c:=KU rf plan i st gs ks sn gn kn;let b:=Qe (QY 1 QP) [{n:=kn,l:=ks}];let a:=Qe (QY 1 QP) [{n:=gn,l:=gs}];landM (Qn YP (Q0 YP) J0 B 9 1 (QC 34 104 (([1,2,3,6,7,10,11,12,13]:List Nat).zip (YW rf plan i st gs ks sn gn kn)) Ql YY) (Q9 c) (2+c.length)
 [(4,WC)] 0 [] []) [1,2,3,6,7,10] [(2,KS.auto),(3,KS.auto),(4,KS.auto),(5,KS.cells [] d),(9,KS.rows [] [6] [] a),(11,KS.rows [] [7] [] b)] [{k:=6,rs:=[],cs:=Qe Qy gs},{k:=7,rs:=[],cs:=Qe Qy ks}]=some ⟨34,104,Sa,[],.run,none,RY rf plan (1) (st) e f (sn) (1) (1),Pz rf plan (1) (st) e f (sn) (1) (1),
 [QE 1 [] d d,QX 1 [] [(6,Fz.cs {k:=6,rs:=[],cs:=Qe Qy gs})] [] #[.slice (some {block:=6,off:=0}) gn 1] a,X1 (Fz.rs {k:=6,rs:=[],cs:=Qe Qy gs}) (Qe Qy gs) (Fz.cs {k:=6,rs:=[],cs:=Qe Qy gs}),QX 1 [] [(7,Fz.cs {k:=7,rs:=[],cs:=Qe Qy ks})] [] #[.slice (some {block:=7,off:=0}) kn 1] b,X1 (Fz.rs {k:=7,rs:=[],cs:=Qe Qy ks}) (Qe Qy ks) (Fz.cs {k:=7,rs:=[],cs:=Qe Qy ks}),XB i (↑rf.Qa.length:Int)=false]⟩:=by intro f e d c b a;kernel_rfl
def l7(B:Lo)(rf:Qc)(plan:List Int)(s i:Int)(st gs ks:List Int)(gr kr:List RW)(sn gn kn gm km:Nat)(Ql:Nat->Value):List Prop:=let a:=rf.Qa;[VN s plan.length (Qe Qy plan) Try.t3.size #[YI (plan.getD s.toNat La)],VN i a.length (RT rf) Try.t54.size (ZL (a.getD i.toNat La)),XB i (↑a.length:Int)=true]++([]:List Prop)
def vp(st gs ks:List Int)(gr kr:List RW)(sn gn kn gm km:Nat)(Ql:Nat->Value):QA:=[(4,Wj),(8,Qf.tidx i.toNat (ZL (rf.Qa.getD i.toNat La))),(18,Qf.tidx s.toNat #[YI (plan.getD s.toNat La)])]
theorem Ge(B:Lo)(rf:Qc)(plan:List Int)(s i:Int)(st gs ks:List Int)(gr kr:List RW)(sn gn kn gm km:Nat)(Ql:Nat->Value):let h:=Qe Qy st;let e:=KT rf plan s i st gs ks gr kr sn gn kn gm km;let d:=QY 1 QP;let a:=rf.Qa.getD i.toNat La;let j:=Value.agg (RV a);let g:=gs++[a.UR];let c:=Qe Qy g;let b:=ks++[if true=true then a.Vs else a.VC];let f:=Qe Qy b;landM (Qn YP (Q0 YP) J0 B 20 1 (QC 34 104 (([1,2,3,6,7,10,11,12,13]:List Nat).zip (YV rf plan s i st gs ks gr kr sn gn kn gm km)) Ql YX) (Q9 e) (2+e.length)
 (vp rf plan s i st gs ks gr kr sn gn kn gm km Ql++[(21,Qf.pure (.bool true) []),(22,Qf.pure j []),(30,Qf.XO (Hint.app c)),(34,Qf.XO (Hint.app f)),(38,Zu (i+1))]) 0 [] []) [1,2,3,6,7,10,11,12,13] [(2,KS.auto),(3,KS.auto),(4,KS.auto),(5,KS.cells [] h),(6,KS.rows [(1,1)] [] [] (Qe d gr)),(7,KS.rows [(1,1)] [] [] (Qe d kr)),(12,KS.cells [] c),(14,KS.cells [] f)] []=some ⟨34,104,YX,[],.run,none,YV rf plan (s) (i+1) (st) g b (gr) (kr) (sn) (gn+1) (kn+1) (gm) (km),KT rf plan (s) (i+1) (st) g b (gr) (kr) (sn) (gn+1) (kn+1) (gm) (km),
 [QE 1 [] h h,QX 1 [(1,1)] [] [] (Qe d gr) (Qe d gr),QX 1 [(1,1)] [] [] (Qe d kr) (Qe d kr),QE 1 [] c c,QE 1 [] f f,wq (i+1)=i+1,PM (Qe Qy ks) #[YI (if true=true then a.Vs else a.VC)] f kn (0+1) 8,PM (Qe Qy gs) #[YI a.UR] c gn (0+1) 8,Qz []/\Qv YP J0 61 #[.agg (ZL a),.bool true] j,Qz []/\Qv YP J0 47 #[YI (plan.getD s.toNat La),YI i] (.bool true)]++l7 B rf plan s i st gs ks gr kr sn gn kn gm km Ql⟩:=by intro h e d a j g c b f;kernel_rfl
theorem Gd(B:Lo)(rf:Qc)(plan:List Int)(s i:Int)(st gs ks:List Int)(gr kr:List RW)(sn gn kn gm km:Nat)(Ql:Nat->Value):let h:=Qe Qy st;let e:=KT rf plan s i st gs ks gr kr sn gn kn gm km;let d:=QY 1 QP;let a:=rf.Qa.getD i.toNat La;let j:=Value.agg (RX a);let g:=gs++[a.UR];let c:=Qe Qy g;let b:=ks++[if false=true then a.Vs else a.VC];let f:=Qe Qy b;landM (Qn YP (Q0 YP) J0 B 20 1 (QC 34 104 (([1,2,3,6,7,10,11,12,13]:List Nat).zip (YV rf plan s i st gs ks gr kr sn gn kn gm km)) Ql YX) (Q9 e) (2+e.length)
 (vp rf plan s i st gs ks gr kr sn gn kn gm km Ql++[(21,Qf.pure (.bool false) []),(22,Qf.pure j []),(30,Qf.XO (Hint.app c)),(34,Qf.XO (Hint.app f)),(38,Zu (i+1))]) 0 [] []) [1,2,3,6,7,10,11,12,13] [(2,KS.auto),(3,KS.auto),(4,KS.auto),(5,KS.cells [] h),(6,KS.rows [(1,1)] [] [] (Qe d gr)),(7,KS.rows [(1,1)] [] [] (Qe d kr)),(12,KS.cells [] c),(14,KS.cells [] f)] []=some ⟨34,104,YX,[],.run,none,YV rf plan (s) (i+1) (st) g b (gr) (kr) (sn) (gn+1) (kn+1) (gm) (km),KT rf plan (s) (i+1) (st) g b (gr) (kr) (sn) (gn+1) (kn+1) (gm) (km),
 [QE 1 [] h h,QX 1 [(1,1)] [] [] (Qe d gr) (Qe d gr),QX 1 [(1,1)] [] [] (Qe d kr) (Qe d kr),QE 1 [] c c,QE 1 [] f f,wq (i+1)=i+1,PM (Qe Qy ks) #[YI (if false=true then a.Vs else a.VC)] f kn (0+1) 8,PM (Qe Qy gs) #[YI a.UR] c gn (0+1) 8,Qz []/\Qv YP J0 61 #[.agg (ZL a),.bool false] j,Qz []/\Qv YP J0 47 #[YI (plan.getD s.toNat La),YI i] (.bool false)]++l7 B rf plan s i st gs ks gr kr sn gn kn gm km Ql⟩:=by intro h e d a j g c b f;kernel_rfl
theorem Gb(B:Lo)(rf:Qc)(plan:List Int)(s i:Int)(st gs ks:List Int)(gr kr:List RW)(sn gn kn gm km:Nat)(Ql:Nat->Value):let j:=Qe Qy st;let h:=some {block:=8,off:=0};let g:=some {block:=9,off:=0};let f:=KT rf plan s i st gs ks gr kr sn gn kn gm km;let e:=kr++[{n:=kn,l:=ks}];let d:=gr++[{n:=gn,l:=gs}];let c:=QY 1 QP;let b:=Qe c kr++#[.slice g kn 1];let a:=Qe c gr++#[.slice h gn 1];landM (Qn YP (Q0 YP) J0 B 9 1 (QC 34 104 (([1,2,3,6,7,10,11,12,13]:List Nat).zip (YV rf plan s i st gs ks gr kr sn gn kn gm km)) Ql YX) (Q9 f) (2+f.length)
 [(4,WC),(9,Qf.XO (Hint.app a)),(14,Qf.XO (Hint.app b)),(20,Zu (s+1))] 0 [] []) [1,2,3,6,7,10] [(2,KS.auto),(3,KS.auto),(4,KS.auto),(5,KS.cells [] j),(11,KS.rows [(1,1)] [8] [] (Qe c d)),(13,KS.rows [(1,1)] [9] [] (Qe c e))] [{k:=8,rs:=[],cs:=Qe Qy gs},{k:=9,rs:=[],cs:=Qe Qy ks}]=some ⟨34,104,Sa,[],.run,none,RY rf plan (s+1) (st) d e (sn) (gm+1) (km+1),Pz rf plan (s+1) (st) d e (sn) (gm+1) (km+1),
 [QE 1 [] j j,QX 1 [(1,1)] [(8,Fz.cs {k:=8,rs:=[],cs:=Qe Qy gs})] [] a (Qe c d),X1 (Fz.rs {k:=8,rs:=[],cs:=Qe Qy gs}) (Qe Qy gs) (Fz.cs {k:=8,rs:=[],cs:=Qe Qy gs}),QX 1 [(1,1)] [(9,Fz.cs {k:=9,rs:=[],cs:=Qe Qy ks})] [] b (Qe c e),X1 (Fz.rs {k:=9,rs:=[],cs:=Qe Qy ks}) (Qe Qy ks) (Fz.cs {k:=9,rs:=[],cs:=Qe Qy ks}),wq (s+1)=s+1,PM ((Qe c kr)) #[.slice g kn 1] b km (0+1) 24,PM ((Qe c gr)) #[.slice h gn 1] a gm (0+1) 24,XB i (↑rf.Qa.length:Int)=false]⟩:=by intro j h g f e d c b a;kernel_rfl
def vu(B:Lo)(rf:Qc)(plan:List Int)(s:Int)(st:List Int)(gr kr:List RW)(sn gm km:Nat)(Ql:Nat->Value):List Prop:=[XB s rf.Qb=true]++([]:List Prop)
def vo(st:List Int)(gr kr:List RW)(sn gm km:Nat)(Ql:Nat->Value):QA:=[(3,Wj),(11,Wj),(15,Qf.tidx 0 (ZL (rf.Qa.getD 0 La))),(25,Qf.tidx s.toNat #[YI (plan.getD s.toNat La)])]
def l6:List Prop:=let a:=rf.Qa;[VN s plan.length (Qe Qy plan) Try.t3.size #[YI (plan.getD s.toNat La)],0=(↑0:Int)/\0<Ld a/\Lh (RT rf) (0*TypeInfo.size Try.t54) (0*TypeInfo.size Try.t54+TypeInfo.size Try.t54)=(ZL (a.getD 0 La)),XB 0 (↑a.length:Int)=true]++vu B rf plan s st gr kr sn gm km Ql
theorem Ga(B:Lo)(rf:Qc)(plan:List Int)(s:Int)(st:List Int)(gr kr:List RW)(sn gm km:Nat)(Ql:Nat->Value):let e:=Qe Qy st;let d:=Pz rf plan s st gr kr sn gm km;let c:=UT rf;let b:=QY 1 QP;let a:=[if true=true then c.Vs else c.VC];landM (Qn YP (Q0 YP) J0 B 34 1 (QC 34 104 (([1,2,3,6,7,10]:List Nat).zip (RY rf plan s st gr kr sn gm km)) Ql Sa) (Q9 d) (2+d.length)
 (vo rf plan s st gr kr sn gm km Ql++[(28,Qf.pure (.bool true) []),(29,Qf.pure (.agg (RV c)) [])]) 0 [] []) [1,2,3,6,7,10,11,12,13] [(2,KS.auto),(3,KS.auto),(4,KS.auto),(5,KS.cells [] e),(6,KS.rows [(1,1)] [] [] (Qe b gr)),(7,KS.rows [(1,1)] [] [] (Qe b kr)),(10,KS.cells [] (bC rf)),(12,KS.cells [] (qp rf))] []=some ⟨34,104,YX,[],.run,none,YV rf plan (s) (1) (st) ([c.UR]) a (gr) (kr) (sn) (1) (1) (gm) (km),KT rf plan (s) (1) (st) ([c.UR]) a (gr) (kr) (sn) (1) (1) (gm) (km),
 [QE 1 [] e e,QX 1 [(1,1)] [] [] (Qe b gr) (Qe b gr),QX 1 [(1,1)] [] [] (Qe b kr) (Qe b kr),QE 1 [] ((ew rf)) (eu rf),QE 1 [] ((vm rf)) (vk rf),Qz []/\Qv YP J0 61 (qm rf) (.agg (RV (rf.Qa.getD 0 La))),Qz []/\Qv YP J0 47 #[YI (plan.getD s.toNat La),YI 0] (.bool true)]++l6 B rf plan s st gr kr sn gm km Ql⟩:=by intro e d c b a;kernel_rfl
theorem C8(B:Lo)(rf:Qc)(plan:List Int)(s:Int)(st:List Int)(gr kr:List RW)(sn gm km:Nat)(Ql:Nat->Value):let e:=Qe Qy st;let d:=Pz rf plan s st gr kr sn gm km;let c:=UT rf;let b:=QY 1 QP;let a:=[if false=true then c.Vs else c.VC];landM (Qn YP (Q0 YP) J0 B 34 1 (QC 34 104 (([1,2,3,6,7,10]:List Nat).zip (RY rf plan s st gr kr sn gm km)) Ql Sa) (Q9 d) (2+d.length)
 (vo rf plan s st gr kr sn gm km Ql++[(28,Qf.pure (.bool false) []),(29,Qf.pure (.agg (RX c)) [])]) 0 [] []) [1,2,3,6,7,10,11,12,13] [(2,KS.auto),(3,KS.auto),(4,KS.auto),(5,KS.cells [] e),(6,KS.rows [(1,1)] [] [] (Qe b gr)),(7,KS.rows [(1,1)] [] [] (Qe b kr)),(10,KS.cells [] (bC rf)),(12,KS.cells [] (qq rf))] []=some ⟨34,104,YX,[],.run,none,YV rf plan (s) (1) (st) ([c.UR]) a (gr) (kr) (sn) (1) (1) (gm) (km),KT rf plan (s) (1) (st) ([c.UR]) a (gr) (kr) (sn) (1) (1) (gm) (km),
 [QE 1 [] e e,QX 1 [(1,1)] [] [] (Qe b gr) (Qe b gr),QX 1 [(1,1)] [] [] (Qe b kr) (Qe b kr),QE 1 [] ((ew rf)) (eu rf),QE 1 [] ((vn rf)) (vl rf),Qz []/\Qv YP J0 61 (qo rf) (.agg (RX (rf.Qa.getD 0 La))),Qz []/\Qv YP J0 47 #[YI (plan.getD s.toNat La),YI 0] (.bool false)]++l6 B rf plan s st gr kr sn gm km Ql⟩:=by intro e d c b a;kernel_rfl
theorem C7(B:Lo)(rf:Qc)(plan:List Int)(s:Int)(st:List Int)(gr kr:List RW)(sn gm km:Nat)(Ql:Nat->Value):let d:=Pz rf plan s st gr kr sn gm km;let c:=Fz.cs {k:=5,rs:=[],cs:=Qe Qy st};let b:=Fz.cs {k:=7,rs:=[1],cs:=Qe QP kr};let a:=Fz.cs {k:=6,rs:=[1],cs:=Qe QP gr};Xv (Qn YP (Q0 YP) J0 B 9 1 (QC 34 104 (([1,2,3,6,7,10]:List Nat).zip (RY rf plan s st gr kr sn gm km)) Ql Sa) (Q9 d) (2+d.length)
 [(3,WC)] 0 [] []) [{k:=5,rs:=[],cs:=Qe Qy st},{k:=6,rs:=[1],cs:=Qe QP gr},{k:=7,rs:=[1],cs:=Qe QP kr}]=some (.agg #[Xo sn c,Xo gm a,Xo km b],
 [X1 (Fz.rs {k:=5,rs:=[],cs:=Qe Qy st}) (Qe Qy st) c,X1 (Fz.rs {k:=6,rs:=[1],cs:=Qe QP gr}) (Qe (QY 1 QP) gr) a,X1 (Fz.rs {k:=7,rs:=[1],cs:=Qe QP kr}) (Qe (QY 1 QP) kr) b,XB s rf.Qb=false]):=by intro d c b a;kernel_rfl
theorem C6(B:Lo)(rf:Qc)(plan:List Int):let c:=rf.Qa;let b:=UT rf;let a:=c.getD 0 La;landM (Qn YP (Q0 YP) J0 B 27 1 (Qu YP 34 104 (([.agg (Q1 rf).toArray,X7 plan,.bool false]).map (Q4 0 4))) Zd 1
 [(8,Wj),(12,Qf.tidx 0 (ZL b))] 0 [] []) [1,2,3,6,7,8] [(1,KS.auto),(2,KS.auto),(3,KS.auto),(5,KS.cells [] (Qe Qy [b.count]))] []=some ⟨34,104,Sb,[],.run,none,RZ rf plan (1) ([b.count]) (1),P0 rf plan (1) ([b.count]) (1),
 [QE 1 [] (#[YI a.count]) (Qe Qy [a.count]),0=(↑0:Int)/\0<Ld c/\Lh (RT rf) (0*TypeInfo.size Try.t54) (0*TypeInfo.size Try.t54+TypeInfo.size Try.t54)=(ZL a),XB 0 (↑c.length:Int)=true]⟩:=by intro c b a;kernel_rfl
end
set_option maxHeartbeats 4000000 in
theorem Gl(rf:Qc)(plan:List Int)(hr:X4 rf=true)(hp:XJ rf plan=true){B:Lo}(hJ:∀w,B.has w->J0 w){c0:CF}:∀m:Nat,(∀(i:Int) (st:List Int) (sn:Nat),10000+(rf.Qa.length-i.toNat)=m->∀(h0:1<=i) (h1:i<=rf.Qa.length) (hsn:sn=st.length) (XZ:st=TF (sV false rf) i),Gq B c0 rf plan i st sn->EndsT YP B c0 (bD rf plan))/\(∀(i:Int) (st gs ks:List Int) (sn gn kn:Nat),9000+(rf.Qa.length-i.toNat)=m->∀(h0:1<=i) (h1:i<=rf.Qa.length) (hsn:sn=st.length) (XZ:st=YA rf) (UQ:gn=gs.length) (hg:gs=TF (gV false rf) i) (hkn:kn=ks.length) (hk:ks=TF (kV false rf (plan.getD 0 0)) i),Gp B c0 rf plan i st gs ks sn gn kn->EndsT YP B c0 (bD rf plan))/\(∀(s i:Int) (st gs ks:List Int) (gr kr:List RW) (sn gn kn gm km:Nat),100*(rf.Qb-s).toNat+(rf.Qa.length-i.toNat)=m->∀(s0:1<=s) (s1:s<rf.Qb) (h0:1<=i) (h1:i<=rf.Qa.length) (hsn:sn=st.length) (XZ:st=YA rf) (hgm:gm=gr.length) (hgr:gr=(PQ 0 s).map fun _=>⟨rf.Qa.length,SB rf⟩) (T6:km=kr.length) (hkr:kr=(PQ 0 s).map fun z=>⟨rf.Qa.length,SO rf (plan.getD z.toNat 0)⟩) (UQ:gn=gs.length) (hg:gs=TF (gV false rf) i) (hkn:kn=ks.length) (hk:ks=TF (kV false rf (plan.getD s.toNat 0)) i),Gn B c0 rf plan s i st gs ks gr kr sn gn kn gm km->EndsT YP B c0 (bD rf plan))/\(∀(s:Int) (st:List Int) (gr kr:List RW) (sn gm km:Nat),100*(rf.Qb-s).toNat+99=m->∀(s0:1<=s) (s1:s<=rf.Qb) (hsn:sn=st.length) (XZ:st=YA rf) (hgm:gm=gr.length) (hgr:gr=(PQ 0 s).map fun _=>⟨rf.Qa.length,SB rf⟩) (T6:km=kr.length) (hkr:kr=(PQ 0 s).map fun z=>⟨rf.Qa.length,SO rf (plan.getD z.toNat 0)⟩),Gm B c0 rf plan s st gr kr sn gm km->EndsT YP B c0 (bD rf plan)):=by
 intro m0;induction m0 using LB with
 |_ m0 ih0=>
  refine⟨?_, ?_, ?_, ?_⟩
  ·intro i st sn Jw h0 h1 hsn XZ ⟨Ql,Wl,X0⟩;have Zi:=Q2 (Qw hr).1;have hsl0:=JC (rf:=rf);have hpq:0<=plan.getD 0 La/\plan.getD 0 La<=1000000000:=by have:=Z1 hr hp 0;show 0<=plan.getD 0 0/\plan.getD 0 0<=1000000000;omega
   have hpf:=(Xz hp).1;have hpq:0<=plan.getD 0 La/\plan.getD 0 La<=1000000000:=by have:=Z1 hr hp 0;show 0<=plan.getD 0 0/\plan.getD 0 0<=1000000000;omega
   have hsl:(st.length:Int)=i:=by rw[XZ];exact Kh (by omega)
   by_cases q0:(i:Int)<((↑rf.Qa.length:Int))
   ·exact((ih0 _ (by omega)).1 (i+1) (st++[Qd.count (rf.Qa.getD i.toNat La)]) (sn+1) rfl (by omega) (by omega) (by(simp only[Ls,Lr,LD];omega)) (by(rw[XZ];exact Zr (by omega)))
     (X0.lM (Gk B rf plan i st sn Ql)
     ⟨cS,⟨wI,⟨⟨(by(rw[QZ (z:=1) (fun _=>rfl)];first|omega|(simp;omega)|(simp_all;done))),(by unfold maxLen;omega),by omega,by first|exact XH|exact XC rfl⟩,⟨(iX (lX 12)),⟨(Xs q0),trivial⟩⟩⟩⟩⟩)).cR
   ·have VO:Qz (vw B rf plan i st sn Ql):=by
     exact⟨(nL q0),trivial⟩
    by_cases q1:(0:Int)<rf.Qb
    ·have hp1:Qz (vv B rf plan i st sn Ql):=by
      exact⟨(Xs q1),VO⟩
     by_cases q2:(0:Int)<((↑rf.Qa.length:Int))
     ·have YF:Qz (l9 B rf plan i st sn Ql):=by
       exact⟨(iX (lX 1)),⟨(iX (lX 12)),⟨(Xs q2),hp1⟩⟩⟩
      cases q3:hasB (plan.getD 0 La) 0 with
      |true=>
       have hse:st=YA rf:=by rw[XZ,show i=rf.Qa.length by omega];exact rD (b:=false)
       exact((ih0 _ (by omega)).2.1 (1) (st) ([Qd.UR (rf.Qa.getD 0 La)]) ([if true=true then Qd.Vs (rf.Qa.getD 0 La)else Qd.VC (rf.Qa.getD 0 La)]) (sn) (1) (1) rfl (by omega) (by omega) ‹_› ‹_› (by rfl) (by rfl) (by rfl) (by(rw[Jt];exact congrArg (fun z=>[z]) (Bs (k:=0) (by assumption)).symm))
        (X0.lM (Gj B rf plan i st sn Ql)
        ⟨cS,⟨(XL (by kernel_rfl)),⟨(XL (by kernel_rfl)),⟨⟨trivial,Wu (rf.Qa.getD 0 La) (true)⟩,⟨⟨trivial,(dB (YN (plan.getD 0 La) (0) ‹_› (by omega)) q3)⟩,YF⟩⟩⟩⟩⟩)).cR
      |false=>
       have hse:st=YA rf:=by rw[XZ,show i=rf.Qa.length by omega];exact rD (b:=false)
       exact((ih0 _ (by omega)).2.1 (1) (st) ([Qd.UR (rf.Qa.getD 0 La)]) ([if false=true then Qd.Vs (rf.Qa.getD 0 La)else Qd.VC (rf.Qa.getD 0 La)]) (sn) (1) (1) rfl (by omega) (by omega) ‹_› ‹_› (by rfl) (by rfl) (by rfl) (by(rw[Jt];exact congrArg (fun z=>[z]) (Bt (k:=0) (by assumption)).symm))
        (X0.lM (Gi B rf plan i st sn Ql)
        ⟨cS,⟨(XL (by kernel_rfl)),⟨(XL (by kernel_rfl)),⟨⟨trivial,Wu (rf.Qa.getD 0 La) (false)⟩,⟨⟨trivial,(dB (YN (plan.getD 0 La) (0) ‹_› (by omega)) q3)⟩,YF⟩⟩⟩⟩⟩)).cR
     ·exfalso
      (have Zi:=Q2 (Qw hr).1;omega)
    ·exfalso
     (have Zi:=Q2 (Qw hr).1;omega)
  ·intro i st gs ks sn gn kn Jw h0 h1 hsn XZ UQ hg hkn hk ⟨Ql,Wl,X0⟩;have Zi:=Q2 (Qw hr).1;have hsl0:=JC (rf:=rf);have hpq:0<=plan.getD 0 La/\plan.getD 0 La<=1000000000:=by have:=Z1 hr hp 0;show 0<=plan.getD 0 0/\plan.getD 0 0<=1000000000;omega
   have hpf:=(Xz hp).1;have hpq:0<=plan.getD 0 La/\plan.getD 0 La<=1000000000:=by have:=Z1 hr hp 0;show 0<=plan.getD 0 0/\plan.getD 0 0<=1000000000;omega
   have hgl:(gs.length:Int)=i:=by rw[hg];exact Kh (by omega)
   have hkl:(ks.length:Int)=i:=by rw[hk];exact Kh (by omega)
   by_cases q0:(i:Int)<((↑rf.Qa.length:Int))
   ·have hp3:Qz (l8 B rf plan i st gs ks sn gn kn Ql):=by
     exact⟨(iX (lX 1)),⟨(iX (lX 12)),⟨(Xs q0),trivial⟩⟩⟩
    cases q1:hasB (plan.getD 0 La) i with
    |true=>
     exact((ih0 _ (by omega)).2.1 (i+1) (st) (gs++[Qd.UR (rf.Qa.getD i.toNat La)]) (ks++[if true=true then Qd.Vs (rf.Qa.getD i.toNat La)else Qd.VC (rf.Qa.getD i.toNat La)]) (sn) (gn+1) (kn+1) rfl (by omega) (by omega) ‹_› ‹_› (by(simp only[Ls,Lr,LD];omega)) (by(rw[hg];exact Zr (by omega))) (by(simp only[Ls,Lr,LD];omega)) (by(rw[hk,<-Zr (by omega)];exact congrArg (fun z=>_++[z]) (Bs (by assumption)).symm))
      (X0.lM (Gh B rf plan i st gs ks sn gn kn Ql)
      ⟨cS,⟨cS,⟨cS,⟨wI,⟨⟨(by(rw[QZ (z:=1) (fun _=>rfl)];first|omega|(simp;omega)|(simp_all;done))),(by unfold maxLen;omega),by omega,by first|exact XH|exact XC rfl⟩,⟨⟨(by(rw[QZ (z:=1) (fun _=>rfl)];first|omega|(simp;omega)|(simp_all;done))),(by unfold maxLen;omega),by omega,by first|exact XH|exact XC rfl⟩,⟨⟨trivial,Wu (rf.Qa.getD i.toNat La) (true)⟩,⟨⟨trivial,(dB (YN (plan.getD 0 La) (i) ‹_› (by omega)) q1)⟩,hp3⟩⟩⟩⟩⟩⟩⟩⟩)).cR
    |false=>
     exact((ih0 _ (by omega)).2.1 (i+1) (st) (gs++[Qd.UR (rf.Qa.getD i.toNat La)]) (ks++[if false=true then Qd.Vs (rf.Qa.getD i.toNat La)else Qd.VC (rf.Qa.getD i.toNat La)]) (sn) (gn+1) (kn+1) rfl (by omega) (by omega) ‹_› ‹_› (by(simp only[Ls,Lr,LD];omega)) (by(rw[hg];exact Zr (by omega))) (by(simp only[Ls,Lr,LD];omega)) (by(rw[hk,<-Zr (by omega)];exact congrArg (fun z=>_++[z]) (Bt (by assumption)).symm))
      (X0.lM (Gg B rf plan i st gs ks sn gn kn Ql)
      ⟨cS,⟨cS,⟨cS,⟨wI,⟨⟨(by(rw[QZ (z:=1) (fun _=>rfl)];first|omega|(simp;omega)|(simp_all;done))),(by unfold maxLen;omega),by omega,by first|exact XH|exact XC rfl⟩,⟨⟨(by(rw[QZ (z:=1) (fun _=>rfl)];first|omega|(simp;omega)|(simp_all;done))),(by unfold maxLen;omega),by omega,by first|exact XH|exact XC rfl⟩,⟨⟨trivial,Wu (rf.Qa.getD i.toNat La) (false)⟩,⟨⟨trivial,(dB (YN (plan.getD 0 La) (i) ‹_› (by omega)) q1)⟩,hp3⟩⟩⟩⟩⟩⟩⟩⟩)).cR
   ·have PS:gs=SB rf:=by rw[hg,show i=rf.Qa.length by omega];exact tv (b:=false)
    have hke:ks=SO rf (plan.getD 0 0):=by rw[hk,show i=rf.Qa.length by omega];exact tn (b:=false)
    exact((ih0 _ (by omega)).2.2.2 (1) (st) ([{n:=gn,l:=gs}]) ([{n:=kn,l:=ks}]) (sn) (1) (1) rfl (by omega) (by omega) ‹_› ‹_› (by rfl) (by(rw[show gn=rf.Qa.length by omega,PS];rfl)) (by rfl) (by(rw[show kn=rf.Qa.length by omega,hke];rfl))
     (X0.lM (Gf B rf plan i st gs ks sn gn kn Ql)
     (by exact⟨cS,⟨(by exact(VF (by exact⟨(.own (LP _)),trivial⟩))),⟨(X2 (fun x=>List.all_eq_true.1 (by rfl))),⟨(by exact(VF (by exact⟨(.own (LP _)),trivial⟩))),⟨(X2 (fun x=>List.all_eq_true.1 (by rfl))),⟨(nL q0),trivial⟩⟩⟩⟩⟩⟩))).cR
  ·intro s i st gs ks gr kr sn gn kn gm km Jw s0 s1 h0 h1 hsn XZ hgm hgr T6 hkr UQ hg hkn hk ⟨Ql,Wl,X0⟩;have Zi:=Q2 (Qw hr).1;have hsl0:=JC (rf:=rf);have hpf:=(Xz hp).1;have hgl:(gs.length:Int)=i:=by rw[hg];exact Kh (by omega)
   have hkl:(ks.length:Int)=i:=by rw[hk];exact Kh (by omega)
   have hgrl:(gr.length:Int)=s:=by rw[hgr];exact Jp (by omega)
   have hkrl:(kr.length:Int)=s:=by rw[hkr];exact Jp (by omega)
   have hps:0<=plan.getD s.toNat La/\plan.getD s.toNat La<=1000000000:=by have:=Z1 hr hp s.toNat;show 0<=plan.getD s.toNat 0/\plan.getD s.toNat 0<=1000000000;omega
   by_cases q0:(i:Int)<((↑rf.Qa.length:Int))
   ·have hp4:Qz (l7 B rf plan s i st gs ks gr kr sn gn kn gm km Ql):=by
     exact⟨(iX (lX 1)),⟨(iX (lX 12)),⟨(Xs q0),trivial⟩⟩⟩
    cases q1:hasB (plan.getD s.toNat La) i with
    |true=>
     exact((ih0 _ (by omega)).2.2.1 (s) (i+1) (st) (gs++[Qd.UR (rf.Qa.getD i.toNat La)]) (ks++[if true=true then Qd.Vs (rf.Qa.getD i.toNat La)else Qd.VC (rf.Qa.getD i.toNat La)]) (gr) (kr) (sn) (gn+1) (kn+1) (gm) (km) rfl ‹_› ‹_› (by omega) (by omega) ‹_› ‹_› ‹_› ‹_› ‹_› ‹_› (by(simp only[Ls,Lr,LD];omega)) (by(rw[hg];exact Zr (by omega))) (by(simp only[Ls,Lr,LD];omega)) (by(rw[hk,<-Zr (by omega)];exact congrArg (fun z=>_++[z]) (Bs (by assumption)).symm))
      (X0.lM (Ge B rf plan s i st gs ks gr kr sn gn kn gm km Ql)
      ⟨cS,⟨cP,⟨cP,⟨cS,⟨cS,⟨wI,⟨⟨(by(rw[QZ (z:=1) (fun _=>rfl)];first|omega|(simp;omega)|(simp_all;done))),(by unfold maxLen;omega),by omega,by first|exact XH|exact XC rfl⟩,⟨⟨(by(rw[QZ (z:=1) (fun _=>rfl)];first|omega|(simp;omega)|(simp_all;done))),(by unfold maxLen;omega),by omega,by first|exact XH|exact XC rfl⟩,⟨⟨trivial,Wu (rf.Qa.getD i.toNat La) (true)⟩,⟨⟨trivial,(dB (YN (plan.getD s.toNat La) (i) ‹_› (by omega)) q1)⟩,hp4⟩⟩⟩⟩⟩⟩⟩⟩⟩⟩)).cR
    |false=>
     exact((ih0 _ (by omega)).2.2.1 (s) (i+1) (st) (gs++[Qd.UR (rf.Qa.getD i.toNat La)]) (ks++[if false=true then Qd.Vs (rf.Qa.getD i.toNat La)else Qd.VC (rf.Qa.getD i.toNat La)]) (gr) (kr) (sn) (gn+1) (kn+1) (gm) (km) rfl ‹_› ‹_› (by omega) (by omega) ‹_› ‹_› ‹_› ‹_› ‹_› ‹_› (by(simp only[Ls,Lr,LD];omega)) (by(rw[hg];exact Zr (by omega))) (by(simp only[Ls,Lr,LD];omega)) (by(rw[hk,<-Zr (by omega)];exact congrArg (fun z=>_++[z]) (Bt (by assumption)).symm))
      (X0.lM (Gd B rf plan s i st gs ks gr kr sn gn kn gm km Ql)
      ⟨cS,⟨cP,⟨cP,⟨cS,⟨cS,⟨wI,⟨⟨(by(rw[QZ (z:=1) (fun _=>rfl)];first|omega|(simp;omega)|(simp_all;done))),(by unfold maxLen;omega),by omega,by first|exact XH|exact XC rfl⟩,⟨⟨(by(rw[QZ (z:=1) (fun _=>rfl)];first|omega|(simp;omega)|(simp_all;done))),(by unfold maxLen;omega),by omega,by first|exact XH|exact XC rfl⟩,⟨⟨trivial,Wu (rf.Qa.getD i.toNat La) (false)⟩,⟨⟨trivial,(dB (YN (plan.getD s.toNat La) (i) ‹_› (by omega)) q1)⟩,hp4⟩⟩⟩⟩⟩⟩⟩⟩⟩⟩)).cR
   ·have PS:gs=SB rf:=by rw[hg,show i=rf.Qa.length by omega];exact tv (b:=false)
    have hke:ks=SO rf (plan.getD s.toNat 0):=by rw[hk,show i=rf.Qa.length by omega];exact tn (b:=false)
    exact((ih0 _ (by omega)).2.2.2 (s+1) (st) (gr++[{n:=gn,l:=gs}]) (kr++[{n:=kn,l:=ks}]) (sn) (gm+1) (km+1) rfl (by omega) (by omega) ‹_› ‹_› (by(simp only[Ls,Lr,LD];omega)) (by(rw[KN (by omega),List.map_append,<-hgr,show gn=rf.Qa.length by omega,PS];rfl)) (by(simp only[Ls,Lr,LD];omega)) (by(rw[KN (by omega),List.map_append,<-hkr,show kn=rf.Qa.length by omega,hke];rfl))
     (X0.lM (Gb B rf plan s i st gs ks gr kr sn gn kn gm km Ql)
     (by exact⟨cS,⟨(by exact(Vz cP (by exact⟨(.own (LP _)),trivial⟩))),⟨(X2 (fun x=>List.all_eq_true.1 (by rfl))),⟨(by exact(Vz cP (by exact⟨(.own (LP _)),trivial⟩))),⟨(X2 (fun x=>List.all_eq_true.1 (by rfl))),⟨wI,⟨⟨(by(rw[QZ (z:=1) (fun _=>rfl)];first|omega|(simp;omega)|(simp_all;done))),(by unfold maxLen;omega),by omega,rfl⟩,⟨⟨(by(rw[QZ (z:=1) (fun _=>rfl)];first|omega|(simp;omega)|(simp_all;done))),(by unfold maxLen;omega),by omega,rfl⟩,⟨(nL q0),trivial⟩⟩⟩⟩⟩⟩⟩⟩⟩))).cR
  ·intro s st gr kr sn gm km Jw s0 s1 hsn XZ hgm hgr T6 hkr ⟨Ql,Wl,X0⟩;have Zi:=Q2 (Qw hr).1;have hsl0:=JC (rf:=rf);have hpf:=(Xz hp).1;have hgrl:(gr.length:Int)=s:=by rw[hgr];exact Jp (by omega)
   have hkrl:(kr.length:Int)=s:=by rw[hkr];exact Jp (by omega)
   have hps:0<=plan.getD s.toNat La/\plan.getD s.toNat La<=1000000000:=by have:=Z1 hr hp s.toNat;show 0<=plan.getD s.toNat 0/\plan.getD s.toNat 0<=1000000000;omega
   by_cases q0:(s:Int)<rf.Qb
   ·have hp5:Qz (vu B rf plan s st gr kr sn gm km Ql):=by
     exact⟨(Xs q0),trivial⟩
    by_cases q1:(0:Int)<((↑rf.Qa.length:Int))
    ·have hp6:Qz (l6 B rf plan s st gr kr sn gm km Ql):=by
      exact⟨(iX (lX 1)),⟨(iX (lX 12)),⟨(Xs q1),hp5⟩⟩⟩
     cases q2:hasB (plan.getD s.toNat La) 0 with
     |true=>
      exact((ih0 _ (by omega)).2.2.1 (s) (1) (st) ([Qd.UR (rf.Qa.getD 0 La)]) ([if true=true then Qd.Vs (rf.Qa.getD 0 La)else Qd.VC (rf.Qa.getD 0 La)]) (gr) (kr) (sn) (1) (1) (gm) (km) rfl ‹_› ‹_› (by omega) (by omega) ‹_› ‹_› ‹_› ‹_› ‹_› ‹_› (by rfl) (by rfl) (by rfl) (by(rw[Jt];exact congrArg (fun z=>[z]) (Bs (k:=0) (by assumption)).symm))
       (X0.lM (Ga B rf plan s st gr kr sn gm km Ql)
       ⟨cS,⟨cP,⟨cP,⟨(XL (by kernel_rfl)),⟨(XL (by kernel_rfl)),⟨⟨trivial,Wu (rf.Qa.getD 0 La) (true)⟩,⟨⟨trivial,(dB (YN (plan.getD s.toNat La) (0) ‹_› (by omega)) q2)⟩,hp6⟩⟩⟩⟩⟩⟩⟩)).cR
     |false=>
      exact((ih0 _ (by omega)).2.2.1 (s) (1) (st) ([Qd.UR (rf.Qa.getD 0 La)]) ([if false=true then Qd.Vs (rf.Qa.getD 0 La)else Qd.VC (rf.Qa.getD 0 La)]) (gr) (kr) (sn) (1) (1) (gm) (km) rfl ‹_› ‹_› (by omega) (by omega) ‹_› ‹_› ‹_› ‹_› ‹_› ‹_› (by rfl) (by rfl) (by rfl) (by(rw[Jt];exact congrArg (fun z=>[z]) (Bt (k:=0) (by assumption)).symm))
       (X0.lM (C8 B rf plan s st gr kr sn gm km Ql)
       ⟨cS,⟨cP,⟨cP,⟨(XL (by kernel_rfl)),⟨(XL (by kernel_rfl)),⟨⟨trivial,Wu (rf.Qa.getD 0 La) (false)⟩,⟨⟨trivial,(dB (YN (plan.getD s.toNat La) (0) ‹_› (by omega)) q2)⟩,hp6⟩⟩⟩⟩⟩⟩⟩)).cR
    ·exfalso
     (have Zi:=Q2 (Qw hr).1;omega)
   ·exact(GoE.eT X0 (C7 B rf plan s st gr kr sn gm km Ql)
     ⟨(X2 (fun x=>List.all_eq_true.1 (by rfl))),⟨(VG (YH (by exact fun _=>rfl)) (LP _)),⟨(VG (YH (by exact fun _=>rfl)) (LP _)),⟨(nL q0),trivial⟩⟩⟩⟩).cast (by(rw[show Xo gm (Qe QP gr)=Xo (Va rf).length (Qe XM (Va rf))from rE (g:=fun _=>SB rf) (fun _=>On) hgr hgm (by omega),show Xo km (Qe QP kr)=Xo (Vi rf plan).length (Qe XM (Vi rf plan))from rE (g:=fun z=>SO rf (plan.getD z.toNat 0)) (fun _=>Mz) hkr T6 (by omega),hsn,XZ]))
set_option maxHeartbeats 4000000 in
theorem Nk(rf:Qc)(plan:List Int)(hr:X4 rf=true)(hp:XJ rf plan=true){B:Lo}(hJ:∀w,B.has w->J0 w):EndsT YP B (Qu YP 34 104 (([.agg (Q1 rf).toArray,X7 plan,.bool false]).map (Q4 0 4))) (bD rf plan):=by
 have Zi:=Q2 (Qw hr).1;have hsl0:=JC (rf:=rf);by_cases q0:(0:Int)<((↑rf.Qa.length:Int))
 ·exact((Gl rf plan hr hp hJ _).1 (1) ([Qd.count (rf.Qa.getD 0 La)]) (1) rfl (by omega) (by omega) (by rfl) (by rfl)
   (GoE.start.lM (C6 B rf plan)
   ⟨(XL (by kernel_rfl)),⟨(iX (lX 12)),⟨(Xs q0),trivial⟩⟩⟩)).cR
 ·exfalso
  (have Zi:=Q2 (Qw hr).1;omega)
theorem Qb5(rf:Qc)(plan:List Int)(hr:X4 rf=true)(hp:XJ rf plan=true):Qv YP J0 34 #[.agg (Q1 rf).toArray,X7 plan,.bool false] (bD rf plan):=
 Xd (ts:=[.agg (Q1 rf).toArray,X7 plan,.bool false]) Zc (c0:=Qu YP 34 104 (([.agg (Q1 rf).toArray,X7 plan,.bool false]).map (Q4 0 4))) (by kernel_rfl) (by kernel_rfl) fun B hJ=>Nk rf plan hr hp hJ
section
variable (x_:Qd)(B:Lo)(c0:CF)(rf:Qc)(plan:List Int)(s i:Int)(st gs ks:List Int)(gr kr:List RW)(sn gn kn gm km:Nat)(Ql:Nat->Value)
abbrev bB:Value:=.agg #[X7 (RE rf),Xo (Ve rf).length (Qe XM (Ve rf)),Xo (VI rf plan).length (Qe XM (VI rf plan))]
def Zk:Array Value:=#[YI x_.count,YI x_.room,YI x_.UR,YI x_.US,YI x_.QI,YI x_.Xw,YI x_.VB,YI x_.VC,YI x_.Vr,YI x_.Vs,YI x_.goal,YI x_.XF]
def eo:Array Value:=#[YI (if false=true then x_.Vr else x_.VB),YI (if false=true then x_.Vs else x_.VC)]
def ej:Array Value:=#[YI (if true=true then x_.Vr else x_.VB),YI (if true=true then x_.Vs else x_.VC)]
def VJ:Array Value:=#[YI (plan.getD 0 La)]
def dY:Array Value:=#[YI (plan.getD 0 La),YI 0]
def Pv:Array Value:=(Qe Qt rf.Qa)
def Yv:=(rf.Qa.getD 0 La)
def Yw:=(Yv rf)
def Vk:=(Yw rf)
def ei:Array Value:=#[.agg (Zk (Yw rf)),.bool false]
def eh:Array Value:=#[.agg (Zk (Yw rf)),.bool true]
def dZ:Array Value:=#[YI (Qd.US (Yw rf))]
def dX:Array Value:=(Qe Qy [Qd.US (Yw rf)])
def dW:Value:=(.agg (ej (Yw rf)))
def dV:Value:=(.agg (eo (Yw rf)))
def ql:Array Value:=#[YI (if false=true then Qd.Vr (Yv rf)else Qd.VB (Yv rf))]
def qk:Array Value:=#[YI (if true=true then Qd.Vr (Yv rf)else Qd.VB (Yv rf))]
def qj:Array Value:=(Qe Qy [if false=true then Qd.Vr (Yv rf)else Qd.VB (Yv rf)])
def qi:Array Value:=(Qe Qy [if true=true then Qd.Vr (rf.Qa.getD 0 La)else Qd.VB (rf.Qa.getD 0 La)])
def qh:Array Value:=#[Xo rf.Qa.length (Pv rf),YI rf.Qh,YI rf.Qb]
def bA:Array Value:=(Qe Qy [Qd.US (Vk rf)])
def b9:Value:=(.agg (ej (Vk rf)))
def b8:Value:=(.agg (eo (Vk rf)))
def qg:Array Value:=(Qe Qy [if false=true then Qd.Vr (Vk rf)else Qd.VB (Vk rf)])
def qf:Array Value:=(Qe Qy [if true=true then Qd.Vr (Vk rf)else Qd.VB (Vk rf)])
def RO(rf:Qc)(plan:List Int)(i:Int)(st:List Int)(sn:Nat):List Value:=[Qk 1 (X7 plan),.bool true,pA 2 0,pA 3 0,pA 4 0,YI i]
def Px(plan:List Int)(i:Int)(st:List Int)(sn:Nat):List Obj:=[Obj.cells #[Qk 1 (Xp rf.Qa),YI rf.Qh,YI rf.Qb] 24,Obj.cells #[.slice none 0 0,.slice none 0 0,.slice none 0 0] 42,.cells #[.slice (some ⟨5,0,none⟩) sn 1,.slice none 0 0,.slice none 0 0] 42 (0,0),.cells (Qe Qy st) 3 (0,0)]
def RQ:List Item:=([.code [1,1,0,1,0,0],.inLoop [1,1,0,1,0,0],.inBlock 0,.code [1,1,1]]).map (it (Q8 YP 34))
def FZ:Prop:=∃dJ:Nat->Value,(∀t,Xh (dJ t))/\GoE YP B c0 Zd 1 (QC 34 104 (([1,2,3,6,7,8]:List Nat).zip (RO rf plan i st sn)) dJ RQ) (Q9 (Px rf plan i st sn)) (2+(Px rf plan i st sn).length) []
def YS(rf:Qc)(plan:List Int)(i:Int)(st gs ks:List Int)(sn gn kn:Nat):List Value:=[Qk 1 (X7 plan),.bool true,pA 2 0,pA 3 0,pA 4 0,YI 0,.slice (some ⟨6,0,none⟩) gn 1,.slice (some ⟨7,0,none⟩) kn 1,YI i]
def KR(plan:List Int)(i:Int)(st gs ks:List Int)(sn gn kn:Nat):List Obj:=[Obj.cells #[Qk 1 (Xp rf.Qa),YI rf.Qh,YI rf.Qb] 24,Obj.cells #[.slice none 0 0,.slice none 0 0,.slice none 0 0] 42,.cells #[.slice (some ⟨5,0,none⟩) sn 1,.slice none 0 0,.slice none 0 0] 42 (0,0),.cells (Qe Qy st) 3 (0,0),.cells (Qe Qy gs) 3 (0,0),.cells (Qe Qy ks) 3 (0,0)]
def YU:List Item:=([.code [1,1,1,0,1,0,0,1,0,0,1,0,1,0,0],.inLoop [1,1,1,0,1,0,0,1,0,0,1,0,1,0,0],.inBlock 4,.code [1,1,1,0,1,0,0,1,0,0,1,1],.inBlock 3,.code [1,1,1,0,1,0,0,1,1],.inLoop [1,1,1,0,1,0,0],.inBlock 2,.code [1,1,1,1]]).map (it (Q8 YP 34))
def FY:Prop:=∃dJ:Nat->Value,(∀t,Xh (dJ t))/\GoE YP B c0 Zd 1 (QC 34 104 (([1,2,3,6,7,10,11,12,13]:List Nat).zip (YS rf plan i st gs ks sn gn kn)) dJ YU) (Q9 (KR rf plan i st gs ks sn gn kn)) (2+(KR rf plan i st gs ks sn gn kn).length) []
def YQ(rf:Qc)(plan:List Int)(s i:Int)(st gs ks:List Int)(gr kr:List RW)(sn gn kn gm km:Nat):List Value:=[Qk 1 (X7 plan),.bool true,pA 2 0,pA 3 0,pA 4 0,YI s,.slice (some ⟨8,0,none⟩) gn 1,.slice (some ⟨9,0,none⟩) kn 1,YI i]
def KQ(plan:List Int)(s i:Int)(st gs ks:List Int)(gr kr:List RW)(sn gn kn gm km:Nat):List Obj:=[Obj.cells #[Qk 1 (Xp rf.Qa),YI rf.Qh,YI rf.Qb] 24,Obj.cells #[.slice none 0 0,.slice none 0 0,.slice none 0 0] 42,.cells #[.slice (some ⟨5,0,none⟩) sn 1,.slice (some ⟨6,0,none⟩) gm 1,.slice (some ⟨7,0,none⟩) km 1] 42 (0,0),.cells (Qe Qy st) 3 (0,0),.cells (Qe (QY 1 QP) gr) 25 (0,0),.cells (Qe (QY 1 QP) kr) 25 (0,0),.cells (Qe Qy gs) 3 (0,0),.cells (Qe Qy ks) 3 (0,0)]
def YT:List Item:=([.code [1,1,1,0,1,0,0,1,0,0,1,0,1,0,0],.inLoop [1,1,1,0,1,0,0,1,0,0,1,0,1,0,0],.inBlock 4,.code [1,1,1,0,1,0,0,1,0,0,1,1],.inBlock 3,.code [1,1,1,0,1,0,0,1,1],.inLoop [1,1,1,0,1,0,0],.inBlock 2,.code [1,1,1,1]]).map (it (Q8 YP 34))
def FX:Prop:=∃dJ:Nat->Value,(∀t,Xh (dJ t))/\GoE YP B c0 Zd 1 (QC 34 104 (([1,2,3,6,7,10,11,12,13]:List Nat).zip (YQ rf plan s i st gs ks gr kr sn gn kn gm km)) dJ YT) (Q9 (KQ rf plan s i st gs ks gr kr sn gn kn gm km)) (2+(KQ rf plan s i st gs ks gr kr sn gn kn gm km).length) []
def RN(rf:Qc)(plan:List Int)(s:Int)(st:List Int)(gr kr:List RW)(sn gm km:Nat):List Value:=[Qk 1 (X7 plan),.bool true,pA 2 0,pA 3 0,pA 4 0,YI s]
def Pw(plan:List Int)(s:Int)(st:List Int)(gr kr:List RW)(sn gm km:Nat):List Obj:=[Obj.cells #[Qk 1 (Xp rf.Qa),YI rf.Qh,YI rf.Qb] 24,Obj.cells #[.slice none 0 0,.slice none 0 0,.slice none 0 0] 42,.cells #[.slice (some ⟨5,0,none⟩) sn 1,.slice (some ⟨6,0,none⟩) gm 1,.slice (some ⟨7,0,none⟩) km 1] 42 (0,0),.cells (Qe Qy st) 3 (0,0),.cells (Qe (QY 1 QP) gr) 25 (0,0),.cells (Qe (QY 1 QP) kr) 25 (0,0)]
def RP:List Item:=([.code [1,1,1,0,1,0,0],.inLoop [1,1,1,0,1,0,0],.inBlock 2,.code [1,1,1,1]]).map (it (Q8 YP 34))
def FW:Prop:=∃dJ:Nat->Value,(∀t,Xh (dJ t))/\GoE YP B c0 Zd 1 (QC 34 104 (([1,2,3,6,7,10]:List Nat).zip (RN rf plan s st gr kr sn gm km)) dJ RP) (Q9 (Pw rf plan s st gr kr sn gm km)) (2+(Pw rf plan s st gr kr sn gm km).length) []
theorem FU(B:Lo)(rf:Qc)(plan:List Int)(i:Int)(st:List Int)(sn:Nat)(Ql:Nat->Value):let g:=Px rf plan i st sn;let f:=rf.Qa;let c:=f.getD i.toNat La;let a:=c.count;let d:=J8 rf.Qh a;let h:=YI d;let b:=st++[J8 rf.Qh a];let e:=Qe Qy b;landM (Qn YP (Q0 YP) J0 B 18 1 (QC 34 104 (([1,2,3,6,7,8]:List Nat).zip (RO rf plan i st sn)) Ql RQ) (Q9 g) (2+g.length)
 [(4,Wj),(8,Qf.tidx i.toNat (Zk c)),(15,Qf.pure h []),(21,Qf.XO (Hint.app e)),(25,Zu (i+1))] 0 [] []) [1,2,3,6,7,8] [(2,KS.auto),(3,KS.auto),(4,KS.auto),(7,KS.cells [] e)] []=some ⟨34,104,RQ,[],.run,none,RO rf plan (i+1) b (sn+1),Px rf plan (i+1) b (sn+1),
 [QE 1 [] e e,wq (i+1)=i+1,PM (Qe Qy st) #[YI d] e sn (0+1) 8,Qz []/\Qv YP J0 60 #[.agg (qh rf),YI a] h,VN i f.length (Pv rf) Try.t54.size (Zk c),XB i (↑f.length:Int)=true]⟩:=by intro g f c a d h b e;kernel_rfl
def vj(B:Lo)(rf:Qc)(plan:List Int)(i:Int)(st:List Int)(sn:Nat)(Ql:Nat->Value):List Prop:=[XB i (↑rf.Qa.length:Int)=false]++([]:List Prop)
def vg(i:Int)(st:List Int)(sn:Nat)(Ql:Nat->Value):QA:=[(4,WC),(9,Wj),(17,Wj),(21,Qf.tidx 0 (Zk (rf.Qa.getD 0 La))),(31,Qf.tidx 0 (VJ plan))]
def vi:List Prop:=[XB 0 rf.Qb=true]++vj B rf plan i st sn Ql
def l5:List Prop:=let a:=rf.Qa;[0=(↑0:Int)/\0<Ld plan/\Lh (Qe Qy plan) (0*TypeInfo.size Try.t3) (0*TypeInfo.size Try.t3+TypeInfo.size Try.t3)=(VJ plan),0=(↑0:Int)/\0<Ld a/\Lh (Pv rf) (0*TypeInfo.size Try.t54) (0*TypeInfo.size Try.t54+TypeInfo.size Try.t54)=(Zk (a.getD 0 La)),XB 0 (↑a.length:Int)=true]++vi B rf plan i st sn Ql
theorem FT(B:Lo)(rf:Qc)(plan:List Int)(i:Int)(st:List Int)(sn:Nat)(Ql:Nat->Value):let e:=Px rf plan i st sn;let d:=Qe Qy st;let c:=Vk rf;let b:=Value.bool true;let a:=[if true=true then c.Vr else c.VB];landM (Qn YP (Q0 YP) J0 B 44 1 (QC 34 104 (([1,2,3,6,7,8]:List Nat).zip (RO rf plan i st sn)) Ql RQ) (Q9 e) (2+e.length)
 (vg rf plan i st sn Ql++[(34,Qf.pure b []),(35,Qf.pure (b9 rf) []),(46,Qf.tidx 0 (VJ plan)),(49,Qf.pure b []),(50,Qf.pure (b9 rf) [])]) 0 [] []) [1,2,3,6,7,10,11,12,13] [(2,KS.auto),(3,KS.auto),(4,KS.auto),(5,KS.cells [] d),(8,KS.cells [] (bA rf)),(10,KS.cells [] (qf rf))] []=some ⟨34,104,YU,[],.run,none,YS rf plan (1) (st) ([c.US]) a (sn) (1) (1),KR rf plan (1) (st) ([c.US]) a (sn) (1) (1),
 [QE 1 [] d d,QE 1 [] ((dZ rf)) (dX rf),QE 1 [] ((qk rf)) (qi rf),Qz []/\Qv YP J0 61 (eh rf) (dW rf),Qz []/\Qv YP J0 47 (dY plan) b,0=(↑0:Int)/\0<Ld plan/\Lh (Qe Qy plan) (0*TypeInfo.size Try.t3) (0*TypeInfo.size Try.t3+TypeInfo.size Try.t3)=(VJ plan),Qz []/\Qv YP J0 61 (eh rf) (dW rf),Qz []/\Qv YP J0 47 (dY plan) b]++l5 B rf plan i st sn Ql⟩:=by intro e d c b a;kernel_rfl
theorem FQ(B:Lo)(rf:Qc)(plan:List Int)(i:Int)(st:List Int)(sn:Nat)(Ql:Nat->Value):let e:=Px rf plan i st sn;let d:=Qe Qy st;let c:=Vk rf;let b:=Value.bool false;let a:=[if false=true then c.Vr else c.VB];landM (Qn YP (Q0 YP) J0 B 44 1 (QC 34 104 (([1,2,3,6,7,8]:List Nat).zip (RO rf plan i st sn)) Ql RQ) (Q9 e) (2+e.length)
 (vg rf plan i st sn Ql++[(34,Qf.pure b []),(35,Qf.pure (b8 rf) []),(46,Qf.tidx 0 (VJ plan)),(49,Qf.pure b []),(50,Qf.pure (b8 rf) [])]) 0 [] []) [1,2,3,6,7,10,11,12,13] [(2,KS.auto),(3,KS.auto),(4,KS.auto),(5,KS.cells [] d),(8,KS.cells [] (bA rf)),(10,KS.cells [] (qg rf))] []=some ⟨34,104,YU,[],.run,none,YS rf plan (1) (st) ([c.US]) a (sn) (1) (1),KR rf plan (1) (st) ([c.US]) a (sn) (1) (1),
 [QE 1 [] d d,QE 1 [] ((dZ rf)) (dX rf),QE 1 [] ((ql rf)) (qj rf),Qz []/\Qv YP J0 61 (ei rf) (dV rf),Qz []/\Qv YP J0 47 (dY plan) b,0=(↑0:Int)/\0<Ld plan/\Lh (Qe Qy plan) (0*TypeInfo.size Try.t3) (0*TypeInfo.size Try.t3+TypeInfo.size Try.t3)=(VJ plan),Qz []/\Qv YP J0 61 (ei rf) (dV rf),Qz []/\Qv YP J0 47 (dY plan) b]++l5 B rf plan i st sn Ql⟩:=by intro e d c b a;kernel_rfl
def lz(B:Lo)(rf:Qc)(plan:List Int)(i:Int)(st gs ks:List Int)(sn gn kn:Nat)(Ql:Nat->Value):List Prop:=let a:=rf.Qa;[0=(↑0:Int)/\0<Ld plan/\Lh (Qe Qy plan) (0*TypeInfo.size Try.t3) (0*TypeInfo.size Try.t3+TypeInfo.size Try.t3)=(VJ plan),VN i a.length (Pv rf) Try.t54.size (Zk (a.getD i.toNat La)),XB i (↑a.length:Int)=true]++([]:List Prop)
def vf(st gs ks:List Int)(sn gn kn:Nat)(Ql:Nat->Value):QA:=[(4,Wj),(8,Qf.tidx i.toNat (Zk (rf.Qa.getD i.toNat La))),(18,Qf.tidx 0 (VJ plan))]
theorem FP(B:Lo)(rf:Qc)(plan:List Int)(i:Int)(st gs ks:List Int)(sn gn kn:Nat)(Ql:Nat->Value):let k:=plan.getD 0 La;let j:=Qe Qy st;let h:=KR rf plan i st gs ks sn gn kn;let e:=Value.bool true;let a:=rf.Qa.getD i.toNat La;let g:=gs++[a.US];let d:=Value.agg (ej a);let c:=Qe Qy g;let b:=ks++[if true=true then a.Vr else a.VB];let f:=Qe Qy b;landM (Qn YP (Q0 YP) J0 B 20 1 (QC 34 104 (([1,2,3,6,7,10,11,12,13]:List Nat).zip (YS rf plan i st gs ks sn gn kn)) Ql YU) (Q9 h) (2+h.length)
 (vf rf plan i st gs ks sn gn kn Ql++[(21,Qf.pure e []),(22,Qf.pure d []),(33,Qf.tidx 0 (VJ plan)),(36,Qf.pure e []),(37,Qf.pure d []),(44,Qf.XO (Hint.app c)),(48,Qf.XO (Hint.app f)),(52,Zu (i+1))]) 0 [] []) [1,2,3,6,7,10,11,12,13] [(2,KS.auto),(3,KS.auto),(4,KS.auto),(5,KS.cells [] j),(10,KS.cells [] c),(12,KS.cells [] f)] []=some ⟨34,104,YU,[],.run,none,YS rf plan (i+1) (st) g b (sn) (gn+1) (kn+1),KR rf plan (i+1) (st) g b (sn) (gn+1) (kn+1),
 [QE 1 [] j j,QE 1 [] c c,QE 1 [] f f,wq (i+1)=i+1,PM (Qe Qy ks) #[YI (if true=true then a.Vr else a.VB)] f kn (0+1) 8,PM (Qe Qy gs) #[YI a.US] c gn (0+1) 8,Qz []/\Qv YP J0 61 #[.agg (Zk a),.bool true] d,Qz []/\Qv YP J0 47 #[YI k,YI i] e,0=(↑0:Int)/\0<Ld plan/\Lh (Qe Qy plan) (0*TypeInfo.size Try.t3) (0*TypeInfo.size Try.t3+TypeInfo.size Try.t3)=(VJ plan),Qz []/\Qv YP J0 61 #[.agg (Zk a),.bool true] d,Qz []/\Qv YP J0 47 #[YI k,YI i] e]++lz B rf plan i st gs ks sn gn kn Ql⟩:=by intro k j h e a g d c b f;kernel_rfl
theorem FO(B:Lo)(rf:Qc)(plan:List Int)(i:Int)(st gs ks:List Int)(sn gn kn:Nat)(Ql:Nat->Value):let k:=plan.getD 0 La;let j:=Qe Qy st;let h:=KR rf plan i st gs ks sn gn kn;let e:=Value.bool false;let a:=rf.Qa.getD i.toNat La;let g:=gs++[a.US];let d:=Value.agg (eo a);let c:=Qe Qy g;let b:=ks++[if false=true then a.Vr else a.VB];let f:=Qe Qy b;landM (Qn YP (Q0 YP) J0 B 20 1 (QC 34 104 (([1,2,3,6,7,10,11,12,13]:List Nat).zip (YS rf plan i st gs ks sn gn kn)) Ql YU) (Q9 h) (2+h.length)
 (vf rf plan i st gs ks sn gn kn Ql++[(21,Qf.pure e []),(22,Qf.pure d []),(33,Qf.tidx 0 (VJ plan)),(36,Qf.pure e []),(37,Qf.pure d []),(44,Qf.XO (Hint.app c)),(48,Qf.XO (Hint.app f)),(52,Zu (i+1))]) 0 [] []) [1,2,3,6,7,10,11,12,13] [(2,KS.auto),(3,KS.auto),(4,KS.auto),(5,KS.cells [] j),(10,KS.cells [] c),(12,KS.cells [] f)] []=some ⟨34,104,YU,[],.run,none,YS rf plan (i+1) (st) g b (sn) (gn+1) (kn+1),KR rf plan (i+1) (st) g b (sn) (gn+1) (kn+1),
 [QE 1 [] j j,QE 1 [] c c,QE 1 [] f f,wq (i+1)=i+1,PM (Qe Qy ks) #[YI (if false=true then a.Vr else a.VB)] f kn (0+1) 8,PM (Qe Qy gs) #[YI a.US] c gn (0+1) 8,Qz []/\Qv YP J0 61 #[.agg (Zk a),.bool false] d,Qz []/\Qv YP J0 47 #[YI k,YI i] e,0=(↑0:Int)/\0<Ld plan/\Lh (Qe Qy plan) (0*TypeInfo.size Try.t3) (0*TypeInfo.size Try.t3+TypeInfo.size Try.t3)=(VJ plan),Qz []/\Qv YP J0 61 #[.agg (Zk a),.bool false] d,Qz []/\Qv YP J0 47 #[YI k,YI i] e]++lz B rf plan i st gs ks sn gn kn Ql⟩:=by intro k j h e a g d c b f;kernel_rfl
theorem FN(B:Lo)(rf:Qc)(plan:List Int)(i:Int)(st gs ks:List Int)(sn gn kn:Nat)(Ql:Nat->Value):let f:=[{n:=kn,l:=ks}];let e:=[{n:=gn,l:=gs}];let d:=Qe Qy st;let c:=KR rf plan i st gs ks sn gn kn;let b:=Qe (QY 1 QP) [{n:=kn,l:=ks}];let a:=Qe (QY 1 QP) [{n:=gn,l:=gs}];landM (Qn YP (Q0 YP) J0 B 9 1 (QC 34 104 (([1,2,3,6,7,10,11,12,13]:List Nat).zip (YS rf plan i st gs ks sn gn kn)) Ql YU) (Q9 c) (2+c.length)
 [(4,WC)] 0 [] []) [1,2,3,6,7,10] [(2,KS.auto),(3,KS.auto),(4,KS.auto),(5,KS.cells [] d),(9,KS.rows [] [6] [] a),(11,KS.rows [] [7] [] b)] [{k:=6,rs:=[],cs:=Qe Qy gs},{k:=7,rs:=[],cs:=Qe Qy ks}]=some ⟨34,104,RP,[],.run,none,RN rf plan (1) (st) e f (sn) (1) (1),Pw rf plan (1) (st) e f (sn) (1) (1),
 [QE 1 [] d d,QX 1 [] [(6,Fz.cs {k:=6,rs:=[],cs:=Qe Qy gs})] [] #[.slice (some {block:=6,off:=0}) gn 1] a,X1 (Fz.rs {k:=6,rs:=[],cs:=Qe Qy gs}) (Qe Qy gs) (Fz.cs {k:=6,rs:=[],cs:=Qe Qy gs}),QX 1 [] [(7,Fz.cs {k:=7,rs:=[],cs:=Qe Qy ks})] [] #[.slice (some {block:=7,off:=0}) kn 1] b,X1 (Fz.rs {k:=7,rs:=[],cs:=Qe Qy ks}) (Qe Qy ks) (Fz.cs {k:=7,rs:=[],cs:=Qe Qy ks}),XB i (↑rf.Qa.length:Int)=false]⟩:=by intro f e d c b a;kernel_rfl
def ly(B:Lo)(rf:Qc)(plan:List Int)(s i:Int)(st gs ks:List Int)(gr kr:List RW)(sn gn kn gm km:Nat)(Ql:Nat->Value):List Prop:=let a:=rf.Qa;[VN s plan.length (Qe Qy plan) Try.t3.size #[YI (plan.getD s.toNat La)],VN i a.length (Pv rf) Try.t54.size (Zk (a.getD i.toNat La)),XB i (↑a.length:Int)=true]++([]:List Prop)
def vd(st gs ks:List Int)(gr kr:List RW)(sn gn kn gm km:Nat)(Ql:Nat->Value):QA:=[(4,Wj),(8,Qf.tidx i.toNat (Zk (rf.Qa.getD i.toNat La))),(18,Qf.tidx s.toNat #[YI (plan.getD s.toNat La)])]
theorem FM(B:Lo)(rf:Qc)(plan:List Int)(s i:Int)(st gs ks:List Int)(gr kr:List RW)(sn gn kn gm km:Nat)(Ql:Nat->Value):let l:=Qe Qy st;let h:=Value.bool true;let g:=KQ rf plan s i st gs ks gr kr sn gn kn gm km;let e:=QY 1 QP;let d:=plan.getD s.toNat La;let a:=rf.Qa.getD i.toNat La;let k:=gs++[a.US];let f:=Value.agg (ej a);let c:=Qe Qy k;let b:=ks++[if true=true then a.Vr else a.VB];let j:=Qe Qy b;landM (Qn YP (Q0 YP) J0 B 20 1 (QC 34 104 (([1,2,3,6,7,10,11,12,13]:List Nat).zip (YQ rf plan s i st gs ks gr kr sn gn kn gm km)) Ql YT) (Q9 g) (2+g.length)
 (vd rf plan s i st gs ks gr kr sn gn kn gm km Ql++[(21,Qf.pure h []),(22,Qf.pure f []),(33,Qf.tidx s.toNat #[YI d]),(36,Qf.pure h []),(37,Qf.pure f []),(44,Qf.XO (Hint.app c)),(48,Qf.XO (Hint.app j)),(52,Zu (i+1))]) 0 [] []) [1,2,3,6,7,10,11,12,13] [(2,KS.auto),(3,KS.auto),(4,KS.auto),(5,KS.cells [] l),(6,KS.rows [(1,1)] [] [] (Qe e gr)),(7,KS.rows [(1,1)] [] [] (Qe e kr)),(12,KS.cells [] c),(14,KS.cells [] j)] []=some ⟨34,104,YT,[],.run,none,YQ rf plan (s) (i+1) (st) k b (gr) (kr) (sn) (gn+1) (kn+1) (gm) (km),KQ rf plan (s) (i+1) (st) k b (gr) (kr) (sn) (gn+1) (kn+1) (gm) (km),
 [QE 1 [] l l,QX 1 [(1,1)] [] [] (Qe e gr) (Qe e gr),QX 1 [(1,1)] [] [] (Qe e kr) (Qe e kr),QE 1 [] c c,QE 1 [] j j,wq (i+1)=i+1,PM (Qe Qy ks) #[YI (if true=true then a.Vr else a.VB)] j kn (0+1) 8,PM (Qe Qy gs) #[YI a.US] c gn (0+1) 8,Qz []/\Qv YP J0 61 #[.agg (Zk a),.bool true] f,Qz []/\Qv YP J0 47 #[YI d,YI i] h,VN s plan.length (Qe Qy plan) Try.t3.size #[YI d],Qz []/\Qv YP J0 61 #[.agg (Zk a),.bool true] f,Qz []/\Qv YP J0 47 #[YI d,YI i] h]++ly B rf plan s i st gs ks gr kr sn gn kn gm km Ql⟩:=by intro l h g e d a k f c b j;kernel_rfl
theorem FL(B:Lo)(rf:Qc)(plan:List Int)(s i:Int)(st gs ks:List Int)(gr kr:List RW)(sn gn kn gm km:Nat)(Ql:Nat->Value):let l:=Qe Qy st;let h:=Value.bool false;let g:=KQ rf plan s i st gs ks gr kr sn gn kn gm km;let e:=QY 1 QP;let d:=plan.getD s.toNat La;let a:=rf.Qa.getD i.toNat La;let k:=gs++[a.US];let f:=Value.agg (eo a);let c:=Qe Qy k;let b:=ks++[if false=true then a.Vr else a.VB];let j:=Qe Qy b;landM (Qn YP (Q0 YP) J0 B 20 1 (QC 34 104 (([1,2,3,6,7,10,11,12,13]:List Nat).zip (YQ rf plan s i st gs ks gr kr sn gn kn gm km)) Ql YT) (Q9 g) (2+g.length)
 (vd rf plan s i st gs ks gr kr sn gn kn gm km Ql++[(21,Qf.pure h []),(22,Qf.pure f []),(33,Qf.tidx s.toNat #[YI d]),(36,Qf.pure h []),(37,Qf.pure f []),(44,Qf.XO (Hint.app c)),(48,Qf.XO (Hint.app j)),(52,Zu (i+1))]) 0 [] []) [1,2,3,6,7,10,11,12,13] [(2,KS.auto),(3,KS.auto),(4,KS.auto),(5,KS.cells [] l),(6,KS.rows [(1,1)] [] [] (Qe e gr)),(7,KS.rows [(1,1)] [] [] (Qe e kr)),(12,KS.cells [] c),(14,KS.cells [] j)] []=some ⟨34,104,YT,[],.run,none,YQ rf plan (s) (i+1) (st) k b (gr) (kr) (sn) (gn+1) (kn+1) (gm) (km),KQ rf plan (s) (i+1) (st) k b (gr) (kr) (sn) (gn+1) (kn+1) (gm) (km),
 [QE 1 [] l l,QX 1 [(1,1)] [] [] (Qe e gr) (Qe e gr),QX 1 [(1,1)] [] [] (Qe e kr) (Qe e kr),QE 1 [] c c,QE 1 [] j j,wq (i+1)=i+1,PM (Qe Qy ks) #[YI (if false=true then a.Vr else a.VB)] j kn (0+1) 8,PM (Qe Qy gs) #[YI a.US] c gn (0+1) 8,Qz []/\Qv YP J0 61 #[.agg (Zk a),.bool false] f,Qz []/\Qv YP J0 47 #[YI d,YI i] h,VN s plan.length (Qe Qy plan) Try.t3.size #[YI d],Qz []/\Qv YP J0 61 #[.agg (Zk a),.bool false] f,Qz []/\Qv YP J0 47 #[YI d,YI i] h]++ly B rf plan s i st gs ks gr kr sn gn kn gm km Ql⟩:=by intro l h g e d a k f c b j;kernel_rfl
theorem FK(B:Lo)(rf:Qc)(plan:List Int)(s i:Int)(st gs ks:List Int)(gr kr:List RW)(sn gn kn gm km:Nat)(Ql:Nat->Value):let j:=Qe Qy st;let h:=some {block:=8,off:=0};let g:=some {block:=9,off:=0};let f:=KQ rf plan s i st gs ks gr kr sn gn kn gm km;let e:=kr++[{n:=kn,l:=ks}];let d:=gr++[{n:=gn,l:=gs}];let c:=QY 1 QP;let b:=Qe c kr++#[.slice g kn 1];let a:=Qe c gr++#[.slice h gn 1];landM (Qn YP (Q0 YP) J0 B 9 1 (QC 34 104 (([1,2,3,6,7,10,11,12,13]:List Nat).zip (YQ rf plan s i st gs ks gr kr sn gn kn gm km)) Ql YT) (Q9 f) (2+f.length)
 [(4,WC),(9,Qf.XO (Hint.app a)),(14,Qf.XO (Hint.app b)),(20,Zu (s+1))] 0 [] []) [1,2,3,6,7,10] [(2,KS.auto),(3,KS.auto),(4,KS.auto),(5,KS.cells [] j),(11,KS.rows [(1,1)] [8] [] (Qe c d)),(13,KS.rows [(1,1)] [9] [] (Qe c e))] [{k:=8,rs:=[],cs:=Qe Qy gs},{k:=9,rs:=[],cs:=Qe Qy ks}]=some ⟨34,104,RP,[],.run,none,RN rf plan (s+1) (st) d e (sn) (gm+1) (km+1),Pw rf plan (s+1) (st) d e (sn) (gm+1) (km+1),
 [QE 1 [] j j,QX 1 [(1,1)] [(8,Fz.cs {k:=8,rs:=[],cs:=Qe Qy gs})] [] a (Qe c d),X1 (Fz.rs {k:=8,rs:=[],cs:=Qe Qy gs}) (Qe Qy gs) (Fz.cs {k:=8,rs:=[],cs:=Qe Qy gs}),QX 1 [(1,1)] [(9,Fz.cs {k:=9,rs:=[],cs:=Qe Qy ks})] [] b (Qe c e),X1 (Fz.rs {k:=9,rs:=[],cs:=Qe Qy ks}) (Qe Qy ks) (Fz.cs {k:=9,rs:=[],cs:=Qe Qy ks}),wq (s+1)=s+1,PM ((Qe c kr)) #[.slice g kn 1] b km (0+1) 24,PM ((Qe c gr)) #[.slice h gn 1] a gm (0+1) 24,XB i (↑rf.Qa.length:Int)=false]⟩:=by intro j h g f e d c b a;kernel_rfl
def vh(B:Lo)(rf:Qc)(plan:List Int)(s:Int)(st:List Int)(gr kr:List RW)(sn gm km:Nat)(Ql:Nat->Value):List Prop:=[XB s rf.Qb=true]++([]:List Prop)
def va(st:List Int)(gr kr:List RW)(sn gm km:Nat)(Ql:Nat->Value):QA:=[(3,Wj),(11,Wj),(15,Qf.tidx 0 (Zk (rf.Qa.getD 0 La))),(25,Qf.tidx s.toNat #[YI (plan.getD s.toNat La)])]
def lx:List Prop:=let a:=rf.Qa;[VN s plan.length (Qe Qy plan) Try.t3.size #[YI (plan.getD s.toNat La)],0=(↑0:Int)/\0<Ld a/\Lh (Pv rf) (0*TypeInfo.size Try.t54) (0*TypeInfo.size Try.t54+TypeInfo.size Try.t54)=(Zk (a.getD 0 La)),XB 0 (↑a.length:Int)=true]++vh B rf plan s st gr kr sn gm km Ql
theorem FI(B:Lo)(rf:Qc)(plan:List Int)(s:Int)(st:List Int)(gr kr:List RW)(sn gm km:Nat)(Ql:Nat->Value):let g:=Qe Qy st;let f:=Vk rf;let e:=Pw rf plan s st gr kr sn gm km;let d:=Value.bool true;let c:=QY 1 QP;let b:=[if true=true then f.Vr else f.VB];let a:=plan.getD s.toNat La;landM (Qn YP (Q0 YP) J0 B 34 1 (QC 34 104 (([1,2,3,6,7,10]:List Nat).zip (RN rf plan s st gr kr sn gm km)) Ql RP) (Q9 e) (2+e.length)
 (va rf plan s st gr kr sn gm km Ql++[(28,Qf.pure d []),(29,Qf.pure (b9 rf) []),(40,Qf.tidx s.toNat #[YI a]),(43,Qf.pure d []),(44,Qf.pure (b9 rf) [])]) 0 [] []) [1,2,3,6,7,10,11,12,13] [(2,KS.auto),(3,KS.auto),(4,KS.auto),(5,KS.cells [] g),(6,KS.rows [(1,1)] [] [] (Qe c gr)),(7,KS.rows [(1,1)] [] [] (Qe c kr)),(10,KS.cells [] (bA rf)),(12,KS.cells [] (qf rf))] []=some ⟨34,104,YT,[],.run,none,YQ rf plan (s) (1) (st) ([f.US]) b (gr) (kr) (sn) (1) (1) (gm) (km),KQ rf plan (s) (1) (st) ([f.US]) b (gr) (kr) (sn) (1) (1) (gm) (km),
 [QE 1 [] g g,QX 1 [(1,1)] [] [] (Qe c gr) (Qe c gr),QX 1 [(1,1)] [] [] (Qe c kr) (Qe c kr),QE 1 [] ((dZ rf)) (dX rf),QE 1 [] ((qk rf)) (qi rf),Qz []/\Qv YP J0 61 (eh rf) (dW rf),Qz []/\Qv YP J0 47 #[YI a,YI 0] d,VN s plan.length (Qe Qy plan) Try.t3.size #[YI a],Qz []/\Qv YP J0 61 (eh rf) (dW rf),Qz []/\Qv YP J0 47 #[YI a,YI 0] d]++lx B rf plan s st gr kr sn gm km Ql⟩:=by intro g f e d c b a;kernel_rfl
theorem C5(B:Lo)(rf:Qc)(plan:List Int)(s:Int)(st:List Int)(gr kr:List RW)(sn gm km:Nat)(Ql:Nat->Value):let g:=Qe Qy st;let f:=Vk rf;let e:=Pw rf plan s st gr kr sn gm km;let d:=Value.bool false;let c:=QY 1 QP;let b:=[if false=true then f.Vr else f.VB];let a:=plan.getD s.toNat La;landM (Qn YP (Q0 YP) J0 B 34 1 (QC 34 104 (([1,2,3,6,7,10]:List Nat).zip (RN rf plan s st gr kr sn gm km)) Ql RP) (Q9 e) (2+e.length)
 (va rf plan s st gr kr sn gm km Ql++[(28,Qf.pure d []),(29,Qf.pure (b8 rf) []),(40,Qf.tidx s.toNat #[YI a]),(43,Qf.pure d []),(44,Qf.pure (b8 rf) [])]) 0 [] []) [1,2,3,6,7,10,11,12,13] [(2,KS.auto),(3,KS.auto),(4,KS.auto),(5,KS.cells [] g),(6,KS.rows [(1,1)] [] [] (Qe c gr)),(7,KS.rows [(1,1)] [] [] (Qe c kr)),(10,KS.cells [] (bA rf)),(12,KS.cells [] (qg rf))] []=some ⟨34,104,YT,[],.run,none,YQ rf plan (s) (1) (st) ([f.US]) b (gr) (kr) (sn) (1) (1) (gm) (km),KQ rf plan (s) (1) (st) ([f.US]) b (gr) (kr) (sn) (1) (1) (gm) (km),
 [QE 1 [] g g,QX 1 [(1,1)] [] [] (Qe c gr) (Qe c gr),QX 1 [(1,1)] [] [] (Qe c kr) (Qe c kr),QE 1 [] ((dZ rf)) (dX rf),QE 1 [] ((ql rf)) (qj rf),Qz []/\Qv YP J0 61 (ei rf) (dV rf),Qz []/\Qv YP J0 47 #[YI a,YI 0] d,VN s plan.length (Qe Qy plan) Try.t3.size #[YI a],Qz []/\Qv YP J0 61 (ei rf) (dV rf),Qz []/\Qv YP J0 47 #[YI a,YI 0] d]++lx B rf plan s st gr kr sn gm km Ql⟩:=by intro g f e d c b a;kernel_rfl
theorem C4(B:Lo)(rf:Qc)(plan:List Int)(s:Int)(st:List Int)(gr kr:List RW)(sn gm km:Nat)(Ql:Nat->Value):let d:=Pw rf plan s st gr kr sn gm km;let c:=Fz.cs {k:=5,rs:=[],cs:=Qe Qy st};let b:=Fz.cs {k:=7,rs:=[1],cs:=Qe QP kr};let a:=Fz.cs {k:=6,rs:=[1],cs:=Qe QP gr};Xv (Qn YP (Q0 YP) J0 B 9 1 (QC 34 104 (([1,2,3,6,7,10]:List Nat).zip (RN rf plan s st gr kr sn gm km)) Ql RP) (Q9 d) (2+d.length)
 [(3,WC)] 0 [] []) [{k:=5,rs:=[],cs:=Qe Qy st},{k:=6,rs:=[1],cs:=Qe QP gr},{k:=7,rs:=[1],cs:=Qe QP kr}]=some (.agg #[Xo sn c,Xo gm a,Xo km b],
 [X1 (Fz.rs {k:=5,rs:=[],cs:=Qe Qy st}) (Qe Qy st) c,X1 (Fz.rs {k:=6,rs:=[1],cs:=Qe QP gr}) (Qe (QY 1 QP) gr) a,X1 (Fz.rs {k:=7,rs:=[1],cs:=Qe QP kr}) (Qe (QY 1 QP) kr) b,XB s rf.Qb=false]):=by intro d c b a;kernel_rfl
theorem C3(B:Lo)(rf:Qc)(plan:List Int):let d:=rf.Qa;let c:=Qd.count (Vk rf);let b:=rf.Qh;let a:=Qd.count (d.getD 0 La);landM (Qn YP (Q0 YP) J0 B 27 1 (Qu YP 34 104 (([.agg (Q1 rf).toArray,X7 plan,.bool true]).map (Q4 0 4))) Zd 1
 [(8,Wj),(12,Qf.tidx 0 (Zk (Vk rf))),(19,Qf.pure (YI (J8 b c)) [])] 0 [] []) [1,2,3,6,7,8] [(1,KS.auto),(2,KS.auto),(3,KS.auto),(5,KS.cells [] (Qe Qy [J8 b c]))] []=some ⟨34,104,RQ,[],.run,none,RO rf plan (1) ([J8 b c]) (1),Px rf plan (1) ([J8 b c]) (1),
 [QE 1 [] (#[YI (J8 b a)]) (Qe Qy [J8 b a]),Qz []/\Qv YP J0 60 #[.agg (qh rf),YI a] (YI (J8 b a)),0=(↑0:Int)/\0<Ld d/\Lh (Pv rf) (0*TypeInfo.size Try.t54) (0*TypeInfo.size Try.t54+TypeInfo.size Try.t54)=(Zk (d.getD 0 La)),XB 0 (↑d.length:Int)=true]⟩:=by intro d c b a;kernel_rfl
end
set_option maxHeartbeats 4000000 in
theorem FV(rf:Qc)(plan:List Int)(hr:X4 rf=true)(hp:XJ rf plan=true){B:Lo}(hJ:∀w,B.has w->J0 w){c0:CF}:∀m:Nat,(∀(i:Int) (st:List Int) (sn:Nat),10000+(rf.Qa.length-i.toNat)=m->∀(h0:1<=i) (h1:i<=rf.Qa.length) (hsn:sn=st.length) (XZ:st=TF (sV true rf) i),FZ B c0 rf plan i st sn->EndsT YP B c0 (bB rf plan))/\(∀(i:Int) (st gs ks:List Int) (sn gn kn:Nat),9000+(rf.Qa.length-i.toNat)=m->∀(h0:1<=i) (h1:i<=rf.Qa.length) (hsn:sn=st.length) (XZ:st=RE rf) (UQ:gn=gs.length) (hg:gs=TF (gV true rf) i) (hkn:kn=ks.length) (hk:ks=TF (kV true rf (plan.getD 0 0)) i),FY B c0 rf plan i st gs ks sn gn kn->EndsT YP B c0 (bB rf plan))/\(∀(s i:Int) (st gs ks:List Int) (gr kr:List RW) (sn gn kn gm km:Nat),100*(rf.Qb-s).toNat+(rf.Qa.length-i.toNat)=m->∀(s0:1<=s) (s1:s<rf.Qb) (h0:1<=i) (h1:i<=rf.Qa.length) (hsn:sn=st.length) (XZ:st=RE rf) (hgm:gm=gr.length) (hgr:gr=(PQ 0 s).map fun _=>⟨rf.Qa.length,Ec rf⟩) (T6:km=kr.length) (hkr:kr=(PQ 0 s).map fun z=>⟨rf.Qa.length,BJ rf (plan.getD z.toNat 0)⟩) (UQ:gn=gs.length) (hg:gs=TF (gV true rf) i) (hkn:kn=ks.length) (hk:ks=TF (kV true rf (plan.getD s.toNat 0)) i),FX B c0 rf plan s i st gs ks gr kr sn gn kn gm km->EndsT YP B c0 (bB rf plan))/\(∀(s:Int) (st:List Int) (gr kr:List RW) (sn gm km:Nat),100*(rf.Qb-s).toNat+99=m->∀(s0:1<=s) (s1:s<=rf.Qb) (hsn:sn=st.length) (XZ:st=RE rf) (hgm:gm=gr.length) (hgr:gr=(PQ 0 s).map fun _=>⟨rf.Qa.length,Ec rf⟩) (T6:km=kr.length) (hkr:kr=(PQ 0 s).map fun z=>⟨rf.Qa.length,BJ rf (plan.getD z.toNat 0)⟩),FW B c0 rf plan s st gr kr sn gm km->EndsT YP B c0 (bB rf plan)):=by
 intro m0;induction m0 using LB with
 |_ m0 ih0=>
  refine⟨?_, ?_, ?_, ?_⟩
  ·intro i st sn Jw h0 h1 hsn XZ ⟨Ql,Wl,X0⟩;have Zi:=Q2 (Qw hr).1;have hsl0:=JD (rf:=rf);have hpq:0<=plan.getD 0 La/\plan.getD 0 La<=1000000000:=by have:=Z1 hr hp 0;show 0<=plan.getD 0 0/\plan.getD 0 0<=1000000000;omega
   have hpf:=(Xz hp).1;have hpq:0<=plan.getD 0 La/\plan.getD 0 La<=1000000000:=by have:=Z1 hr hp 0;show 0<=plan.getD 0 0/\plan.getD 0 0<=1000000000;omega
   have hsl:(st.length:Int)=i:=by rw[XZ];exact Kh (by omega)
   by_cases q0:(i:Int)<((↑rf.Qa.length:Int))
   ·have hci:=(Zg ((Qw hr).2 i (by omega) q0).1).1;exact((ih0 _ (by omega)).1 (i+1) (st++[J8 rf.Qh (Qd.count (rf.Qa.getD i.toNat La))]) (sn+1) rfl (by omega) (by omega) (by(simp only[Ls,Lr,LD];omega)) (by(rw[XZ];exact Zr (by omega)))
     (X0.lM (FU B rf plan i st sn Ql)
     ⟨cS,⟨wI,⟨⟨(by(rw[QZ (z:=1) (fun _=>rfl)];first|omega|(simp;omega)|(simp_all;done))),(by unfold maxLen;omega),by omega,by first|exact XH|exact XC rfl⟩,⟨⟨trivial,OL (rf) (Qd.count (rf.Qa.getD i.toNat La)) (by omega) (by omega)⟩,⟨(iX (lX 12)),⟨(Xs q0),trivial⟩⟩⟩⟩⟩⟩)).cR
   ·have VO:Qz (vj B rf plan i st sn Ql):=by
     exact⟨(nL q0),trivial⟩
    by_cases q1:(0:Int)<rf.Qb
    ·have hp1:Qz (vi B rf plan i st sn Ql):=by
      exact⟨(Xs q1),VO⟩
     by_cases q2:(0:Int)<((↑rf.Qa.length:Int))
     ·have YF:Qz (l5 B rf plan i st sn Ql):=by
       exact⟨(iX (lX 1)),⟨(iX (lX 12)),⟨(Xs q2),hp1⟩⟩⟩
      cases q3:hasB (plan.getD 0 La) 0 with
      |true=>
       have hse:st=RE rf:=by rw[XZ,show i=rf.Qa.length by omega];exact rD (b:=true)
       exact((ih0 _ (by omega)).2.1 (1) (st) ([Qd.US (rf.Qa.getD 0 La)]) ([if true=true then Qd.Vr (rf.Qa.getD 0 La)else Qd.VB (rf.Qa.getD 0 La)]) (sn) (1) (1) rfl (by omega) (by omega) ‹_› ‹_› (by rfl) (by rfl) (by rfl) (by(rw[Jt];exact congrArg (fun z=>[z]) (Bq (k:=0) (by assumption)).symm))
        (X0.lM (FT B rf plan i st sn Ql)
        ⟨cS,⟨(XL (by kernel_rfl)),⟨(XL (by kernel_rfl)),⟨⟨trivial,Wu (rf.Qa.getD 0 La) (true)⟩,⟨⟨trivial,(dB (YN (plan.getD 0 La) (0) ‹_› (by omega)) q3)⟩,⟨(iX (lX 1)),⟨⟨trivial,Wu (rf.Qa.getD 0 La) (true)⟩,⟨⟨trivial,(dB (YN (plan.getD 0 La) (0) ‹_› (by omega)) q3)⟩,YF⟩⟩⟩⟩⟩⟩⟩⟩)).cR
      |false=>
       have hse:st=RE rf:=by rw[XZ,show i=rf.Qa.length by omega];exact rD (b:=true)
       exact((ih0 _ (by omega)).2.1 (1) (st) ([Qd.US (rf.Qa.getD 0 La)]) ([if false=true then Qd.Vr (rf.Qa.getD 0 La)else Qd.VB (rf.Qa.getD 0 La)]) (sn) (1) (1) rfl (by omega) (by omega) ‹_› ‹_› (by rfl) (by rfl) (by rfl) (by(rw[Jt];exact congrArg (fun z=>[z]) (Br (k:=0) (by assumption)).symm))
        (X0.lM (FQ B rf plan i st sn Ql)
        ⟨cS,⟨(XL (by kernel_rfl)),⟨(XL (by kernel_rfl)),⟨⟨trivial,Wu (rf.Qa.getD 0 La) (false)⟩,⟨⟨trivial,(dB (YN (plan.getD 0 La) (0) ‹_› (by omega)) q3)⟩,⟨(iX (lX 1)),⟨⟨trivial,Wu (rf.Qa.getD 0 La) (false)⟩,⟨⟨trivial,(dB (YN (plan.getD 0 La) (0) ‹_› (by omega)) q3)⟩,YF⟩⟩⟩⟩⟩⟩⟩⟩)).cR
     ·exfalso
      (have Zi:=Q2 (Qw hr).1;omega)
    ·exfalso
     (have Zi:=Q2 (Qw hr).1;omega)
  ·intro i st gs ks sn gn kn Jw h0 h1 hsn XZ UQ hg hkn hk ⟨Ql,Wl,X0⟩;have Zi:=Q2 (Qw hr).1;have hsl0:=JD (rf:=rf);have hpq:0<=plan.getD 0 La/\plan.getD 0 La<=1000000000:=by have:=Z1 hr hp 0;show 0<=plan.getD 0 0/\plan.getD 0 0<=1000000000;omega
   have hpf:=(Xz hp).1;have hpq:0<=plan.getD 0 La/\plan.getD 0 La<=1000000000:=by have:=Z1 hr hp 0;show 0<=plan.getD 0 0/\plan.getD 0 0<=1000000000;omega
   have hgl:(gs.length:Int)=i:=by rw[hg];exact Kh (by omega)
   have hkl:(ks.length:Int)=i:=by rw[hk];exact Kh (by omega)
   by_cases q0:(i:Int)<((↑rf.Qa.length:Int))
   ·have hp3:Qz (lz B rf plan i st gs ks sn gn kn Ql):=by
     exact⟨(iX (lX 1)),⟨(iX (lX 12)),⟨(Xs q0),trivial⟩⟩⟩
    cases q1:hasB (plan.getD 0 La) i with
    |true=>
     exact((ih0 _ (by omega)).2.1 (i+1) (st) (gs++[Qd.US (rf.Qa.getD i.toNat La)]) (ks++[if true=true then Qd.Vr (rf.Qa.getD i.toNat La)else Qd.VB (rf.Qa.getD i.toNat La)]) (sn) (gn+1) (kn+1) rfl (by omega) (by omega) ‹_› ‹_› (by(simp only[Ls,Lr,LD];omega)) (by(rw[hg];exact Zr (by omega))) (by(simp only[Ls,Lr,LD];omega)) (by(rw[hk,<-Zr (by omega)];exact congrArg (fun z=>_++[z]) (Bq (by assumption)).symm))
      (X0.lM (FP B rf plan i st gs ks sn gn kn Ql)
      ⟨cS,⟨cS,⟨cS,⟨wI,⟨⟨(by(rw[QZ (z:=1) (fun _=>rfl)];first|omega|(simp;omega)|(simp_all;done))),(by unfold maxLen;omega),by omega,by first|exact XH|exact XC rfl⟩,⟨⟨(by(rw[QZ (z:=1) (fun _=>rfl)];first|omega|(simp;omega)|(simp_all;done))),(by unfold maxLen;omega),by omega,by first|exact XH|exact XC rfl⟩,⟨⟨trivial,Wu (rf.Qa.getD i.toNat La) (true)⟩,⟨⟨trivial,(dB (YN (plan.getD 0 La) (i) ‹_› (by omega)) q1)⟩,⟨(iX (lX 1)),⟨⟨trivial,Wu (rf.Qa.getD i.toNat La) (true)⟩,⟨⟨trivial,(dB (YN (plan.getD 0 La) (i) ‹_› (by omega)) q1)⟩,hp3⟩⟩⟩⟩⟩⟩⟩⟩⟩⟩⟩)).cR
    |false=>
     exact((ih0 _ (by omega)).2.1 (i+1) (st) (gs++[Qd.US (rf.Qa.getD i.toNat La)]) (ks++[if false=true then Qd.Vr (rf.Qa.getD i.toNat La)else Qd.VB (rf.Qa.getD i.toNat La)]) (sn) (gn+1) (kn+1) rfl (by omega) (by omega) ‹_› ‹_› (by(simp only[Ls,Lr,LD];omega)) (by(rw[hg];exact Zr (by omega))) (by(simp only[Ls,Lr,LD];omega)) (by(rw[hk,<-Zr (by omega)];exact congrArg (fun z=>_++[z]) (Br (by assumption)).symm))
      (X0.lM (FO B rf plan i st gs ks sn gn kn Ql)
      ⟨cS,⟨cS,⟨cS,⟨wI,⟨⟨(by(rw[QZ (z:=1) (fun _=>rfl)];first|omega|(simp;omega)|(simp_all;done))),(by unfold maxLen;omega),by omega,by first|exact XH|exact XC rfl⟩,⟨⟨(by(rw[QZ (z:=1) (fun _=>rfl)];first|omega|(simp;omega)|(simp_all;done))),(by unfold maxLen;omega),by omega,by first|exact XH|exact XC rfl⟩,⟨⟨trivial,Wu (rf.Qa.getD i.toNat La) (false)⟩,⟨⟨trivial,(dB (YN (plan.getD 0 La) (i) ‹_› (by omega)) q1)⟩,⟨(iX (lX 1)),⟨⟨trivial,Wu (rf.Qa.getD i.toNat La) (false)⟩,⟨⟨trivial,(dB (YN (plan.getD 0 La) (i) ‹_› (by omega)) q1)⟩,hp3⟩⟩⟩⟩⟩⟩⟩⟩⟩⟩⟩)).cR
   ·have PS:gs=Ec rf:=by rw[hg,show i=rf.Qa.length by omega];exact tv (b:=true)
    have hke:ks=BJ rf (plan.getD 0 0):=by rw[hk,show i=rf.Qa.length by omega];exact tn (b:=true)
    exact((ih0 _ (by omega)).2.2.2 (1) (st) ([{n:=gn,l:=gs}]) ([{n:=kn,l:=ks}]) (sn) (1) (1) rfl (by omega) (by omega) ‹_› ‹_› (by rfl) (by(rw[show gn=rf.Qa.length by omega,PS];rfl)) (by rfl) (by(rw[show kn=rf.Qa.length by omega,hke];rfl))
     (X0.lM (FN B rf plan i st gs ks sn gn kn Ql)
     (by exact⟨cS,⟨(by exact(VF (by exact⟨(.own (LP _)),trivial⟩))),⟨(X2 (fun x=>List.all_eq_true.1 (by rfl))),⟨(by exact(VF (by exact⟨(.own (LP _)),trivial⟩))),⟨(X2 (fun x=>List.all_eq_true.1 (by rfl))),⟨(nL q0),trivial⟩⟩⟩⟩⟩⟩))).cR
  ·intro s i st gs ks gr kr sn gn kn gm km Jw s0 s1 h0 h1 hsn XZ hgm hgr T6 hkr UQ hg hkn hk ⟨Ql,Wl,X0⟩;have Zi:=Q2 (Qw hr).1;have hsl0:=JD (rf:=rf);have hpf:=(Xz hp).1;have hgl:(gs.length:Int)=i:=by rw[hg];exact Kh (by omega)
   have hkl:(ks.length:Int)=i:=by rw[hk];exact Kh (by omega)
   have hgrl:(gr.length:Int)=s:=by rw[hgr];exact Jp (by omega)
   have hkrl:(kr.length:Int)=s:=by rw[hkr];exact Jp (by omega)
   have hps:0<=plan.getD s.toNat La/\plan.getD s.toNat La<=1000000000:=by have:=Z1 hr hp s.toNat;show 0<=plan.getD s.toNat 0/\plan.getD s.toNat 0<=1000000000;omega
   by_cases q0:(i:Int)<((↑rf.Qa.length:Int))
   ·have hp4:Qz (ly B rf plan s i st gs ks gr kr sn gn kn gm km Ql):=by
     exact⟨(iX (lX 1)),⟨(iX (lX 12)),⟨(Xs q0),trivial⟩⟩⟩
    cases q1:hasB (plan.getD s.toNat La) i with
    |true=>
     exact((ih0 _ (by omega)).2.2.1 (s) (i+1) (st) (gs++[Qd.US (rf.Qa.getD i.toNat La)]) (ks++[if true=true then Qd.Vr (rf.Qa.getD i.toNat La)else Qd.VB (rf.Qa.getD i.toNat La)]) (gr) (kr) (sn) (gn+1) (kn+1) (gm) (km) rfl ‹_› ‹_› (by omega) (by omega) ‹_› ‹_› ‹_› ‹_› ‹_› ‹_› (by(simp only[Ls,Lr,LD];omega)) (by(rw[hg];exact Zr (by omega))) (by(simp only[Ls,Lr,LD];omega)) (by(rw[hk,<-Zr (by omega)];exact congrArg (fun z=>_++[z]) (Bq (by assumption)).symm))
      (X0.lM (FM B rf plan s i st gs ks gr kr sn gn kn gm km Ql)
      ⟨cS,⟨cP,⟨cP,⟨cS,⟨cS,⟨wI,⟨⟨(by(rw[QZ (z:=1) (fun _=>rfl)];first|omega|(simp;omega)|(simp_all;done))),(by unfold maxLen;omega),by omega,by first|exact XH|exact XC rfl⟩,⟨⟨(by(rw[QZ (z:=1) (fun _=>rfl)];first|omega|(simp;omega)|(simp_all;done))),(by unfold maxLen;omega),by omega,by first|exact XH|exact XC rfl⟩,⟨⟨trivial,Wu (rf.Qa.getD i.toNat La) (true)⟩,⟨⟨trivial,(dB (YN (plan.getD s.toNat La) (i) ‹_› (by omega)) q1)⟩,⟨(iX (lX 1)),⟨⟨trivial,Wu (rf.Qa.getD i.toNat La) (true)⟩,⟨⟨trivial,(dB (YN (plan.getD s.toNat La) (i) ‹_› (by omega)) q1)⟩,hp4⟩⟩⟩⟩⟩⟩⟩⟩⟩⟩⟩⟩⟩)).cR
    |false=>
     exact((ih0 _ (by omega)).2.2.1 (s) (i+1) (st) (gs++[Qd.US (rf.Qa.getD i.toNat La)]) (ks++[if false=true then Qd.Vr (rf.Qa.getD i.toNat La)else Qd.VB (rf.Qa.getD i.toNat La)]) (gr) (kr) (sn) (gn+1) (kn+1) (gm) (km) rfl ‹_› ‹_› (by omega) (by omega) ‹_› ‹_› ‹_› ‹_› ‹_› ‹_› (by(simp only[Ls,Lr,LD];omega)) (by(rw[hg];exact Zr (by omega))) (by(simp only[Ls,Lr,LD];omega)) (by(rw[hk,<-Zr (by omega)];exact congrArg (fun z=>_++[z]) (Br (by assumption)).symm))
      (X0.lM (FL B rf plan s i st gs ks gr kr sn gn kn gm km Ql)
      ⟨cS,⟨cP,⟨cP,⟨cS,⟨cS,⟨wI,⟨⟨(by(rw[QZ (z:=1) (fun _=>rfl)];first|omega|(simp;omega)|(simp_all;done))),(by unfold maxLen;omega),by omega,by first|exact XH|exact XC rfl⟩,⟨⟨(by(rw[QZ (z:=1) (fun _=>rfl)];first|omega|(simp;omega)|(simp_all;done))),(by unfold maxLen;omega),by omega,by first|exact XH|exact XC rfl⟩,⟨⟨trivial,Wu (rf.Qa.getD i.toNat La) (false)⟩,⟨⟨trivial,(dB (YN (plan.getD s.toNat La) (i) ‹_› (by omega)) q1)⟩,⟨(iX (lX 1)),⟨⟨trivial,Wu (rf.Qa.getD i.toNat La) (false)⟩,⟨⟨trivial,(dB (YN (plan.getD s.toNat La) (i) ‹_› (by omega)) q1)⟩,hp4⟩⟩⟩⟩⟩⟩⟩⟩⟩⟩⟩⟩⟩)).cR
   ·have PS:gs=Ec rf:=by rw[hg,show i=rf.Qa.length by omega];exact tv (b:=true)
    have hke:ks=BJ rf (plan.getD s.toNat 0):=by rw[hk,show i=rf.Qa.length by omega];exact tn (b:=true)
    exact((ih0 _ (by omega)).2.2.2 (s+1) (st) (gr++[{n:=gn,l:=gs}]) (kr++[{n:=kn,l:=ks}]) (sn) (gm+1) (km+1) rfl (by omega) (by omega) ‹_› ‹_› (by(simp only[Ls,Lr,LD];omega)) (by(rw[KN (by omega),List.map_append,<-hgr,show gn=rf.Qa.length by omega,PS];rfl)) (by(simp only[Ls,Lr,LD];omega)) (by(rw[KN (by omega),List.map_append,<-hkr,show kn=rf.Qa.length by omega,hke];rfl))
     (X0.lM (FK B rf plan s i st gs ks gr kr sn gn kn gm km Ql)
     (by exact⟨cS,⟨(by exact(Vz cP (by exact⟨(.own (LP _)),trivial⟩))),⟨(X2 (fun x=>List.all_eq_true.1 (by rfl))),⟨(by exact(Vz cP (by exact⟨(.own (LP _)),trivial⟩))),⟨(X2 (fun x=>List.all_eq_true.1 (by rfl))),⟨wI,⟨⟨(by(rw[QZ (z:=1) (fun _=>rfl)];first|omega|(simp;omega)|(simp_all;done))),(by unfold maxLen;omega),by omega,rfl⟩,⟨⟨(by(rw[QZ (z:=1) (fun _=>rfl)];first|omega|(simp;omega)|(simp_all;done))),(by unfold maxLen;omega),by omega,rfl⟩,⟨(nL q0),trivial⟩⟩⟩⟩⟩⟩⟩⟩⟩))).cR
  ·intro s st gr kr sn gm km Jw s0 s1 hsn XZ hgm hgr T6 hkr ⟨Ql,Wl,X0⟩;have Zi:=Q2 (Qw hr).1;have hsl0:=JD (rf:=rf);have hpf:=(Xz hp).1;have hgrl:(gr.length:Int)=s:=by rw[hgr];exact Jp (by omega)
   have hkrl:(kr.length:Int)=s:=by rw[hkr];exact Jp (by omega)
   have hps:0<=plan.getD s.toNat La/\plan.getD s.toNat La<=1000000000:=by have:=Z1 hr hp s.toNat;show 0<=plan.getD s.toNat 0/\plan.getD s.toNat 0<=1000000000;omega
   by_cases q0:(s:Int)<rf.Qb
   ·have hp5:Qz (vh B rf plan s st gr kr sn gm km Ql):=by
     exact⟨(Xs q0),trivial⟩
    by_cases q1:(0:Int)<((↑rf.Qa.length:Int))
    ·have hp6:Qz (lx B rf plan s st gr kr sn gm km Ql):=by
      exact⟨(iX (lX 1)),⟨(iX (lX 12)),⟨(Xs q1),hp5⟩⟩⟩
     cases q2:hasB (plan.getD s.toNat La) 0 with
     |true=>
      exact((ih0 _ (by omega)).2.2.1 (s) (1) (st) ([Qd.US (rf.Qa.getD 0 La)]) ([if true=true then Qd.Vr (rf.Qa.getD 0 La)else Qd.VB (rf.Qa.getD 0 La)]) (gr) (kr) (sn) (1) (1) (gm) (km) rfl ‹_› ‹_› (by omega) (by omega) ‹_› ‹_› ‹_› ‹_› ‹_› ‹_› (by rfl) (by rfl) (by rfl) (by(rw[Jt];exact congrArg (fun z=>[z]) (Bq (k:=0) (by assumption)).symm))
       (X0.lM (FI B rf plan s st gr kr sn gm km Ql)
       ⟨cS,⟨cP,⟨cP,⟨(XL (by kernel_rfl)),⟨(XL (by kernel_rfl)),⟨⟨trivial,Wu (rf.Qa.getD 0 La) (true)⟩,⟨⟨trivial,(dB (YN (plan.getD s.toNat La) (0) ‹_› (by omega)) q2)⟩,⟨(iX (lX 1)),⟨⟨trivial,Wu (rf.Qa.getD 0 La) (true)⟩,⟨⟨trivial,(dB (YN (plan.getD s.toNat La) (0) ‹_› (by omega)) q2)⟩,hp6⟩⟩⟩⟩⟩⟩⟩⟩⟩⟩)).cR
     |false=>
      exact((ih0 _ (by omega)).2.2.1 (s) (1) (st) ([Qd.US (rf.Qa.getD 0 La)]) ([if false=true then Qd.Vr (rf.Qa.getD 0 La)else Qd.VB (rf.Qa.getD 0 La)]) (gr) (kr) (sn) (1) (1) (gm) (km) rfl ‹_› ‹_› (by omega) (by omega) ‹_› ‹_› ‹_› ‹_› ‹_› ‹_› (by rfl) (by rfl) (by rfl) (by(rw[Jt];exact congrArg (fun z=>[z]) (Br (k:=0) (by assumption)).symm))
       (X0.lM (C5 B rf plan s st gr kr sn gm km Ql)
       ⟨cS,⟨cP,⟨cP,⟨(XL (by kernel_rfl)),⟨(XL (by kernel_rfl)),⟨⟨trivial,Wu (rf.Qa.getD 0 La) (false)⟩,⟨⟨trivial,(dB (YN (plan.getD s.toNat La) (0) ‹_› (by omega)) q2)⟩,⟨(iX (lX 1)),⟨⟨trivial,Wu (rf.Qa.getD 0 La) (false)⟩,⟨⟨trivial,(dB (YN (plan.getD s.toNat La) (0) ‹_› (by omega)) q2)⟩,hp6⟩⟩⟩⟩⟩⟩⟩⟩⟩⟩)).cR
    ·exfalso
     (have Zi:=Q2 (Qw hr).1;omega)
   ·exact(GoE.eT X0 (C4 B rf plan s st gr kr sn gm km Ql)
     ⟨(X2 (fun x=>List.all_eq_true.1 (by rfl))),⟨(VG (YH (by exact fun _=>rfl)) (LP _)),⟨(VG (YH (by exact fun _=>rfl)) (LP _)),⟨(nL q0),trivial⟩⟩⟩⟩).cast (by(rw[show Xo gm (Qe QP gr)=Xo (Ve rf).length (Qe XM (Ve rf))from rE (g:=fun _=>Ec rf) (fun _=>Oo) hgr hgm (by omega),show Xo km (Qe QP kr)=Xo (VI rf plan).length (Qe XM (VI rf plan))from rE (g:=fun z=>BJ rf (plan.getD z.toNat 0)) (fun _=>My) hkr T6 (by omega),hsn,XZ]))
set_option maxHeartbeats 4000000 in
theorem Nj(rf:Qc)(plan:List Int)(hr:X4 rf=true)(hp:XJ rf plan=true){B:Lo}(hJ:∀w,B.has w->J0 w):EndsT YP B (Qu YP 34 104 (([.agg (Q1 rf).toArray,X7 plan,.bool true]).map (Q4 0 4))) (bB rf plan):=by
 have Zi:=Q2 (Qw hr).1;have hsl0:=JD (rf:=rf);have hcc:0<=(rf.Qa.getD 0 La).count/\(rf.Qa.getD 0 La).count<=1000000:=(Zg ((Qw hr).2 0 (by omega) (by omega)).1).1;by_cases q0:(0:Int)<((↑rf.Qa.length:Int))
 ·exact((FV rf plan hr hp hJ _).1 (1) ([J8 rf.Qh (Qd.count (rf.Qa.getD 0 La))]) (1) rfl (by omega) (by omega) (by rfl) (by rfl)
   (GoE.start.lM (C3 B rf plan)
   ⟨(XL (by kernel_rfl)),⟨⟨trivial,OL (rf) (Qd.count (rf.Qa.getD 0 La)) (by omega) (by omega)⟩,⟨(iX (lX 12)),⟨(Xs q0),trivial⟩⟩⟩⟩)).cR
 ·exfalso
  (have Zi:=Q2 (Qw hr).1;omega)
theorem Qb4(rf:Qc)(plan:List Int)(hr:X4 rf=true)(hp:XJ rf plan=true):Qv YP J0 34 #[.agg (Q1 rf).toArray,X7 plan,.bool true] (bB rf plan):=
 Xd (ts:=[.agg (Q1 rf).toArray,X7 plan,.bool true]) Zc (c0:=Qu YP 34 104 (([.agg (Q1 rf).toArray,X7 plan,.bool true]).map (Q4 0 4))) (by kernel_rfl) (by kernel_rfl) fun B hJ=>Nj rf plan hr hp hJ
end
end Go.Proofs.Ytncjjangllkokaa

namespace Go.Proofs.Ytncjjangllkokaa
open Go Go.CE Go.RowKit
theorem AU{g h:Int->Int}:∀(k:Nat),(∀m:Int,0<=m->m<k->g m<=h m)->Xj 0 k g<=Xj 0 k h
 |0,_=>by rw[Wq (by omega),Wq (by omega)];omega
 |k+1,H=>by
  have ih:=AU k fun m h0 h1=>H m h0 (by omega)
  have h2:=H k (by omega) (by omega);rw[show((k+1:Nat):Int)=(k:Int)+1 by omega,QJ (by omega),QJ (by omega)];omega
section
variable {ps:List Qd} {n:Int} {gs ts:List (List Int)} {f:F4}
theorem M7{k i:Int}(h4:ps.length<=4)(i0:0<=i)(i1:i<ps.length):(uD ps gs ts f k).getD i.toNat La=(Z5 ps gs ts f (k.toNat+1)).at i:=by
 unfold uD;rw[<-B6 h4];exact Xc i0 i1
end
end Go.Proofs.Ytncjjangllkokaa
