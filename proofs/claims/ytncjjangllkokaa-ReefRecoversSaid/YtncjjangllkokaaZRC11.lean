/- TX 2: frames Pf defer a function Pf recovers. -/
import Derived.Test.YtncjjangllkokaaZRC10
import Derived.Test.YtncjjangllkokaaZRC07
import Derived.Test.YtncjjangllkokaaProg
set_option linter.all false
open List renaming range->MP,getD_eq_getElem?_getD->MU,getElem?_map->Ng,length->MO,getElem?_append_right->MZ,range'->Ni,mem_append_left->MV,mem_append->NG,getElem?_eq_getElem->NI,mem_cons_of_mem->Nc,replicate->MT,mem_of_getElem? ->MW,getElem?_take_of_lt->NK,getElem?_eq_none->Nf,getElem?_append_left->Nk,length_set->Ny,length_replicate->Nv
open Array renaming getElem?_eq_none->NJ,getElem?_toList->MX,mem_of_getElem? ->Nq,getElem?_extract->NB
open Nat renaming ble->Nr,le_refl->Nh,zero_add->Nj,lt_or_ge->Nm,blt->MY,ble_eq_true_of_le->Nl,beq->MQ,min->Nw,strongRecOn->No
open Option renaming map_some->Nn
open Int renaming le_refl->Nx,tdiv->MN,tdiv_eq_ediv_of_nonneg->ND
open Inhabited renaming default->ML
namespace Go.CE
open Go Go.RowKit

def xA:OO->CM
 | .ret _=>.ret
 | .ZG v=>.ZG v
def LN:OO->Value
 | .ret _=>.nilIface
 | .ZG v=>v
def LX:CM->Option OO
 | .run=>none
 | .ret=>some (.ret (.tuple #[]))
 | .ZG v=>some (.ZG v)
theorem He{m:CM}{o:OO}(h:LX m=some o):m=xA o:=by
 cases m with
 |run=>cases h
 |ret=>cases h;rfl
 |ZG v=>cases h;rfl
def EX(T:Tm):Tm:=ofList T.len ((MP T.len).map (XL T))
theorem EW{μ:Mu}{T:Tm}{A:Array Value}(hl:T.len<=16000)(h:TR μ T A):TR μ (EX T) A:=by
 refine⟨h.1,fun t=> ?_⟩;simp only[EX,XL,ofList];rw[aV _ _ _ _ (by simp;omega)];split
 ·rename_i ht;have ht:t<T.len:=by simpa using ht
  have:=h.2 t;simp only[XL]at this;rw[Nat.sub_zero,MU,Ng,List.getElem?_range ht];exact this
 ·rename_i ht;have ht:T.len<=t:=by simpa using ht
  rw[Tri.get_lf];have hA:A.getD t undef=undef:=by
   rw[Array.getD_eq_getD_getElem?,NJ (by rw[<-h.1];exact ht)];rfl
  rw[hA];exact VR.undef
structure MC where
 c:CF
 H:Qm
 n:Nat
 g:FuncId
 args:Array Value
 R:List Nat
 W:List Nat
noncomputable def CY(P:Program)(F:FuncId->Bool)(c1:CF)(H:Qm)(n:Nat):Option MC:=
 match c1.mode,c1.todo,c1.defers,c1.roundOf with
 | .run,.code (.region _ ops false)::todo,[],none=>match tO P F X7 0 ops c1 H n with
   |some s=>match s.o.op,s.post with
    | .defer c,[]=>match c.callee with
      | .value x=>match Zi s.T x with
        |some (.func (.func g) xs ys)=>bif c.args.isEmpty && F g && Nr s.T.len 16000 then some ⟨⟨c1.fn,EX (V1 s.T s.o.dst undef),todo,[],.run,none⟩,s.H,s.n,g,xs++ys,KI s.Qx,Ui s.Qx⟩else none
        |_=>none
      |_=>none
    |_,_=>none
   |none=>none
 |_,_,_,_=>none
def UJ(P:Program)(B:Lo)(c:CF)(H:Qm)(n:Nat)(out:OO)(live:List (Nat×Value))(H':Qm)(n':Nat)(R W:List Nat):Prop:=
 ∃(d:Nat->Value) (td:List Item),GoJ P B c H n ⟨c.fn,Gk c.tmps.len live d,td,[],xA out,c.roundOf⟩ H' n' R W
noncomputable def tN(P:Program)(F:FuncId->Bool)(J:World->Prop)(B:Lo)(k b:Nat)(c:CF)(H:Qm)(n:Nat)(out:OO)(live:List (Nat×Value))(UM:Qm)(n':Nat)(Wk:List Nat)(res:Value)(resR:List Nat):Option ST:=
 match Qu P F J B k b c H n [] 0 [] []with
 |some ⟨.at c1 H1 n1,W1,L1⟩=>match CY P F c1 H1 n1 with
  |some s=>match eI P F X7 0 b s.g s.args (LN out) (UM++s.H) n' [] (Wc b Wk (Wc b s.W W1))with
   |some m3=>some ⟨.fin (.ret res) m3.H m3.n,m3.W,UJ P B s.c s.H s.n out live (UM++s.H) n' (MP s.n) Wk::(∀d,kf P s.c.fn m3.H (Gk s.c.tmps.len live d)=some (res,resR))::L1⟩
   |none=>none
  |none=>none
 |_=>none
def Iw(P:Program)(B:Lo)(b:Nat)(c:CF)(H:Qm)(n:Nat)(s:Option ST):Prop:=
 ∀out H' n' W' L',s=some ⟨.fin out H' n',W',L'⟩->Q3 L'->∃R W2,FJ P B c H n out H' n' R W2/\∀i,i<b->(i∈W'<->i∈W2)
section
variable {P:Program} {F:FuncId->Bool} {J:World->Prop} {B:Lo} {c0 c:CF} {Hb H:Qm} {a n:Nat} {W Wf:List Nat}
theorem tP(hF:∀g,F g=true->Q8 P g=true)(XY:P.follows .mixedOrders=true){c1:CF}{H1:Qm}{n1:Nat}{s:MC}(hu:Under H1 n1)(h:CY P F c1 H1 n1=some s):
 Shape H1 n1 s.H s.n s.R s.W/\Under s.H s.n/\F s.g=true/\s.c.fn=c1.fn/\s.c.roundOf=none/\s.c.defers=[]/\s.c.mode=.run/\
 ∀(S:Nat->Prop) (n N:Nat) (W:List Nat) (μ0 μ:Mu) (H0:Qm) (w0 w:World),Sofar B S n N W μ0 μ H0 H1 n1 w0 w->(∀i,S i->i<n)->s.n<=N->(∀i∈s.R,i<n->S i)->∀(UB:Frame) (cs:List Frame),FrR Bot.no μ c1 UB->
  ∃(xs' ys':Array Value) (fr2:Frame) (w':World) (μ':Mu),Sofar B S n N (W++s.W) μ0 μ' H0 s.H s.n w0 w'/\Ext μ μ'/\FrR ⟨[{target:=.fn (.func s.g) ys',args:=xs'}],.normal⟩ μ' s.c fr2/\fr2.fn=UB.fn/\VRs μ' s.args (xs'++ys')/\Steps P (lone UB cs w) (lone fr2 cs w'):=by
 unfold CY at h;split at h
 ·rename_i id ops todo hmode1 htodo1 hds1 Pg;split at h
  ·rename_i q hs;obtain⟨pre,e1,e2,e3,e4,e5,e6,e7,e8⟩:=Tj (B:=B) hF XY (QL P B) hu hs;split at h
   ·rename_i c Zw XO;split at h
    ·rename_i x hcal;split at h
     ·rename_i g xs ys hx;cases hca:(c.args.isEmpty && F g && Nr q.T.len 16000)with
      |false=>rw[hca]at h;cases h
      |true=>
       rw[hca]at h;simp only[cond_true,YO]at h;subst h;simp only[YB]at hca;have hlenT:=YL hca.2;have sh2:=ZW q.Qx _ _ _ _ _ _ e4 e2;refine⟨sh2,e6,hca.1.2,rfl,rfl,rfl,rfl,fun S n N W μ0 μ H0 w0 w s1 hS hN hR UB cs UU=> ?_⟩;simp only at hN hR ⊢;have hro1:UB.roundOf=none:=by
        have:=UU.round;rw[Pg]at this;generalize UB.roundOf=z at this ⊢;cases z with
        |none=>rfl
        |some z=>cases this
       obtain⟨ha,hb,hd⟩:=UU.running hmode1;rw[htodo1]at hd;obtain⟨L',hL,hL'⟩:=hd.code;have hd1:UB.defers=[]:=by
        have:=UU.defers;rw[hds1]at this;exact this.empty
       rw[XO]at e1;have hlen:ops.size=pre.length+(0+1):=by
        have:=congrArg MO e1;simp at this;omega
       have hat:ops[pre.length]? =some q.o:=by
        rw[<-MX,e1,MZ (Nh _)];simp
       have hplen:q.Qx.length=pre.length:=by have:=congrArg MO e5;simpa using this
       have hown1:∀(j:Nat) r,q.Qx[j]? =some r->ops[0+j]? =some r.o:=by
        intro j r hj;rw[Nj];exact Us (l:=ops.toList) (l2:=[q.o]) (by rw[e5];exact e1.symm) rfl j r hj
       obtain⟨A1,w2,μ2,s2,hT2,x2,st2⟩:=s1.seq hS e4 e2 e3 0 hown1 rfl hN hR ha hb (pre.length::Ni (pre.length+1) 0) L' cs;have P3:step P (lone UB cs w)=.next (lone (Xz UB UB.tmps ops (Ni 0 ops.size) L') cs w):=Wg ha hL;rw[range_split hlen]at P3;rw[hplen]at st2;have UE:Region.wanted q.o (yielded ops A1)=true:=by rw[Kd hT2];exact e8
       have hvx:=nN (fr:=Xz UB A1 ops (pre.length::Ni (pre.length+1) 0) L') hT2 x _ hx;have hca':c.args=#[]:=by simpa[Array.isEmpty]using hca.1.1
       generalize hgx:(Xz UB A1 ops (pre.length::Ni (pre.length+1) 0) L').eval x=ux at hvx;cases hvx with
       |func q1 q2 q3 q4=>
        rename_i xs' ys';have hdv:(Deferred.ofValue ((Xz UB A1 ops (pre.length::Ni (pre.length+1) 0) L').eval x) (c.args.map (Xz UB A1 ops (pre.length::Ni (pre.length+1) 0) L').eval)).run P w2=.ok {target:=.fn (.func g) ys',args:=xs'} w2:=by
         rw[hgx,hca'];simp[Deferred.ofValue]
        have st3:=step_defer (cs:=cs) (w:=w2) ha hro1 hat UE Zw hcal hdv;rw[Y9 hat]at st3;have hdst:=Yb e7;have hT3:TR μ2 (V1 q.T q.o.dst undef) (putA A1 undef q.o.dst):=hT2.putA hdst VR.undef;have st4:step P (lone {Xz UB (putA A1 undef q.o.dst) ops (Ni (pre.length+1) 0) L' with defers:={target:=.fn (.func g) ys',args:=xs'}::UB.defers} cs w2)=
         .next (lone {UB with tmps:=putA A1 undef q.o.dst,todo:=L',defers:={target:=.fn (.func g) ys',args:=xs'}::UB.defers} cs w2):=
         Vi (fr:={UB with defers:={target:=.fn (.func g) ys',args:=xs'}::UB.defers}) (A:=putA A1 undef q.o.dst) (ops:=ops) (k:=L') ha
        have k1:VRs μ2 xs xs':=⟨q1,q3⟩
        have k2:VRs μ2 ys ys':=⟨q2,q4⟩
        refine⟨xs',ys',{UB with tmps:=putA A1 undef q.o.dst,todo:=L',defers:={target:=.fn (.func g) ys',args:=xs'}::UB.defers},w2,μ2,s2,x2,⟨UU.fn,EW (by rw[Um];exact hlenT) hT3,fun _=>hL'.mono x2,.of_empty (by simp[hd1]), ?_,UU.kind,by rw[<-Pg];exact UU.round.mono x2⟩,rfl,k1.append k2,.head P3 (st2.trans (.head st3 (.one st4)))⟩;have:=UU.mode;rw[hmode1]at this;show MR μ2 .run UB.mode;generalize UB.mode=z at this ⊢;cases this;exact .run
     ·cases h
    ·cases h
   ·cases h
  ·cases h
 ·cases h
theorem tM(hF:∀g,F g=true->Q8 P g=true)(hJ:∀w,B.has w->J w)(XY:P.follows .mixedOrders=true){k b:Nat}{out:OO}{live:List (Nat×Value)}{UM:Qm}{n':Nat}{Wk:List Nat}{res:Value}{resR:List Nat}(hu:Under H n):
 Iw P B b c H n (tN P F J B k b c H n out live UM n' Wk res resR):=by
 intro o H' nz W' L' h ha;unfold tN at h;split at h
 ·rename_i c1 H1 n1 W1 L1 hs1;split at h
  ·rename_i s hs2;split at h
   ·rename_i m3 hm3;simp only[YO,ST.mk.injEq,SR.fin.injEq]at h;obtain⟨⟨rfl,rfl,rfl⟩,rfl,rfl⟩:=h;obtain⟨⟨d,td,hU⟩,hres,hL1⟩:=ha;have hres:=hres d;obtain⟨R1,W1',g1,a1⟩:=Wm hF hJ XY k b c H n [] 0 [] [] _ hu hs1 hL1;have g1:GoJ P B c H n c1 H1 n1 R1 W1':=g1;simp only at a1;have SM:Under H1 n1:=hu.shape g1.shape;obtain⟨sh2,hu2,hFg,hfn2,hro2,hds2,hmode2,hsp⟩:=tP (B:=B) hF XY SM hs2;have hu3:Under (UM++s.H) n':=hu2.shape hU.shape;obtain⟨Rr,Wr,sh3,ar,br,hsem⟩:=cG (B:=B) hF XY (QL P B) hu3 hm3;have hu4:Under m3.H m3.n:=hu3.shape sh3;have Yl:=((g1.shape.trans sh2).trans hU.shape).trans sh3;have l1:=g1.shape.le;have l2:=sh2.le;have l3:=hU.shape.le;have l4:=sh3.le;refine⟨(((R1++s.R)++MP s.n)++Rr)++resR,((W1'++s.W)++Wk)++Wr,⟨⟨Yl.le,Yl.keep,Yl.top,fun i hi=>MV _ (Yl.sub i hi),Yl.wlt⟩,fun S μ w fr cs QF hB hS hf hfr0 hR=> ?_⟩,fun i hi=> ?_⟩
    ·simp only[NG]at hR;have sf0:Sofar B S n m3.n [] μ μ H H n w w:=⟨Post.refl QF,hB,hf⟩
     obtain⟨UB,w1,μ1,s1,UU,hr1,hfn1,st1,x1⟩:=sf0.goj hS g1 (by omega) (fun i hi=>hR i (.inl (.inl (.inl (.inl hi))))) hfr0 cs;obtain⟨xs',ys',fr2,w2,μ2,s2,x2,hfr2,hfnq,hvargs,st2⟩:=hsp S n m3.n _ μ μ1 H w w1 s1 hS (by omega) (fun i hi=>hR i (.inl (.inl (.inl (.inr hi))))) UB cs UU;obtain⟨fr3,w3,μ3,s3,hfr3,hr3,hfn3,st3,x3⟩:=s2.goj hS hU (by omega) (fun i hi=>hR i (.inl (.inl (.inr hi)))) hfr2 cs;have hd3:fr3.defers=[{target:=.fn (.func s.g) ys',args:=xs'}]:=by
      have:=hfr3.defers;exact this.empty
     have hun:tq μ3 (LN out) {fr3 with defers:=[]}/\fr3.mode≠.run:=by
      have hm:=hfr3.mode;simp only at hm;generalize fr3.mode=q at hm ⊢;cases out with
      |ret v=>
       simp only[xA]at hm;cases hm;exact⟨.inl ⟨rfl,rfl⟩,fun e=>by cases e⟩
      |ZG v=>
       simp only[xA]at hm;cases hm with
       |ZG Vr=>exact⟨.inr ⟨_,Vr,rfl⟩,fun e=>by cases e⟩
     have st6:step P (lone fr3 cs w3)=.next (lone (Frame.enter P s.g (xs'++ys') .deferred) ({fr3 with defers:=[]}::cs) w3):=
      J6 hun.2 hd3 rfl (SV (hF s.g hFg) _ w3)
     obtain⟨w4,μ4,s4,x4,st7⟩:=hsem S n m3.n _ μ μ3 H w w3 s3 hS (Nh _) (fun i hi=>hR i (.inl (.inr hi))) _ {fr3 with defers:=[]} cs (hvargs.mono x3) hun.1
     obtain⟨fn,v',hfn,hresr,Vr⟩:=kb hu4 s4.post.ok (hfr3.tmps.mono x4) hres (fun i hi X2=>by
      rcases Nm i n with h1|h1
      ·exact .inl (hR i (.inr hi) h1)
      ·exact .inr ⟨h1,X2⟩)
     have hfnE:fr3.fn=fr.fn:=by rw[hfn3,hfnq,hfn1]
     have hro3:fr3.roundOf=none:=by
      have:=hfr3.round;simp only[hro2]at this;generalize fr3.roundOf=z at this ⊢;cases z with
      |none=>rfl
      |some z=>cases this
     have JV:({fr3 with defers:=[],mode:=.returning}:Frame).leaving P w4 (.returned v'):=⟨rfl,rfl,hfr3.kind,fn,by rw[<-hfn,hfr3.fn],hresr⟩
     have ZQ:Steps P (lone fr cs w) (lone {fr3 with defers:=[],mode:=.returning} cs w4):=
      st1.trans (st2.trans (st3.trans (.head st6 st7)))
     refine⟨.ret v',w4,μ4,s4.post.lists (fun i hi=>by simp[List.append_assoc]),.ret Vr,fun _=>⟨_,ZQ,hfnE,JV⟩,fun c1 cs' e=> ?_⟩;subst e;exact ZQ.trans (.one (step_leave_returned JV))
    ·rw[br i hi,Zy hi,Zy hi,a1 i hi];simp only[NG,List.not_mem_nil,false_or]
   ·cases h
  ·cases h
 ·cases h
def landU(a:Nat)(s:Option ST)(Pm:List Nat)(wks keeps:List (Nat×KS))(fz:List Fz):Option (FuncId×Nat×Option Nat×OO×List Value×Qm×List Obj×List Prop):=match s with
 |some ⟨.at c H _,W,L⟩=>bif PW a H W wks keeps fz && c.todo.all VV then
  match LX c.mode,c.defers with
  |some o,[]=>match qG (sS H a (bD a (keeps.map (·.1))) fz 4) o,qH (sS H a (bD a (keeps.map (·.1))) fz 4) (Pm.map (XL c.tmps)),x6 H a (bD a (keeps.map (·.1))) fz wks,SS H a (bD a (keeps.map (·.1))) fz keeps with
   |some (o1,L0),some (vs,L1),some (ws,L3),some (os,L2)=>some (c.fn,c.tmps.len,c.roundOf,o1,vs,ws,os,L0++(L1++(L3++(L2++L))))
   |_,_,_,_=>none
  |_,_=>none
   else none
 |_=>none
def FinU(P:Program)(B:Lo)(c0:CF)(Hb:Qm)(a:Nat)(out:OO)(live:List (Nat×Value))(ws:Qm)(os:List Obj)(Wf:List Nat):Prop:=
 ∃(d:Nat->Value) (td:List Item),GoE P B c0 Hb a ⟨c0.fn,Gk c0.tmps.len live d,td,[],xA out,c0.roundOf⟩ (Wi Hb a ws os) (a+1+os.length) Wf
theorem FinU.cast{out out1:OO}{live:List (Nat×Value)}{ws ws1:Qm}{os os1:List Obj}(h:FinU P B c0 Hb a out live ws os Wf)(e1:out=out1)(e2:ws=ws1)(e3:os=os1):FinU P B c0 Hb a out1 live ws1 os1 Wf:=e1 ▸ e2 ▸ e3 ▸ h
theorem GoE.landU(hF:∀g,F g=true->Q8 P g=true)(hJ:∀w,B.has w->J w)(XY:P.follows .mixedOrders=true){wks:List (Nat×KS)}(hu:Under Hb a)(hw:Writable Hb a (wks.map (·.1)))(h:GoE P B c0 Hb a c H n (wks.map (·.1))){fuel:Nat}{sc:QB}{Pm:List Nat}{keeps:List (Nat×KS)}{fz:List Fz}{out:OO}{vs:List Value}{ws:Qm}{os:List Obj}{L:List Prop}
 (e:CE.landU a (Qu P F J B fuel a c H n sc 0 [] []) Pm wks keeps fz=some (c0.fn,c0.tmps.len,c0.roundOf,out,vs,ws,os,L)) (hL:Q3 L) (hlen:Nr c0.tmps.len 16000=true) (Pg:c0.roundOf=none):
 FinU P B c0 Hb a out (Pm.zip vs) ws os (wks.map (·.1)):=by
 unfold CE.landU at e;split at e
 ·rename_i c' H' n' W' L' hs;cases hqq:(PW a H' W' wks keeps fz && c'.todo.all VV)with
  |false=>rw[hqq]at e;cases e
  |true=>
   rw[hqq]at e;simp only[cond_true]at e;rw[YB]at hqq;obtain⟨hq,hplain⟩:=hqq;split at e
   ·rename_i o0 hoo hdf;split at e
    ·rename_i o1 L0 vs0 L1 ws0 L3 os0 L2 ho1 hvs hws hos;simp only[YO,YR]at e;obtain⟨e1,e2,e6,rfl,rfl,rfl,rfl,rfl⟩:=e;obtain⟨hL0,hLr⟩:=Xw hL;obtain⟨hL1,hLr⟩:=Xw hLr;obtain⟨hL3,hLr⟩:=Xw hLr;obtain⟨hL2,hL4⟩:=Xw hLr;obtain⟨R,W2,YA,hiff⟩:=Wm hF hJ XY fuel a c H n sc 0 [] [] _ h.under hs hL4;have hg:=(h.step YA).widen (Wf:=wks.map (·.1)) (fun i hi hm=>by
      rcases List.mem_append.1 hm with hm|hm
      ·exact hm
      ·have hi':i∈W':=(hiff i hi).2 (.inr hm);unfold PW at hq;simp only[YB]at hq;simpa using List.all_eq_true.1 hq.1.1.1.1 i hi') hw
     have hd:∀t,∃d,XP d/\∀μ v',VR μ (XL c'.tmps t) v'->VR μ d v':=fun t=>K0 _
     have wslt:∀i o,Qs ws0 i=some o->i<a:=fun i o ho=>by
      have hq':=hq;unfold PW at hq';simp only[YB]at hq';have P3:i∈wks.map (·.1):=Decidable.of_not_not fun e=>by
       have:=(ep wks ws0 L3 hws i).1.2 e;rw[this]at ho;cases ho
      obtain⟨k,hk,rfl⟩:=List.mem_map.1 P3;exact YL (List.all_eq_true.1 hq'.1.1.1.2 k hk)
     have hmo:=He hoo;refine⟨fun t=>Classical.choose (hd t),c'.todo,Te hu wslt,by omega,fun Z μ w fr cs QF hB hf XK=> ?_⟩;obtain⟨fr',w',μ',hp,YH,ha,hb,ZQ⟩:=hg.sem Z μ w fr cs QF hB hf XK;obtain⟨μ1,im1,hco,XO,Vw,_⟩:=bO hu hw hg.under hq QF hf hp hws hos hL3 hL2;refine⟨fr',w',μ1,XO,⟨by rw[YH.fn,e1], ?_,fun hpn=> ?_, ?_, ?_,YH.kind, ?_⟩,ha,hb,ZQ⟩
     ·refine YH.tmps.merge e2 (YL hlen) (fun p hp v' hv=> ?_) fun t=>Classical.choose_spec (hd t)
      obtain⟨i,hi⟩:=List.getElem?_of_mem hp;rw[List.getElem?_zip_eq_some]at hi;obtain⟨hi1,hi2⟩:=hi;obtain⟨u,L',ha,hb,hc⟩:=(jy _ _ _ hvs).2 i p.2 hi2;rw[Ng,hi1]at ha;simp only[Nn,YO]at ha;subst ha;exact Ua hco 4 _ _ _ _ hb (hc hL1) hv
     ·refine(YH.todo ?_).plain hplain;rw[hmo];unfold qG at ho1;split at ho1
      ·rfl
      ·split at ho1
       ·simp only[YO,YR]at ho1;obtain⟨rfl,_⟩:=ho1;cases hpn
       ·cases ho1
     ·have:=YH.defers;rw[hdf]at this;exact .of_empty this.empty
     ·have hm:=YH.mode;rw[hmo]at hm;show MR μ1 (xA _) fr'.mode;generalize fr'.mode=z at hm ⊢;unfold qG at ho1;split at ho1
      ·split at ho1
       ·simp only[YO,YR]at ho1;obtain⟨rfl,_⟩:=ho1;simp only[xA]at hm ⊢;cases hm;exact .ret
       ·cases ho1
      ·split at ho1
       ·rename_i hv2;simp only[YO,YR]at ho1;obtain⟨rfl,rfl⟩:=ho1;simp only[xA]at hm ⊢;cases hm with
        |ZG Vr=>exact .ZG (Ua hco 4 _ _ _ _ hv2 hL0 Vr)
       ·cases ho1
     ·have:=YH.round;rw[e6,Pg]at this;show RoR μ1 c0.roundOf fr'.roundOf;rw[Pg];generalize fr'.roundOf=x at this ⊢;cases x with
      |none=>trivial
      |some x=>cases this
    ·cases e
   ·cases e
 ·cases e
theorem FrR.lowZ{Z:Bot}{μ μ0:Mu}{fr:Frame}(hμ:∀b,b<a->μ0 b=μ b)(hs:∀t,PK a 4 (XL c.tmps t)=true\/XP (XL c.tmps t))(hp:c.todo.all VV=true)(hd:c.defers=[])(hm:c.mode=.run)(hr:c.roundOf=none)(h:FrR Z μ c fr):FrR Z μ0 c fr:=by
 have hpans:c.mode.pans=false:=by rw[hm];rfl
 refine⟨h.fn,qB hμ hs h.tmps,fun _=>(h.todo hpans).plain hp, ?_, ?_,h.kind, ?_⟩
 ·have:=h.defers;rw[hd]at this ⊢;exact .of_empty this.empty
 ·have:=h.mode;rw[hm]at this ⊢;generalize fr.mode=ds at this ⊢;cases this;exact .run
 ·have:=h.round;rw[hr]at this ⊢;generalize fr.roundOf=x at this ⊢;cases x with
  |none=>trivial
  |some x=>cases this
theorem FinU.uj{out:OO}{live:List (Nat×Value)}{ws:Qm}{os:List Obj}(h:FinU P B c0 Hb a out live ws os Wf)(hub:Under Hb a)(hws:∀i o,Qs ws i=some o->i<a/\i∈Wf)(hWf:∀i∈Wf,i<a)(hs:∀t,PK a 4 (XL c0.tmps t)=true\/XP (XL c0.tmps t))(hp:c0.todo.all VV=true)(hd:c0.defers=[])(hm:c0.mode=.run)(hr:c0.roundOf=none)(hob:∀i o,Qs Hb i=some o->xK a o):
 UJ P B c0 Hb a out live ((ws++((a,Xo)::Xc (a+1) os))++Hb) (a+1+os.length) (MP a) Wf:=by
 have hG:(ws++((a,Xo)::Xc (a+1) os))++Hb=Wi Hb a ws os:=by unfold Wi;simp
 rw[hG];obtain⟨d,td,h⟩:=h;refine⟨d,td,⟨by omega,fun i hi hw=> ?_,fun i hi=> ?_,fun i hi=>List.mem_range.2 (hWf i hi),fun i hi=>by have:=hWf i hi;omega⟩,fun S μ w fr cs Z QF hB hS hf XK hR=> ?_⟩
 ·rw[UA];cases hg:Qs ws i with
  |some o=>exact absurd (hws i o hg).2 hw
  |none=>simp only;rw[if_neg (by omega),if_neg (by omega)]
 ·rw[UA];cases hg:Qs ws i with
  |some o=>have:=(hws i o hg).1;omega
  |none=>simp only;rw[if_neg (by omega),if_neg (by omega)]
 ·have hSeq:S=fun i=>i<a:=funext fun i=>propext ⟨hS i,fun hi=>hR i (List.mem_range.2 hi) hi⟩
  subst hSeq;let μc:Mu:=fun i=>if i<a then μ i else none
  have hμc:∀b,b<a->μc b=μ b:=fun b hb=>by show(if b<a then μ b else none)=μ b;rw[if_pos hb]
  have hokc:Ok B.B (fun i=>i<a) μc (Qs Hb) w:=by
   refine⟨fun i o hi hg hl=> ?_,fun i o im hi hg hl QK=> ?_,fun i j oi oj x y hi hj KG hg1 hg2 l1 l2 m1 m2 r1 r2=> ?_,fun i o hi hg hr=> ?_,fun i j oi oj x y z hi hj hg1 hg2 r1 l2 m1 m2 UL=> ?_⟩
   ·obtain⟨im,QK,Wd⟩:=QF.rel i o hi hg hl;exact⟨im,(hμc i hi).trans QK,OR.low hμc (hob i o hg) Wd⟩
   ·exact QF.low i o im hi hg hl ((hμc i hi).symm.trans QK)
   ·exact QF.inj i j oi oj x y hi hj KG hg1 hg2 l1 l2 ((hμc i hi).symm.trans m1) ((hμc j hj).symm.trans m2) r1 r2
   ·obtain⟨im,QK,hx⟩:=QF.Yg i o hi hg hr;exact⟨im,(hμc i hi).trans QK,hx⟩
   ·exact QF.sep i j oi oj x y z hi hj hg1 hg2 r1 l2 ((hμc i hi).symm.trans m1) ((hμc j hj).symm.trans m2) UL
  have hfc:∀i,a<=i->μc i=none:=fun i hi=>by show(if i<a then μ i else none)=none;rw[if_neg (by omega)]
  obtain⟨fr',w',μ',XO,YH,hro',hfn',ZQ⟩:=h.sem Z μc w fr cs hokc hB hfc (XK.lowZ hμc hs hp hd hm hr);have Vw:∀i,a+1+os.length<=i->μ' i=none:=fun i hi=>by rw[XO.ext i (by omega)];exact hfc i (by omega)
  let μ2:Mu:=fun i=>if i<a+1+os.length then μ' i else μ i
  have hμ2:∀i,i<a+1+os.length->μ2 i=μ' i:=fun i hi=>by show(if i<a+1+os.length then μ' i else μ i)=μ' i;rw[if_pos hi]
  have ext2:Ext μ' μ2:=fun k im hk=>by
   rcases Nm k (a+1+os.length)with h1|h1
   ·rw[hμ2 k h1];exact hk
   ·rw[Vw k h1]at hk;cases hk
  have Slt:∀i,(i<a\/a<=i/\i<a+1+os.length)->i<a+1+os.length:=fun i h=>by omega
  refine⟨fr',w',μ2,⟨?_,by omega,fun i hi=> ?_,fun i hi hw=> ?_,XO.grow,fun b hb hx=>XO.frame b hb fun i hiW hi im QK=>hx i hiW hi im ((hμc i hi).symm.trans QK),fun i hiW hi=> ?_,fun i im o h1 h2 ho hl QK=> ?_,fun i im o hc ho hr QK b x hx=> ?_,XO.os,XO.tape,XO.output⟩,YH.mono ext2,hro',hfn',ZQ⟩
  ·have ok:=XO.ok;refine⟨fun i o hi hg hl=> ?_,fun i o im hi hg hl QK=> ?_,fun i j oi oj x y hi hj KG hg1 hg2 l1 l2 m1 m2 r1 r2=> ?_,fun i o hi hg hr=> ?_,fun i j oi oj x y z hi hj hg1 hg2 r1 l2 m1 m2 UL=> ?_⟩
   ·obtain⟨im,QK,Wd⟩:=ok.rel i o hi hg hl;exact⟨im,(hμ2 i (Slt i hi)).trans QK,Wd.keep ext2 rfl⟩
   ·exact ok.low i o im hi hg hl ((hμ2 i (Slt i hi)).symm.trans QK)
   ·exact ok.inj i j oi oj x y hi hj KG hg1 hg2 l1 l2 ((hμ2 i (Slt i hi)).symm.trans m1) ((hμ2 j (Slt j hj)).symm.trans m2) r1 r2
   ·obtain⟨im,QK,hx⟩:=ok.Yg i o hi hg hr;exact⟨im,(hμ2 i (Slt i hi)).trans QK,hx⟩
   ·exact ok.sep i j oi oj x y z hi hj hg1 hg2 r1 l2 ((hμ2 i (Slt i hi)).symm.trans m1) ((hμ2 j (Slt j hj)).symm.trans m2) UL
  ·rcases Nm i a with h1|h1
   ·rw[hμ2 i (by omega),XO.ext i (by omega),hμc i h1]
   ·show(if i<a+1+os.length then μ' i else μ i)=μ i;rw[if_neg (by omega)]
  ·exact XO.keep i hi hw
  ·obtain⟨p,q,im,s,t⟩:=XO.wr i hiW hi;exact⟨p,q,im,(hμc i hi).symm.trans s,t⟩
  ·obtain⟨p,q⟩:=XO.fresh i im o h1 h2 ho hl ((hμ2 i h2).symm.trans QK);exact⟨p,q.imp id fun⟨k,x,y,⟨ZC,m,m2⟩,z⟩=>⟨k,x,y,⟨ZC,(hμc k y).symm.trans m,m2⟩,z⟩⟩
  ·have X2:i<a+1+os.length:=by omega
   rcases XO.rf i im o hc ho hr ((hμ2 i X2).symm.trans QK) b x hx with e|⟨k,Uj,ko,p,q,r,s,t,u⟩|⟨k,p,q,⟨ZC,m,m2⟩,z⟩
   ·exact .inl e
   ·exact .inr (.inl ⟨k,Uj,ko,p,q,r,s,(hμc k q).symm.trans t,u⟩)
   ·exact .inr (.inr ⟨k,p,q,⟨ZC,(hμc k q).symm.trans m,m2⟩,z⟩)
theorem FinU.ujB{fn:FuncId}{len:Nat}{l:List Value}{todo:List Item}{out:OO}{live:List (Nat×Value)}{ws:Qm}{os:List Obj}{ex:List Nat}(h:FinU P B ⟨fn,ofList len l,todo,[],.run,none⟩ Hb a out live ws os Wf)(e:HI a l todo none Hb ws Wf ex=true)(hx:Gj a Hb ex):
 UJ P B ⟨fn,ofList len l,todo,[],.run,none⟩ Hb a out live ((ws++((a,Xo)::Xc (a+1) os))++Hb) (a+1+os.length) (MP a) Wf:=by
 simp only[HI,YB]at e;obtain⟨e1,e2,e3,e4,e5,e6,e7,e8⟩:=e;have e8:=YL e8;refine h.uj (Q4 e4) (fun i o ho=> ?_) (fun i hi=>YL (List.all_eq_true.1 e7 i hi)) (fun t=> ?_) e2 rfl rfl rfl (fun i o ho=> ?_)
 ·have:=List.all_eq_true.1 e6 _ (aX ho);simp only[YB]at this;exact⟨YL this.1,by simpa using this.2⟩
 ·simp only[XL,ofList];rw[aV _ _ _ _ (by omega)];split
  ·rename_i ht;have ht:t<l.length:=by omega
   refine .inl (List.all_eq_true.1 e1 _ ?_);rw[Nat.sub_zero,MU,NI ht];exact List.getElem_mem ht
  ·rw[Tri.get_lf];exact .inr (JT (by simp[Go.undef,af]))
 ·have:=List.all_eq_true.1 e5 _ (aX ho);simp only[Bool.or_eq_true]at this;rcases this with h1|h1
  ·exact nu hx h1 ho
  ·exact wT h1
theorem GoE.endsTx{c0 c:CF}{H:Qm}{n:Nat}{s:Option ST}(hok0:Iw P B 1 c H n s)(h:GoE P B c0 Zn 1 c H n []){fz:List Fz}{out:Value}{L:List Prop}
 (e:Xd s fz=some (out,L)) (hL:Q3 L):EndsT P B c0 out:=by
 unfold Xd at e;split at e
 ·rename_i v H' n' W' L';cases hW:W'.isEmpty with
  |false=>rw[hW]at e;cases e
  |true=>
   rw[hW]at e;simp only[cond_true]at e;split at e
   ·rename_i t R2 L2 ZQ;simp only[YO,YR]at e;obtain⟨rfl,rfl⟩:=e;obtain⟨hL2,hL1⟩:=Xw hL;have hWe:W'=[]:=by simpa using hW
    subst hWe;obtain⟨R,W2,hfj,hiff⟩:=hok0 _ _ _ _ _ rfl hL1;intro μ w fr cs im QF hB hf QK XK;obtain⟨Zl,w',μ',hp,ho,he⟩:=h.fj hfj μ w fr cs QF hB hf XK;have hnoW:∀i,i∈[]++W2->¬i<1:=fun i hi X2=>by
     have:=(hiff i X2).2 (by simpa using hi);simp at this
    have SN:Below w.heap.size w w':=⟨hp.os,hp.tape,hp.output,hp.grow,fun b hb=>hp.frame b hb fun i hi hl=>absurd hl (hnoW i hi)⟩
    cases ho with
    |ret Vr=>
     rename_i v';refine⟨v',w',SN, ?_,he⟩;have hu':Under H' n':=h.under.shape hfj.shape;have hle:=hp.le
     -- of what is looked at, all is there
     have Ud:∀r,(Qs H' r).isSome->r<1\/1<=r/\r<n':=fun r hr=>by
      have:r<n':=by
       cases hg:Qs H' r with
       |none=>rw[hg]at hr;cases hr
       |some o=>exact hu'.lt hg
      omega
     have PM:Ok B.B (fun _=>True) μ' (Qs H') w':=
      ⟨fun i o _ ho=>hp.ok.rel i o (Ud i (by rw[ho];rfl)) ho,fun i o im _ ho=>hp.ok.low i o im (Ud i (by rw[ho];rfl)) ho,
       fun i j oi oj a b _ _ P4 Wl Wj=>hp.ok.inj i j oi oj a b (Ud i (by rw[Wl];rfl)) (Ud j (by rw[Wj];rfl)) P4 Wl Wj,
       fun i o _ ho=>hp.ok.Yg i o (Ud i (by rw[ho];rfl)) ho,fun i j oi oj a b x _ _ Wl Wj=>hp.ok.sep i j oi oj a b x (Ud i (by rw[Wl];rfl)) (Ud j (by rw[Wj];rfl)) Wl Wj⟩
     refine(K9 PM 3 v v' t R2 L2 ZQ hL2 (fun _ _=>trivial) Vr).mono fun b x hx=> ?_
     have hw:=WW hx;unfold KJ at hx;split at hx
     ·rename_i hc;obtain⟨i,_,o,im2,hio,WC,UF⟩:=hc;have hi:=Ud i (by rw[hio];rfl);have old0:∀i,i<1->i=0:=fun i h=>by omega
      have keep0:Qs H' 0=some Xo:=by
       rw[hp.keep 0 (by omega) fun e=>hnoW 0 e (by omega)];rfl
      have mu0:μ' 0=some im:=by rw[hp.ext 0 (by omega)];exact QK
      have below:b<w.heap.size->im.fm b=some x->PS im.fm w w' b=some x:=fun h1 h2=>by unfold PS;rw[if_pos h1];exact h2
      have above:w.heap.size<=b->PS im.fm w w' b=some x:=fun h1=>by unfold PS;rw[if_neg (by omega)];exact hw
      have from0:im.fm b=some x->PS im.fm w w' b=some x:=fun h=>by
       refine below ?_ h;exact YC QF (i:=0) (o:=Xo) (show 0<1 by omega) rfl trivial QK h
      rcases UF with ⟨WZ,KG⟩|⟨hl,hb⟩
      ·cases hfx:im2.fm b with
       |none=>exact absurd hfx KG
       |some y=>
        obtain⟨im3,him3,hf3⟩:=hp.ok.Yg i o hi hio WZ;rw[WC]at him3;cases him3;have:=hf3 b y hfx;rw[hw]at this;cases this;rcases hi with hi|hi
        ·rw[old0 i hi,mu0]at WC;cases WC;exact from0 hfx
        ·rcases hp.rf i im2 o (.inl hi) hio WZ WC b x hfx with c|⟨k,Uj,ko,hk,_,hko,_,hkm,hkb⟩|⟨k,hk,hkn,_⟩
         ·exact above c
         ·rw[old0 k hk,QK]at hkm;cases hkm;exact from0 hkb
         ·exact absurd hkn (hnoW k hk)
      ·rcases hi with hi|hi
       ·rw[old0 i hi,keep0]at hio;cases hio;exact hl.elim
       ·rcases(hp.fresh i im2 o hi.1 hi.2 hio hl WC).2 with c|⟨k,hk,hkn,_⟩
        ·exact above (by omega)
        ·exact absurd hkn (hnoW k hk)
     ·cases hx
   ·cases e
 ·cases e
theorem GoE.endsD{c0 c:CF}{H:Qm}{n:Nat}(hF:∀g,F g=true->Q8 P g=true)(hJ:∀w,B.has w->J w)(XY:P.follows .mixedOrders=true)(h:GoE P B c0 Zn 1 c H n []){k:Nat}{o:OO}{live:List (Nat×Value)}{UM:Qm}{n':Nat}{Wk:List Nat}{res:Value}{resR:List Nat}{fz:List Fz}{out:Value}{L:List Prop}
 (e:Xd (tN P F J B k 1 c H n o live UM n' Wk res resR) fz=some (out,L)) (hL:Q3 L):EndsT P B c0 out:=GoE.endsTx (tM hF hJ XY h.under) h e hL
end
def Vd(n:Int):Nat:=2 ^ n.toNat
def bf(a n:Int):Nat:=a.toNat >>> n.toNat
def tn(a b:Int):Nat:=a.toNat &&& b.toNat
theorem S9{n:Int}(h1:n<=62):Vd n<=4611686018427387904:=by unfold Vd;exact Nat.le_trans (Nat.pow_le_pow_right (by decide) (show n.toNat<=62 by omega)) (by decide)
theorem Gw{a n:Int}:bf a n<=a.toNat:=by unfold bf;rw[Nat.shiftRight_eq_div_pow];exact Nat.div_le_self _ _
theorem FY{n:Int}(h1:n<=62):(2:Nat) ^ n.toNat<=2 ^ 62:=Nat.pow_le_pow_right (by decide) (by omega)
theorem FZ{P:Program}{t:TypeId}{yk:IntKind}{n:Int}(h0:0<=n)(h1:n<=62):o4 P .shl t (.int .i64 1) (.int yk n) (.int .i64 ((Vd n:Nat):Int)):=fun x y w=>by
 unfold Vd;have e:min n.toNat (IntKind.bits IntKind.i64)=n.toNat:=Nat.min_eq_left (by show n.toNat<=64;omega);have hp:=FY h1;have e2:(2:Int) ^ n.toNat=((2 ^ n.toNat:Nat):Int):=by rw[Int.natCast_pow];rfl
 have e3:IntKind.wrap IntKind.i64 (1*2 ^ min n.toNat (IntKind.bits IntKind.i64))=((2 ^ n.toNat:Nat):Int):=by
  rw[e,Int.one_mul,e2];generalize 2 ^ n.toNat=z at *;exact ca (by omega) (by omega)
 have hn:¬n<0:=by omega
 simp only[eqGuard,binOp,Op.shift,hn,if_false,e3];simp
theorem HQ{P:Program}{t:TypeId}{yk:IntKind}{a n:Int}(ha:0<=a)(h0:0<=n)(h1:n<=62):o4 P .shr t (.int .i64 a) (.int yk n) (.int .i64 ((bf a n:Nat):Int)):=fun x y w=>by
 unfold bf;obtain⟨b,rfl⟩:∃b:Nat,a=b:=⟨a.toNat,by omega⟩
 have e:min n.toNat (IntKind.bits IntKind.i64)=n.toNat:=Nat.min_eq_left (by show n.toNat<=64;omega);have e3:Int.fdiv (b:Int) (2 ^ min n.toNat (IntKind.bits IntKind.i64))=((((b:Int)).toNat >>> n.toNat:Nat):Int):=by
  rw[e,Int.fdiv_eq_ediv_of_nonneg _ (Int.le_of_lt (Int.pow_pos (by decide))),Int.toNat_natCast,Nat.shiftRight_eq_div_pow,Int.natCast_ediv,Int.natCast_pow];rfl
 have hn:¬n<0:=by omega
 simp only[eqGuard,binOp,Op.shift,hn,if_false,e3];simp
theorem qu{a:Int}(ha:0<=a):BitVec.ofInt (IntKind.bits IntKind.i64) a=BitVec.ofNat 64 a.toNat:=by
 obtain⟨b,rfl⟩:∃b:Nat,a=b:=⟨a.toNat,by omega⟩
 rw[Int.toNat_natCast];exact BitVec.ofInt_natCast 64 b
theorem HR{P:Program}{t:TypeId}{a b:Int}(ha:0<=a)(ha2:a<=9223372036854775807)(hb:0<=b)(hb2:b<=9223372036854775807):o4 P .and t (.int .i64 a) (.int .i64 b) (.int .i64 ((tn a b:Nat):Int)):=fun x y w=>by
 unfold tn;have e:IntKind.wrap IntKind.i64 ((BitVec.toNat (BitVec.ofInt (IntKind.bits IntKind.i64) a &&& BitVec.ofInt (IntKind.bits IntKind.i64) b):Nat):Int)=((a.toNat &&& b.toNat:Nat):Int):=by
  rw[qu ha,qu hb];have e3:BitVec.toNat (BitVec.ofNat 64 a.toNat &&& BitVec.ofNat 64 b.toNat)=a.toNat &&& b.toNat:=by
   rw[BitVec.toNat_and,BitVec.toNat_ofNat,BitVec.toNat_ofNat,Nat.mod_eq_of_lt (a:=a.toNat) (by omega),Nat.mod_eq_of_lt (a:=b.toNat) (by omega)]
  show IntKind.wrap IntKind.i64 ((BitVec.toNat (BitVec.ofNat 64 a.toNat &&& BitVec.ofNat 64 b.toNat):Nat):Int)=_;rw[e3];have:=Nat.and_le_left (n:=a.toNat) (m:=b.toNat);exact ca (by omega) (by omega)
 simp only[eqGuard,binOp,Op.intBits,ne_eq,not_true_eq_false,if_false,e];simp
def X9{α:Type}(m:Nat)(e:α->List Value)(x:α):List Value:=(e x).map (Wn m)
def xJ{α:Type}(e:α->List Value):Prop:=∀x,∀v∈e x,simple v=true\/Vo v=true
section
variable {α:Type} {e:α->List Value} {m r j z:Nat} {rs:List (Nat×Nat)} {KK:List (Nat×Array Value)} {ow:List (Nat×Nat)} {xs:List α} {rsT:List Nat}
theorem W4(h:∀x,(e x).all (fun v=>simple v || Vo v)=true):xJ e:=fun x v hv=>by
 have:=List.all_eq_true.1 (h x) v hv;simpa using this
theorem Pq(v:Value)(h:simple v=true\/Vo v=true):(simple v=true/\Wn m v=v)\/(Vo v=true/\Wn m v=Qv m v):=by
 unfold Wn;cases hs:simple v with
 |true=>exact .inl ⟨rfl,rfl⟩
 |false=>rw[hs]at h;exact .inr ⟨by simpa using h,rfl⟩
theorem zO(he:xJ e)(hm:(r,j)∈rs)(x:α):AllX m rs KK ow (X9 r e x) (X9 j e x):=by
 have key:∀l:List Value,(∀v∈l,simple v=true\/Vo v=true)->AllX m rs KK ow (l.map (Wn r)) (l.map (Wn j)):=by
  intro l;induction l with
  |nil=>intro _;trivial
  |cons v l ih=>
   intro h;refine⟨?_,ih fun u hu=>h u (Nc _ hu)⟩;show iA m rs KK ow (Wn r v) (Wn j v);rcases Pq (m:=r) v (h v (by simp))with ⟨a,b⟩|⟨a,b⟩ <;> rcases Pq (m:=j) v (h v (by simp))with ⟨c,d⟩|⟨c,d⟩
   ·rw[b,d];exact .simple a
   ·rw[b];unfold Wn;rw[a];exact .simple a
   ·rw[d];unfold Wn;rw[c];exact .simple c
   ·rw[b,d];exact .Yg hm a
 exact key _ (he x)
theorem z9{e1 e2:α->List Value}(h:∀x,AllX m rs KK ow (e1 x) (e2 x)):Zj m rs KK ow (Qg e1 xs) (Qg e2 xs):=by
 unfold Zj Qg;simp only;induction xs with
 |nil=>trivial
 |cons x xs ih=>simp only[List.flatMap_cons];exact(h x).append ih
theorem ZO(he:xJ e)(hm:(r,j)∈rs):Zj m rs KK ow (Qg (X9 r e) xs) (Qg (X9 j e) xs):=z9 (zO he hm)
theorem il{cs:Array Value}{vs:List Value}{x:α}(h:Zj m rs KK ow cs (Qg e xs))(hx:AllX m rs KK ow vs (e x)):Zj m rs KK ow (cs++vs.toArray) (Qg e (xs++[x])):=by
 unfold Zj at h ⊢;rw[<-Vj];simp only[Array.toList_append];exact AllX.append h hx
theorem nY{vs:List Value}{x:α}(hx:AllX m rs KK ow vs (e x)):Zj m rs KK ow vs.toArray (Qg e [x]):=by
 unfold Zj Qg;simpa using hx
theorem zA{vs:List Value}{x:α}(h:AllX m rs KK ow vs (e x)):∀k:Nat,Zj m rs KK ow (Qg (fun(_:α)=>vs) (MT k x)) (Qg e (MT k x))
 |0=>trivial
 |k+1=>by
  unfold Zj Qg;simp only[List.replicate_succ,List.flatMap_cons];exact h.append (zA h k)
theorem SU(he:xJ e)(hm:m∈rsT):ZY rsT (Qg (X9 m e) xs) (Qg e xs):=by
 have key:∀l:List Value,(∀v∈l,simple v=true\/Vo v=true)->∀(i:Nat) v v1,(l.map (Wn m))[i]? =some v->l[i]? =some v1->oz rsT v v1:=by
  intro l h i v v1 h1 h2;rw[Ng,h2]at h1;simp only[Nn,YO]at h1;subst h1;rcases Pq (m:=m) v1 (h v1 (MW h2))with ⟨a,b⟩|⟨a,b⟩
  ·exact .inl ⟨by rw[b];exact a,b.symm⟩
  ·exact .inr ⟨m,hm,b,a⟩
 have e0:Qg (X9 m e) xs=((xs.flatMap e).map (Wn m)).toArray:=by
  unfold Qg X9;rw[List.map_flatMap]
 refine⟨by rw[e0];simp[Qg],fun i v v1 h1 h2=> ?_⟩;rw[e0]at h1;refine key (xs.flatMap e) (fun v hv=> ?_) i v v1 (by simpa using h1) (by simpa[Qg]using h2);obtain⟨x,_,hx⟩:=List.mem_flatMap.1 hv;exact he x v hx
theorem nv{a:Nat}{t:TypeId}{fl:Nat×Nat}(he:xJ e)(hm:m<a):xK a (.cells (Qg (X9 m e) xs) t fl):=fun i v hv=>by
 have:v∈Qg (X9 m e) xs:=Nq hv;simp only[Qg,List.mem_toArray,List.mem_flatMap,X9,List.mem_map]at this;obtain⟨x,_,u,hu,rfl⟩:=this;rcases Pq (m:=m) u (he x u hu)with ⟨h1,h2⟩|⟨h1,h2⟩
 ·rw[h2];exact .inl (jT h1)
 ·rw[h2];refine .inl ?_;show Qz a (Qv m u)=true;have:MY m a=true:=Nl hm;unfold Qz;rw[show simple (Qv m u)=false from rfl,Bool.false_or];exact this
end
def Ul(zs:List Value)(_:Unit):List Value:=zs
theorem Cc{zc:Array Value}{z n:Nat}(hz:zc.size=z)(h0:0<z):madeCells zc (n*z)=Qg (Ul zc.toList) (MT n ()):=by
 have hl:∀x,(Ul zc.toList x).length=z:=fun x=>by simp[Ul,hz]
 refine Array.ext_getElem? fun i=> ?_
 by_cases hi:i<n*z
 ·have hk:i / z<n:=(Nat.div_lt_iff_lt_mul h0).2 hi;have hj:i % z<z:=Nat.mod_lt _ h0;have e:i / z*z+i % z=i:=by rw[Nat.mul_comm];exact Nat.div_add_mod i z
  have:=ka (e:=Ul zc.toList) (xs:=MT n ()) hl (k:=i / z) (j:=i % z) (by simpa using hk) hj;rw[e]at this;rw[this];have hj':i % z<zc.size:=by rw[hz];exact hj
  simp only[madeCells,Array.getElem?_map,Array.getElem?_range,hi,if_true,Nn,hz,Ul];simp[hj']
 ·have a:(madeCells zc (n*z)).size=n*z:=size_madeCells _ _;have b:(Qg (Ul zc.toList) (MT n ())).size=n*z:=by rw[ZP hl];simp
  rw[NJ (by omega),NJ (by omega)]
def LZ(P:Program)(t e z bytes:Nat)(zs:List Value):Bool:=match J4 P t with
 |some (.slice e')=>MQ e' e && match inf P e with
  |some i=>match i.zero with
   |some zv=>MQ i.size z && (MQ i.bytes bytes && (MY 0 z && (MQ zv.cells.size z && (FG (C4 2) zv.cells.toList zs && zs.all simple))))
   |none=>false
  |none=>false
 |_=>false
theorem fV{P:Program}{t e z bytes:Nat}{zs:List Value}(h:LZ P t e z bytes zs=true){l:Int}{k k':IntKind}(h0:0<=l)(hb:bytes*l<=281474976710656)(hn:l<=9223372036854775807):
 Si P t (.int k l) (.int k' l)=some (e,Qg (Ul zs) (MT l.toNat ()),l.toNat,z):=by
 unfold LZ at h;split at h
 ·rename_i e' hu;split at h
  ·rename_i i hi;split at h
   ·rename_i zv hz;simp only[YB]at h;obtain⟨h1,h2,h3,h4,h5,h6,h7⟩:=h;have h1:=YE h1;have h2:=YE h2;have h3:=YE h3;have h4:0<z:=YL h4;have h5:=YE h5;have h6:=K1 (UC 2) _ _ h6;subst h1 h2 h3;have e1:=Cc (n:=l.toNat) h5 h4;rw[h6]at e1;have Ud:(madeCells zv.cells (l.toNat*i.size)).all simple=true:=by
     rw[e1,Array.all_eq_true'];intro v hv;simp only[Qg,List.mem_toArray,List.mem_flatMap,Ul]at hv;obtain⟨_,_,hv⟩:=hv;exact List.all_eq_true.1 h7 v hv
    simp only[Si,hu,hi,hz,decide_eq_true h0,decide_eq_true hb,decide_eq_true hn,decide_eq_true (Nx l),Ud,Bool.and_self,cond_true];rw[e1]
   ·simp at h
  ·simp at h
 ·cases h
section
variable {α:Type} {e:α->List Value} {m z:Nat} {rs:List (Nat×Nat)} {KK:List (Nat×Array Value)} {ow:List (Nat×Nat)} {xs:List α}
theorem Uy{zs:List Value}{x:α}(h:AllX m rs KK ow zs (e x)):∀k:Nat,Zj m rs KK ow (Qg (Ul zs) (MT k ())) (Qg e (MT k x))
 |0=>trivial
 |k+1=>by
  unfold Zj Qg;simp only[List.replicate_succ,List.flatMap_cons];exact AllX.append h (Uy h k)
theorem AllX.take{l k:List Value}:∀(n:Nat) {l k:List Value},AllX m rs KK ow l k->AllX m rs KK ow (l.take n) (k.take n)
 |0,_,_,_=>trivial
 |_+1,[],[],_=>trivial
 |n+1,_::_,_::_,h=>⟨h.1,AllX.take (l:=[]) (k:=[]) n h.2⟩
 |_+1,[],_::_,h=>h.elim
 |_+1,_::_,[],h=>h.elim
theorem AllX.drop{l k:List Value}:∀(n:Nat) {l k:List Value},AllX m rs KK ow l k->AllX m rs KK ow (l.drop n) (k.drop n)
 |0,_,_,h=>h
 |_+1,[],[],_=>trivial
 |n+1,_::_,_::_,h=>AllX.drop (l:=[]) (k:=[]) n h.2
 |_+1,[],_::_,h=>h.elim
 |_+1,_::_,[],h=>h.elim
theorem z8{cs:Array Value}{vs:List Value}{x:α}{k:Nat}(hz:∀y,(e y).length=z)(h:Zj m rs KK ow cs (Qg e xs))(hk:k<xs.length)(hx:AllX m rs KK ow vs (e x)):Zj m rs KK ow (splice cs (k*z) vs.toArray) (Qg e (xs.set k x)):=by
 have hlen:=(AllX.get hx).1;rw[hz x]at hlen;rw[<-(gi hz hk).2];unfold Zj at h ⊢;unfold splice;simp only[hz x,<-hlen];exact AllX.append (AllX.append (AllX.take (l:=[]) (k:=[]) _ h) hx) (AllX.drop (l:=[]) (k:=[]) _ h)
theorem ik{cs:Array Value}{vs:List Value}{x:α}{k:Nat}(hz:∀y,(e y).length=z)(h:Zj m rs KK ow cs (Qg e xs))(hk:k<xs.length)(hx:AllX m rs KK ow vs (e x)):Zj m rs KK ow (splice cs (0+k*z) vs.toArray) (Qg e (xs.set k x)):=by
 rw[Nj];exact z8 hz h hk hx
theorem PX(h:∀x,(e x).length=z){k z':Nat}(hk:k<xs.length){x:α}{cs:Array Value}(hc:cs=(e x).toArray)(hz:z'=z):0+k*z+z'<=(Qg e xs).size/\splice (Qg e xs) (0+k*z) cs=Qg e (xs.set k x):=by
 subst hz;rw[Nj];exact Gz h hk hc
theorem Dg(h:∀x,(e x).length=z){k z':Nat}(hk:k<xs.length)(hz:z'=z):0+k*z+z'<=(Qg e xs).size:=by
 subst hz;rw[Nj];exact Ab h hk
end
end Go.CE

noncomputable abbrev Go.CE.YP:Go.Program:=Go.Proofs.Try.prog
namespace Go.Proofs.Ytncjjangllkokaa
open Go Go.CE Go.RowKit
abbrev pA(b o:Nat):Value:=.pointer (some ⟨b,o,none⟩)
def J0:World->Prop:=fun _=>True
theorem Zs:∀w w':World,(∀b,b<w.heap.size->w'.heap[b]? =w.heap[b]?)->J0 w->J0 w':=fun _ _ _ _=>trivial
theorem Qf:YP.follows .mixedOrders=true:=by decide+kernel
theorem okF:∀g,Q8 YP g=true->Q8 YP g=true:=fun _ h=>h
end Go.Proofs.Ytncjjangllkokaa

namespace Go.CE
open Go Go.RowKit

section
variable {P:Program} {F:FuncId->Bool} {T:Tm} {o:Oper} {H:Qm} {n:Nat}
theorem hP{t e:TypeId}{x hi:Operand}{b off N z:Nat}{k:IntKind}{l:Int}(ho:o.op=.slice t x none (some hi) none)(hx:Zi T x=some (.pointer (some ⟨b,off,none⟩)))(hl:Zi T hi=some (.int k l))(hu:J4 P t=some (.array N e))(hz:WH P e=some z)(hN:Nr N maxLen=true)(h1:0<=l)(h2:l<=N):
 bh P F X7 (fun _ _ _=>none) T o H n=some ⟨.ret (.slice (some ⟨b,off,none⟩) l.toNat 0),H,n,[],[]⟩:=by
 have e1:xH N none (some (.int k l))=some (0,l.toNat):=by
  simp only[xH,CK,decide_eq_true h1,decide_eq_true h2,Bool.and_self,cond_true]
 have e4:ae P t (.pointer (some ⟨b,off,none⟩)) none (some (.int k l))=some (.slice (some ⟨b,off,none⟩) l.toNat 0):=by
  simp only[ae,hu,hz,e1,hN,cond_true,Nat.zero_mul,Nat.add_zero,Nat.sub_zero];cases MQ N 0 <;> rfl
 have e5:Pj P F (Zi T) o H n=some ⟨.val (.slice (some ⟨b,off,none⟩) l.toNat 0),H,n,[],[]⟩:=by
  unfold Pj sR;simp only[ho,hx,CP,hl,e4,mkPure,Nn,List.all_nil,cond_true]
 unfold bh;simp only[ho,e5]
end
section
variable {P:Program} {F:FuncId->Bool} {T:Tm} {o:Oper} {H:Qm} {n:Nat}
theorem v7{c:Call}{s x:Operand}{sv:Value}{t e:TypeId}{b off m s2 z by':Nat}{cs cs':Array Value}{te:TypeId}{f:Nat×Nat}(ho:o.op=.call c)(hc:c.callee=.builtin .append)(ha:c.args.toList=[s,x])(hat:c.argTypes.toList=[t,t])
 (hs:Zi T s=some sv) (hbn:KX sv=true) (hx:Zi T x=some (.slice (some ⟨b,off,none⟩) m s2)) (hu:J4 P t=some (.slice e)) (hi:(inf P e).map (fun i=>(i.zero.map (·.cells.size),i.size,i.bytes))=some (some (z+1),z+1,by')) (hb:Qs H b=some (.cells cs te f)) (hn:b<n)
 (hq:0<m/\m<=maxLen/\m*by'<=140737488355328/\off+m*(z+1)<=cs.size/\ones (cs.extract off (off+m*(z+1)))=true/\cs.extract off (off+m*(z+1))=cs'):
 bh P F X7 (fun _ _ _=>none) T o H n=some ⟨.ret (.slice (some ⟨n,0,none⟩) m (z+1)),(n,.cells cs' e (0,0))::H,n+1,[b],[]⟩:=by
 obtain⟨h1,h2,h3,h4,h5,rfl⟩:=hq;cases hinf:inf P e with
 |none=>rw[hinf]at hi;cases hi
 |some i=>
  rw[hinf]at hi;simp only[Nn,YO,YR]at hi;obtain⟨i1,i2,i3⟩:=hi;cases hz:i.zero with
  |none=>rw[hz]at i1;cases i1
  |some zv=>
   rw[hz]at i1;simp only[Nn,YO]at i1;have eb:bare sv=.slice none 0 0:=by
    unfold KX at hbn;split at hbn
    ·rfl
    ·rfl
    ·cases hbn
   have e4:xG P t t H n sv (.slice (some ⟨b,off,none⟩) m s2)=some ⟨.val (.slice (some ⟨n,0,none⟩) m (z+1)),(n,.cells (cs.extract off (off+m*(z+1))) e (0,0))::H,n+1,[b],[]⟩:=by
    have q1:MQ zv.cells.size (z+1)=true:=by rw[i1];simp
    have q2:Nr m maxLen=true:=Nl h2;have q3:Nr (m*i.bytes) 140737488355328=true:=Nl (by rw[i3];exact h3);have q4:MY 0 m=true:=Nl h1;have q5:Nr (off+m*(z+1)) cs.size=true:=Nl h4;simp only[xG,eb,show MQ t t=true by simp,cond_true,Ue,hu,hinf,hz,i2,PQ,lW,hb,q5,h5,q1,q2,q3,q4,Nj,Bool.and_self,Ta,Option.toList,Array.empty_append]
   have e5:Pj P F (Zi T) o H n=some ⟨.val (.slice (some ⟨n,0,none⟩) m (z+1)),(n,.cells (cs.extract off (off+m*(z+1))) e (0,0))::H,n+1,[b],[]⟩:=by
    unfold Pj sR;simp only[ho,hc,ha,hat,hs,hx,e4,List.all_cons,List.all_nil,show MY b n=true from Nl hn,Bool.and_self,cond_true]
   unfold bh;simp only[ho,e5]
end
theorem V2{α:Type}{e:α->List Value}{xs:List α}{x:α}{cs:Array Value}(h:cs=(e x).toArray):Qg e xs++cs=Qg e (xs++[x]):=by
 rw[h];exact Vj
def Qi(fs:List Int)(k:Nat):Int:=fs.getD k 0
def xZ(k:Nat)(x:Int):Nat->List Int->List Int
 |_,[]=>[]
 |j,f::l=>(if k=j then x else f)::xZ k x (j+1) l
theorem cv(k:Nat)(x:Int):∀(l:List Int) (j:Nat),(xZ k x j l).length=l.length
 |[],_=>rfl
 |_::l,j=>by simp[xZ,cv k x l (j+1)]
theorem tE(k:Nat)(x:Int):∀(l:List Int) (j i:Nat),i<l.length->(xZ k x j l)[i]? =some (if k=j+i then x else l.getD i 0)
 |[],_,_,h=>by simp at h
 |f::l,j,0,_=>by simp[xZ]
 |f::l,j,i+1,h=>by
  have:=tE k x l (j+1) i (by simpa using h);simp only[xZ,List.getElem?_cons_succ,this,List.getD_cons_succ];rw[show j+1+i=j+(i+1)by omega]
theorem tl{cs:Array Value}{fs:List Int}{off i:Nat}(h:(cs.toList.drop off).take fs.length=fs.map (Value.int .i64))(hi:i<fs.length):cs[off+i]? =some (.int .i64 (fs.getD i 0)):=by
 have e:((cs.toList.drop off).take fs.length)[i]? =(fs.map (Value.int .i64))[i]? :=by rw[h]
 rw[NK hi,List.getElem?_drop,Ng,MX]at e;rw[e];simp[MU,hi]
theorem SY{cs:Array Value}{fs:List Int}{off k:Nat}(h:(cs.toList.drop off).take fs.length=fs.map (Value.int .i64))(hk:k<fs.length):cs[off+k*1]? =some (.int .i64 (Qi fs k)):=by
 rw[Nat.mul_one];exact tl h hk
theorem Ca{l:List Int}:ones (Qg Q9 l)=true:=by
 unfold ones;rw[Array.all_eq_true'];intro v hv;have:=Xg (e:=Q9) (fun x v hv=>by simp[Q9]at hv;subst hv;rfl) v hv;cases v <;> first|rfl|cases this
theorem Az{cs:Array Value}{fs:List Int}{off m:Nat}(h:(cs.toList.drop off).take fs.length=fs.map (Value.int .i64))(hm:m<=fs.length)(h0:0<fs.length):off+m*1<=cs.size/\ones (cs.extract off (off+m*1))=true/\cs.extract off (off+m*1)=Qg Q9 (fs.take m):=by
 have ZN:off+fs.length<=cs.size:=by
  have e:=tl h (i:=fs.length-1) (by omega);have:=(Array.getElem?_eq_some_iff.1 e).1;omega
 rw[Nat.mul_one];have e:cs.extract off (off+m)=Qg Q9 (fs.take m):=by
  apply Array.ext';rw[Array.toList_extract,List.extract_eq_drop_take,show off+m-off=m by omega];have e2:(cs.toList.drop off).take m=((cs.toList.drop off).take fs.length).take m:=by rw[List.take_take,Nat.min_eq_left hm]
  rw[e2,h,<-List.map_take];induction fs.take m with
  |nil=>rfl
  |cons x l ih=>rw[List.map_cons,ih];rfl
 exact⟨by omega,by rw[e];exact Ca,e⟩
theorem Ge{cs:Array Value}{fs:List Int}{off k:Nat}(h:(cs.toList.drop off).take fs.length=fs.map (Value.int .i64))(hk:k<fs.length):cs.extract (off+k*1) (off+k*1+1)=#[.int .i64 (Qi fs k)]:=by
 have e:=SY h hk;have hs:=(Array.getElem?_eq_some_iff.1 e).1;refine Array.ext_getElem? fun i=> ?_
 rw[NB];by_cases hi:i=0
 ·subst hi;rw[if_pos (by omega),Nat.add_zero,e];rfl
 ·rw[if_neg (by omega),NJ (by simp;omega)]
theorem LB{l:List Int}{k:Nat}(h:l.length<=4):Qi [l.getD 0 0,l.getD 1 0,l.getD 2 0,l.getD 3 0] k=l.getD k 0:=by
 match k with
 |0=>rfl
 |1=>rfl
 |2=>rfl
 |3=>rfl
 |k+4=>
  have e:l.getD (k+4) 0=0:=by rw[MU,Nf (by omega)];rfl
  rw[e];rfl
theorem ot{cs cs' vc:Array Value}{fs:List Int}{off k:Nat}{x:Int}(hv:vc=#[.int .i64 x])(h:(cs.toList.drop off).take fs.length=fs.map (Value.int .i64))(hk:k<fs.length)(hc:cs'.toList=cs.toList.take off++(xZ k x 0 fs).map (Value.int .i64)++cs.toList.drop (off+fs.length)):
 off+k*1+1<=cs.size/\splice cs (off+k*1) vc=cs':=by
 subst hv;have ZN:off+fs.length<=cs.size:=by
  have e:=tl h (i:=fs.length-1) (by omega);have:=(Array.getElem?_eq_some_iff.1 e).1;omega
 rw[Nat.mul_one];refine⟨by omega,Array.ext_getElem? fun i=> ?_⟩;rw[J7 (by simp;omega),<-MX (xs:=cs'),hc];have l1:(cs.toList.take off).length=off:=by simp;omega
 by_cases h1:i<off
 ·rw[if_neg (by simp;omega),List.append_assoc,Nk (by omega),NK h1,MX]
 ·rw[List.append_assoc,MZ (by omega),l1];by_cases h2:i-off<fs.length
  ·rw[Nk (by simp[cv];omega),Ng,tE k x fs 0 (i-off) h2];by_cases h3:i=off+k
   ·subst h3;rw[if_pos (by simp),if_pos (by omega)];simp
   ·rw[if_neg (by simp;omega),if_neg (by omega)];have e:=tl h h2;rw[show off+(i-off)=i by omega]at e;rw[e];rfl
  ·rw[if_neg (by simp;omega),MZ (by simp[cv];omega),List.getElem?_drop,List.length_map,cv,MX];congr 1;omega
theorem nV{xs:List Int}{cs cs':Array Value}{off k r m:Nat}{e:Int->List Value}(he:∀x,e x=[.int .i64 x])(hm:m=xs.length)(h0:0<m)(hk:m<=k)(h:(cs.toList.drop off).take k=MT k (Value.int .i64 0))(hz:off+k<=cs.size)
 (hc:cs'.toList=cs.toList.take off++((MP k).map fun j=>Value.int .i64 (xs.getD j ML))++cs.toList.drop (off+k)):
 0<m/\off+Nw m k*1<=cs.size/\Nw m k*1<=(Qg e xs).size/\((Qg e xs).all fun v=>simple v || Vo v)=true/\ones (((Qg e xs).extract 0 (Nw m k*1)).map (Wn r))=true/\splice cs off (((Qg e xs).extract 0 (Nw m k*1)).map (Wn r))=cs':=by
 subst hm;have hmin:Nw xs.length k*1=xs.length:=by rw[Nat.mul_one];exact Nat.min_eq_left hk
 have hrow:Qg e xs=(xs.map (Value.int .i64)).toArray:=by
  have:xs.flatMap e=xs.map (Value.int .i64):=by
   have:e=fun x=>[Value.int .i64 x]:=funext he
   rw[this];have h9:∀l:List Int,l.flatMap (fun x=>[Value.int .i64 x])=l.map (Value.int .i64):=fun l=>by
    induction l with
    |nil=>rfl
    |cons x l ih=>rw[List.flatMap_cons,ih];rfl
   exact h9 xs
  unfold Qg;rw[this]
 have ZN:(Qg e xs).size=xs.length:=by rw[hrow];simp
 have hext:((Qg e xs).extract 0 (Nw xs.length k*1)).map (Wn r)=(xs.map (Value.int .i64)).toArray:=by
  rw[hmin,hrow];apply Array.ext_getElem?;intro i;rw[Array.getElem?_map,NB];by_cases hi:i<xs.length
  ·rw[if_pos (by simp;omega)];simp[hi,Wn,simple]
  ·rw[if_neg (by simp;omega)];simp[hi]
 rw[hext,hmin,ZN];refine⟨h0,by omega,Nh _, ?_, ?_,Array.ext_getElem? fun i=> ?_⟩
 ·rw[hrow];simp[simple]
 ·simp[ones,Value.oneCell']
 ·rw[J7 (by simp;omega),<-MX (xs:=cs'),hc];have l1:(cs.toList.take off).length=off:=by simp;omega
  by_cases h1:i<off
  ·rw[if_neg (by simp;omega),List.append_assoc,Nk (by omega),NK h1,MX]
  ·rw[List.append_assoc,MZ (by omega),l1];by_cases h2:i-off<k
   ·rw[Nk (by simp;omega),Ng,List.getElem?_range h2];by_cases h3:i-off<xs.length
    ·rw[if_pos (by simp;omega)];simp[h3,MU]
    ·rw[if_neg (by simp;omega)];have e2:((cs.toList.drop off).take k)[i-off]? =(MT k (Value.int .i64 0))[i-off]? :=by rw[h]
     rw[NK h2,List.getElem?_drop,show off+(i-off)=i by omega,MX,List.getElem?_replicate,if_pos h2]at e2;rw[e2];simp[MU,Nf (show xs.length<=i-off by omega)]
   ·rw[if_neg (by simp;omega),MZ (by simp;omega),List.getElem?_drop,MX];congr 1;simp;omega
theorem FinK.wri{P:Program}{J:World->Prop}{g:FuncId}{args:Array Value}{c0:CF}{Hb ws:Qm}{a:Nat}{Wf:List Nat}{bs outs news:List Obj}{out:OO}(hc:Wt P g args=some c0)(e1:Hb=iB bs)(e2:a=bs.length+1)(e3:ws=Xc 1 outs)(e4:Wf=Ni 1 bs.length)
 (h:∀B:Lo,(∀w,B.has w->J w)->FinK P B c0 Hb a out ws news Wf):WriC P J g args bs out outs news:=fun B hJ μ w args' cs QF hB hf hv=>by
 subst e1 e2 e3 e4;obtain⟨Zl,w',μ',hp,ho,_,he⟩:=h B hJ μ w _ cs QF hB hf (Ux hc hv);rw[show bs.length+1+1+news.length=bs.length+2+news.length by omega]at hp;exact⟨Zl,w',μ',hp,ho,he⟩
end Go.CE

namespace Go.Proofs.Ytncjjangllkokaa
open Go Go.CE Go.RowKit
noncomputable section
def WK(x lo hi:Int):Bool:=decide (lo<=x) && decide (x<=hi)
theorem P0{x lo hi:Int}:WK x lo hi=true<->lo<=x/\x<=hi:=by simp[WK]
structure Span where
 lo:Int
 hi:Int
deriving Inhabited
def QU(s:Span):List Value:=[.int .i64 s.lo,.int .i64 s.hi]
abbrev Yk(xs:List Span):Value:=QJ xs.length (Qg QU xs)
def Zg(a b lo hi:Int):Bool:=decide (lo<=a) && (decide (a<=b) && decide (b<=hi))
theorem pc{a b lo hi:Int}:Zg a b lo hi=true<->lo<=a/\a<=b/\b<=hi:=by simp[Zg]
theorem Vq{α:Type}[Inhabited α]{l:List α}{i:Int}{p:α->Bool}(h0:0<=i)(h:i<l.length):(l.drop i.toNat).all p=(p (l.getD i.toNat ML) && (l.drop (i+1).toNat).all p):=by
 obtain⟨k,rfl⟩:∃k:Nat,i=k:=⟨i.toNat,by omega⟩
 have hk:k<l.length:=by omega
 have e1:((k:Int)).toNat=k:=by omega
 have e2:((k:Int)+1).toNat=k+1:=by omega
 rw[e1,e2,List.drop_eq_getElem_cons hk,List.all_cons];simp[MU,hk]
theorem Yc{α:Type}{l:List α}{i:Int}{p:α->Bool}(h:l.length<=i):(l.drop i.toNat).all p=true:=by
 rw[List.drop_eq_nil_of_le (by omega)];rfl
theorem FA{α:Type}[Inhabited α]{l:List α}{i:Int}(h0:0<=i)(h:i<l.length):l.getD i.toNat ML∈l:=by
 have hk:i.toNat<l.length:=by omega
 rw[MU,NI hk];exact List.getElem_mem hk
theorem v9{α:Type}[Inhabited α]{l:List α}{x:α}(h:x∈l):∃i:Int,0<=i/\i<l.length/\l.getD i.toNat ML=x:=by
 obtain⟨k,hk,rfl⟩:=List.getElem_of_mem h;exact⟨k,by omega,by omega,by simp[MU,hk]⟩
theorem j7{p:Int->Bool}{a b:Int}(h:(aj a b).all p=true){k:Int}(h1:a<=k)(h2:k<b):p k=true:=by
 refine List.all_eq_true.1 h k ?_;unfold aj;exact List.mem_map.2 ⟨(k-a).toNat,List.mem_range.2 (by omega),by omega⟩
def P7{α β:Type}(f:α->β)(x0:β)(xs:List α)(i:Int):List β:=(xs.take i.toNat).map f++MT (xs.length-i.toNat) x0
theorem ej{α β:Type}{f:α->β}{x0:β}{xs:List α}:MT xs.length x0=P7 f x0 xs 0:=by simp[P7]
theorem Sd{α β:Type}{f:α->β}{x0:β}{xs:List α}{i:Int}:(P7 f x0 xs i).length=xs.length:=by simp[P7];omega
theorem Sc{α β:Type}[Inhabited α]{f:α->β}{x0:β}{xs:List α}{i:Int}(h0:0<=i)(h:i<xs.length):(P7 f x0 xs i).set i.toNat (f (xs.getD i.toNat ML))=P7 f x0 xs (i+1):=by
 obtain⟨k,rfl⟩:∃k:Nat,i=k:=⟨i.toNat,by omega⟩
 have hk:k<xs.length:=by omega
 have e1:((k:Int)).toNat=k:=by omega
 have e2:((k:Int)+1).toNat=k+1:=by omega
 unfold P7;rw[e1,e2];have hl:((xs.take k).map f).length=k:=by simp;omega
 rw[List.set_append_right _ _ (by omega),hl,Nat.sub_self];have er:xs.length-k=(xs.length-(k+1))+1:=by omega
 rw[er,List.replicate_succ,List.set_cons_zero];have et:xs.take (k+1)=xs.take k++[xs[k]]:=by rw[List.take_succ_eq_append_getElem hk]
 rw[et,List.map_append,List.append_assoc];simp[MU,hk]
theorem Se{α β:Type}{f:α->β}{x0:β}{xs:List α}{i:Int}(h:xs.length<=i):P7 f x0 xs i=xs.map f:=by
 unfold P7;rw[List.take_of_length_le (by omega),show xs.length-i.toNat=0 by omega];simp
theorem cE{β:Type}{e:β->List Value}{ys zs:List β}{n:Nat}(h:ys=zs)(hn:n=zs.length):QJ n (Qg e ys)=QJ zs.length (Qg e zs):=by subst h hn;rfl
def tL:List Int->Int
 |[]=>0
 |x::l=>x+tL l
def yd(B:Lo)(x lo hi:Int):List Prop:=[(!Zq x lo)=true]++([]:List Prop)
def Dh(x lo hi:Int):QB:=[(3,WR)]
set_option maxRecDepth 100000 in
theorem IB(B:Lo)(x lo hi:Int):Xd (Qu YP (Q8 YP) J0 B 6 1 (Qq YP 55 15 (([.int .i64 x,.int .i64 lo,.int .i64 hi]).map (Q5 0 4))) Zn 1
 (Dh x lo hi++[(7,WR)]) 0 [] []) []=some (.bool true,
 [(!Zq hi x)=true]++yd B x lo hi):=by kernel_rfl
set_option maxRecDepth 100000 in
theorem IA(B:Lo)(x lo hi:Int):Xd (Qu YP (Q8 YP) J0 B 6 1 (Qq YP 55 15 (([.int .i64 x,.int .i64 lo,.int .i64 hi]).map (Q5 0 4))) Zn 1
 (Dh x lo hi++[(7,Vs)]) 0 [] []) []=some (.bool false,
 [(!Zq hi x)=false]++yd B x lo hi):=by kernel_rfl
set_option maxRecDepth 100000 in
theorem I9(B:Lo)(x lo hi:Int):Xd (Qu YP (Q8 YP) J0 B 6 1 (Qq YP 55 15 (([.int .i64 x,.int .i64 lo,.int .i64 hi]).map (Q5 0 4))) Zn 1
 [(3,Vs)] 0 [] []) []=some (.bool false,
 [(!Zq x lo)=false]):=by kernel_rfl
set_option maxHeartbeats 4000000 in
theorem LD(x lo hi:Int)  {B:Lo}(hJ:∀w,B.has w->J0 w):EndsT YP B (Qq YP 55 15 (([.int .i64 x,.int .i64 lo,.int .i64 hi]).map (Q5 0 4))) (.bool (WK x lo hi)):=by
 by_cases q0:(lo:Int)<=(x)
 ·have Vb:Q3 (yd B x lo hi):=by
   exact⟨(Vn q0),trivial⟩
  by_cases q1:(x:Int)<=(hi)
  ·exact(GoE.endsT okF hJ Qf GoE.start (IB B x lo hi)
    ⟨(Vn q1),Vb⟩).cast (by first|rfl|(simp[WK, *];done)|(simp_all[WK];done)|(simp_all[WK];omega))
  ·exact(GoE.endsT okF hJ Qf GoE.start (IA B x lo hi)
    ⟨(UK (Int.not_le.1 q1)),Vb⟩).cast (by first|rfl|(simp[WK, *];done)|(simp_all[WK];done)|(simp_all[WK];omega))
 ·exact(GoE.endsT okF hJ Qf GoE.start (I9 B x lo hi)
   ⟨(UK (Int.not_le.1 q0)),trivial⟩).cast (by first|rfl|(simp[WK, *];done)|(simp_all[WK];done)|(simp_all[WK];omega))
theorem jg(x lo hi:Int)  :Q0 YP J0 55 #[.int .i64 x,.int .i64 lo,.int .i64 hi] (.bool (WK x lo hi)):=
 XD (ts:=[.int .i64 x,.int .i64 lo,.int .i64 hi]) Zs (c0:=Qq YP 55 15 (([.int .i64 x,.int .i64 lo,.int .i64 hi]).map (Q5 0 4))) (by kernel_rfl) (by kernel_rfl) fun B hJ=>LD x lo hi  hJ
def kh(B:Lo)(a b ZF:Int):List Prop:=[(!Zq a 0)=true]++([]:List Prop)
def tX(a b ZF:Int):QB:=[(4,WR)]
def kg(B:Lo)(a b ZF:Int):List Prop:=[(!Zq b a)=true]++kh B a b ZF
def tW(a b ZF:Int):QB:=tX a b ZF++[(10,WR)]
set_option maxRecDepth 100000 in
theorem Dq(B:Lo)(a b ZF:Int):Xd (Qu YP (Q8 YP) J0 B 6 1 (Qq YP 56 21 (([.agg #[.int .i64 a,.int .i64 b],.int .i64 ZF]).map (Q5 0 4))) Zn 1
 (tW a b ZF++[(16,WR)]) 0 [] []) []=some (.bool true,
 [(!Zq ZF b)=true]++kg B a b ZF):=by kernel_rfl
set_option maxRecDepth 100000 in
theorem Dp(B:Lo)(a b ZF:Int):Xd (Qu YP (Q8 YP) J0 B 6 1 (Qq YP 56 21 (([.agg #[.int .i64 a,.int .i64 b],.int .i64 ZF]).map (Q5 0 4))) Zn 1
 (tW a b ZF++[(16,Vs)]) 0 [] []) []=some (.bool false,
 [(!Zq ZF b)=false]++kg B a b ZF):=by kernel_rfl
set_option maxRecDepth 100000 in
theorem Dn(B:Lo)(a b ZF:Int):Xd (Qu YP (Q8 YP) J0 B 6 1 (Qq YP 56 21 (([.agg #[.int .i64 a,.int .i64 b],.int .i64 ZF]).map (Q5 0 4))) Zn 1
 (tX a b ZF++[(10,Vs)]) 0 [] []) []=some (.bool false,
 [(!Zq b a)=false]++kh B a b ZF):=by kernel_rfl
set_option maxRecDepth 100000 in
theorem Dm(B:Lo)(a b ZF:Int):Xd (Qu YP (Q8 YP) J0 B 6 1 (Qq YP 56 21 (([.agg #[.int .i64 a,.int .i64 b],.int .i64 ZF]).map (Q5 0 4))) Zn 1
 [(4,Vs)] 0 [] []) []=some (.bool false,
 [(!Zq a 0)=false]):=by kernel_rfl
set_option maxHeartbeats 4000000 in
theorem G3(a b ZF:Int)  {B:Lo}(hJ:∀w,B.has w->J0 w):EndsT YP B (Qq YP 56 21 (([.agg #[.int .i64 a,.int .i64 b],.int .i64 ZF]).map (Q5 0 4))) (.bool (Zg a b 0 ZF)):=by
 by_cases q0:(0:Int)<=(a)
 ·have Vb:Q3 (kh B a b ZF):=by
   exact⟨(Vn q0),trivial⟩
  by_cases q1:(a:Int)<=(b)
  ·have PV:Q3 (kg B a b ZF):=by
    exact⟨(Vn q1),Vb⟩
   by_cases q2:(b:Int)<=(ZF)
   ·exact(GoE.endsT okF hJ Qf GoE.start (Dq B a b ZF)
     ⟨(Vn q2),PV⟩).cast (by first|rfl|(simp[Zg, *];done)|(simp_all[Zg];done)|(simp_all[Zg];omega))
   ·exact(GoE.endsT okF hJ Qf GoE.start (Dp B a b ZF)
     ⟨(UK (Int.not_le.1 q2)),PV⟩).cast (by first|rfl|(simp[Zg, *];done)|(simp_all[Zg];done)|(simp_all[Zg];omega))
  ·exact(GoE.endsT okF hJ Qf GoE.start (Dn B a b ZF)
    ⟨(UK (Int.not_le.1 q1)),Vb⟩).cast (by first|rfl|(simp[Zg, *];done)|(simp_all[Zg];done)|(simp_all[Zg];omega))
 ·exact(GoE.endsT okF hJ Qf GoE.start (Dm B a b ZF)
   ⟨(UK (Int.not_le.1 q0)),trivial⟩).cast (by first|rfl|(simp[Zg, *];done)|(simp_all[Zg];done)|(simp_all[Zg];omega))
theorem py(a b ZF:Int)  :Q0 YP J0 56 #[.agg #[.int .i64 a,.int .i64 b],.int .i64 ZF] (.bool (Zg a b 0 ZF)):=
 XD (ts:=[.agg #[.int .i64 a,.int .i64 b],.int .i64 ZF]) Zs (c0:=Qq YP 56 21 (([.agg #[.int .i64 a,.int .i64 b],.int .i64 ZF]).map (Q5 0 4))) (by kernel_rfl) (by kernel_rfl) fun B hJ=>G3 a b ZF  hJ
def yP(B:Lo)(n lo hi:Int):List Prop:=[(!Zq n lo)=true]++([]:List Prop)
def EI(n lo hi:Int):QB:=[(3,WR)]
set_option maxRecDepth 100000 in
theorem IW(B:Lo)(n lo hi:Int):Xd (Qu YP (Q8 YP) J0 B 6 1 (Qq YP 72 15 (([.int .i64 n,.int .i64 lo,.int .i64 hi]).map (Q5 0 4))) Zn 1
 (EI n lo hi++[(7,WR)]) 0 [] []) []=some (.bool true,
 [(!Zq hi n)=true]++yP B n lo hi):=by kernel_rfl
set_option maxRecDepth 100000 in
theorem IV(B:Lo)(n lo hi:Int):Xd (Qu YP (Q8 YP) J0 B 6 1 (Qq YP 72 15 (([.int .i64 n,.int .i64 lo,.int .i64 hi]).map (Q5 0 4))) Zn 1
 (EI n lo hi++[(7,Vs)]) 0 [] []) []=some (.bool false,
 [(!Zq hi n)=false]++yP B n lo hi):=by kernel_rfl
set_option maxRecDepth 100000 in
theorem IU(B:Lo)(n lo hi:Int):Xd (Qu YP (Q8 YP) J0 B 6 1 (Qq YP 72 15 (([.int .i64 n,.int .i64 lo,.int .i64 hi]).map (Q5 0 4))) Zn 1
 [(3,Vs)] 0 [] []) []=some (.bool false,
 [(!Zq n lo)=false]):=by kernel_rfl
set_option maxHeartbeats 4000000 in
theorem LS(n lo hi:Int)  {B:Lo}(hJ:∀w,B.has w->J0 w):EndsT YP B (Qq YP 72 15 (([.int .i64 n,.int .i64 lo,.int .i64 hi]).map (Q5 0 4))) (.bool (WK n lo hi)):=by
 by_cases q0:(lo:Int)<=(n)
 ·have Vb:Q3 (yP B n lo hi):=by
   exact⟨(Vn q0),trivial⟩
  by_cases q1:(n:Int)<=(hi)
  ·exact(GoE.endsT okF hJ Qf GoE.start (IW B n lo hi)
    ⟨(Vn q1),Vb⟩).cast (by first|rfl|(simp[WK, *];done)|(simp_all[WK];done)|(simp_all[WK];omega))
  ·exact(GoE.endsT okF hJ Qf GoE.start (IV B n lo hi)
    ⟨(UK (Int.not_le.1 q1)),Vb⟩).cast (by first|rfl|(simp[WK, *];done)|(simp_all[WK];done)|(simp_all[WK];omega))
 ·exact(GoE.endsT okF hJ Qf GoE.start (IU B n lo hi)
   ⟨(UK (Int.not_le.1 q0)),trivial⟩).cast (by first|rfl|(simp[WK, *];done)|(simp_all[WK];done)|(simp_all[WK];omega))
theorem tz(n lo hi:Int)  :Q0 YP J0 72 #[.int .i64 n,.int .i64 lo,.int .i64 hi] (.bool (WK n lo hi)):=
 XD (ts:=[.int .i64 n,.int .i64 lo,.int .i64 hi]) Zs (c0:=Qq YP 72 15 (([.int .i64 n,.int .i64 lo,.int .i64 hi]).map (Q5 0 4))) (by kernel_rfl) (by kernel_rfl) fun B hJ=>LS n lo hi  hJ
def Jv(xs:List Int)(lo hi:Int)(i:Int):List Value:=[.int .i64 lo,.int .i64 hi,Qv 1 (QJ xs.length (Qg Q9 xs)),.int .i64 (↑xs.length:Int),.int .i64 i]
def VW(xs:List Int)(lo hi:Int)(i:Int):List Obj:=[]
def Jw:List Item:=([.code [1,0,1,0,0],.inLoop [1,0,1,0,0],.inBlock 0,.code [1,1]]).map (it (Xf YP 74))
def BX(B:Lo)(c0:CF)(xs:List Int)(lo hi:Int)(i:Int):Prop:=∃dJ:Nat->Value,(∀t,XP (dJ t))/\GoE YP B c0 Zn 1 (QO 74 21 (([1,2,9,10,11]:List Nat).zip (Jv xs lo hi i)) dJ Jw) (QN (VW xs lo hi i)) (2+(VW xs lo hi i).length) []
def qm(xs:List Int)(lo hi:Int)(i:Int):Array Value:=#[.int .i64 (xs.getD i.toNat ML),.int .i64 lo,.int .i64 hi]
def fG(B:Lo)(xs:List Int)(lo hi:Int)(i:Int)(Qt:Nat->Value):List Prop:=[Ug i xs.length (Qg Q9 xs) Try.t3.size #[.int .i64 (xs.getD i.toNat ML)],Zq i (↑xs.length:Int)=true]++([]:List Prop)
def qn(xs:List Int)(lo hi:Int)(i:Int)(Qt:Nat->Value):QB:=[(0,WR),(1,Ql.tidx i.toNat #[.int .i64 (xs.getD i.toNat ML)])]
set_option maxRecDepth 100000 in
theorem BV(B:Lo)(xs:List Int)(lo hi:Int)(i:Int)(Qt:Nat->Value):landM (Qu YP (Q8 YP) J0 B 16 1 (QO 74 21 (([1,2,9,10,11]:List Nat).zip (Jv xs lo hi i)) Qt Jw) (QN (VW xs lo hi i)) (2+(VW xs lo hi i).length)
 (qn xs lo hi i Qt++[(7,Ql.pure (.bool true) []),(9,U2 (i+1))]) 0 [] []) [1,2,9,10,11] [] []=some ⟨74,21,Jw,[],.run,none,Jv xs lo hi (i+1),VW xs lo hi (i+1),
 [wq (i+1)=i+1,Q3 []/\Q0 YP J0 72 (qm xs lo hi i) (.bool true)]++fG B xs lo hi i Qt⟩:=by kernel_rfl
set_option maxRecDepth 100000 in
theorem BU(B:Lo)(xs:List Int)(lo hi:Int)(i:Int)(Qt:Nat->Value):Xd (Qu YP (Q8 YP) J0 B 16 1 (QO 74 21 (([1,2,9,10,11]:List Nat).zip (Jv xs lo hi i)) Qt Jw) (QN (VW xs lo hi i)) (2+(VW xs lo hi i).length)
 (qn xs lo hi i Qt++[(7,Ql.pure (.bool false) [])]) 0 [] []) []=some (.bool false,
 [Q3 []/\Q0 YP J0 72 (qm xs lo hi i) (.bool false)]++fG B xs lo hi i Qt):=by kernel_rfl
set_option maxRecDepth 100000 in
theorem BT(B:Lo)(xs:List Int)(lo hi:Int)(i:Int)(Qt:Nat->Value):Xd (Qu YP (Q8 YP) J0 B 9 1 (QO 74 21 (([1,2,9,10,11]:List Nat).zip (Jv xs lo hi i)) Qt Jw) (QN (VW xs lo hi i)) (2+(VW xs lo hi i).length)
 [(0,Vs)] 0 [] []) []=some (.bool true,
 [Zq i (↑xs.length:Int)=false]):=by kernel_rfl
set_option maxRecDepth 100000 in
theorem BS(B:Lo)(xs:List Int)(lo hi:Int):landM (Qu YP (Q8 YP) J0 B 7 1 (Qq YP 74 21 (([XF xs,.int .i64 lo,.int .i64 hi]).map (Q5 0 4))) Zn 1
 [] 0 [] []) [1,2,9,10,11] [] []=some ⟨74,21,Jw,[],.run,none,Jv xs lo hi (0),VW xs lo hi (0),
 []⟩:=by kernel_rfl
set_option maxHeartbeats 4000000 in
theorem BW(xs:List Int)(lo hi:Int)  (XB:xs.length<=9223372036854775807){B:Lo}(hJ:∀w,B.has w->J0 w){c0:CF}:∀m:Nat,(∀(i:Int),xs.length-i.toNat=m->∀(h0:0<=i),BX B c0 xs lo hi i->EndsT YP B c0 (.bool ((xs.drop i.toNat).all (fun x=>WK x lo hi)))):=by
 intro m0;induction m0 using No with
 |_ m0 ih0=>
  intro i hm0 h0 ⟨Qt,Kn,Zk⟩;by_cases q0:(i:Int)<((↑xs.length:Int))
  ·have Vb:Q3 (fG B xs lo hi i Qt):=by
    exact⟨⟨by omega,by omega,(QA (z:=1) (fun _=>rfl) (by first|omega|(rw[Ny];omega)|(rw[Nv];omega)))⟩,⟨(Zh q0),trivial⟩⟩
   cases q1:WK (xs.getD i.toNat ML) lo hi with
   |true=>
    exact((ih0 _ (by omega)) (i+1) rfl (by first|with_reducible assumption|omega|(simp_all;done))
     (Zk.landM okF hJ Qf (BV B xs lo hi i Qt)
     ⟨(XH (by omega) (by omega)),⟨⟨trivial,(by have t_:=tz (xs.getD i.toNat ML) (lo) (hi);rw[q1]at t_;exact t_)⟩,Vb⟩⟩ (by kernel_rfl) (by kernel_rfl))).cast (by first|(rw[nT (i:=i)];(· simp_all);(· omega);(· omega))|(rw[nS (i:=i)];(· simp_all);(· omega)))
   |false=>
    exact(GoE.endsT okF hJ Qf Zk (BU B xs lo hi i Qt)
     ⟨⟨trivial,(by have t_:=tz (xs.getD i.toNat ML) (lo) (hi);rw[q1]at t_;exact t_)⟩,Vb⟩).cast (by first|(rw[nT (i:=i)];(· simp_all);(· omega);(· omega))|(rw[nS (i:=i)];(· simp_all);(· omega)))
  ·exact(GoE.endsT okF hJ Qf Zk (BT B xs lo hi i Qt)
    ⟨(Zr (Int.not_lt.1 q0)),trivial⟩).cast (by first|(rw[nT (i:=i)];(· simp_all);(· omega);(· omega))|(rw[nS (i:=i)];(· simp_all);(· omega)))
set_option maxHeartbeats 4000000 in
theorem EO(xs:List Int)(lo hi:Int)  (XB:xs.length<=9223372036854775807){B:Lo}(hJ:∀w,B.has w->J0 w):EndsT YP B (Qq YP 74 21 (([XF xs,.int .i64 lo,.int .i64 hi]).map (Q5 0 4))) (.bool (xs.all (fun x=>WK x lo hi))):=by
 exact((BW xs lo hi XB hJ _) (0) rfl (by first|with_reducible assumption|omega|(simp_all;done))
  (GoE.start.landM okF hJ Qf (BS B xs lo hi)
  trivial (by kernel_rfl) (by kernel_rfl))).cast (by first|rfl|(simp[*];done)|(simp_all[];done)|(simp_all[];omega))
theorem EP(xs:List Int)(lo hi:Int)  :Q0 YP J0 74 #[XF xs,.int .i64 lo,.int .i64 hi] (.bool (xs.all (fun x=>WK x lo hi))):=
 Vk (ts:=[XF xs,.int .i64 lo,.int .i64 hi]) (xs.length<=9223372036854775807) (fun _ _ ht=>ht.ln (i:=0) rfl) Zs (c0:=Qq YP 74 21 (([XF xs,.int .i64 lo,.int .i64 hi]).map (Q5 0 4))) (by kernel_rfl) (by kernel_rfl) fun XB B hJ=>EO xs lo hi  XB hJ
def lS(n a b:Int):Array Value:=#[.int .i64 n,.int .i64 a,.int .i64 b]
set_option maxRecDepth 100000 in
theorem yS(B:Lo)(n a b:Int):Xd (Qu YP (Q8 YP) J0 B 6 1 (Qq YP 101 11 (([.int .i64 n,.agg #[.int .i64 a,.int .i64 b]]).map (Q5 0 4))) Zn 1
 [(7,Ql.pure (.bool true) [])] 0 [] []) []=some (.bool true,
 [Q3 []/\Q0 YP J0 72 (lS n a b) (.bool true)]):=by kernel_rfl
set_option maxRecDepth 100000 in
theorem yR(B:Lo)(n a b:Int):Xd (Qu YP (Q8 YP) J0 B 6 1 (Qq YP 101 11 (([.int .i64 n,.agg #[.int .i64 a,.int .i64 b]]).map (Q5 0 4))) Zn 1
 [(7,Ql.pure (.bool false) [])] 0 [] []) []=some (.bool false,
 [Q3 []/\Q0 YP J0 72 (lS n a b) (.bool false)]):=by kernel_rfl
set_option maxHeartbeats 4000000 in
theorem BB(n a b:Int)  {B:Lo}(hJ:∀w,B.has w->J0 w):EndsT YP B (Qq YP 101 11 (([.int .i64 n,.agg #[.int .i64 a,.int .i64 b]]).map (Q5 0 4))) (.bool (WK n a b)):=by
 cases q0:WK n a b with
 |true=>
  exact(GoE.endsT okF hJ Qf GoE.start (yS B n a b)
   ⟨⟨trivial,(by have t_:=tz (n) (a) (b);rw[q0]at t_;exact t_)⟩,trivial⟩).cast (by first|rfl|(simp[*];done)|(simp_all[];done)|(simp_all[];omega))
 |false=>
  exact(GoE.endsT okF hJ Qf GoE.start (yR B n a b)
   ⟨⟨trivial,(by have t_:=tz (n) (a) (b);rw[q0]at t_;exact t_)⟩,trivial⟩).cast (by first|rfl|(simp[*];done)|(simp_all[];done)|(simp_all[];omega))
theorem Aj(n a b:Int)  :Q0 YP J0 101 #[.int .i64 n,.agg #[.int .i64 a,.int .i64 b]] (.bool (WK n a b)):=
 XD (ts:=[.int .i64 n,.agg #[.int .i64 a,.int .i64 b]]) Zs (c0:=Qq YP 101 11 (([.int .i64 n,.agg #[.int .i64 a,.int .i64 b]]).map (Q5 0 4))) (by kernel_rfl) (by kernel_rfl) fun B hJ=>BB n a b  hJ
def SJ(B:Lo)(a b lo hi:Int):List Prop:=[(!Zq a lo)=true]++([]:List Prop)
def dr(a b lo hi:Int):QB:=[(5,WR)]
def SI(B:Lo)(a b lo hi:Int):List Prop:=[(!Zq b a)=true]++SJ B a b lo hi
def dq(a b lo hi:Int):QB:=dr a b lo hi++[(11,WR)]
set_option maxRecDepth 100000 in
theorem rW(B:Lo)(a b lo hi:Int):Xd (Qu YP (Q8 YP) J0 B 6 1 (Qq YP 114 24 (([.agg #[.int .i64 a,.int .i64 b],.int .i64 lo,.int .i64 hi]).map (Q5 0 4))) Zn 1
 (dq a b lo hi++[(17,WR)]) 0 [] []) []=some (.bool true,
 [(!Zq hi b)=true]++SI B a b lo hi):=by kernel_rfl
set_option maxRecDepth 100000 in
theorem rV(B:Lo)(a b lo hi:Int):Xd (Qu YP (Q8 YP) J0 B 6 1 (Qq YP 114 24 (([.agg #[.int .i64 a,.int .i64 b],.int .i64 lo,.int .i64 hi]).map (Q5 0 4))) Zn 1
 (dq a b lo hi++[(17,Vs)]) 0 [] []) []=some (.bool false,
 [(!Zq hi b)=false]++SI B a b lo hi):=by kernel_rfl
set_option maxRecDepth 100000 in
theorem rU(B:Lo)(a b lo hi:Int):Xd (Qu YP (Q8 YP) J0 B 6 1 (Qq YP 114 24 (([.agg #[.int .i64 a,.int .i64 b],.int .i64 lo,.int .i64 hi]).map (Q5 0 4))) Zn 1
 (dr a b lo hi++[(11,Vs)]) 0 [] []) []=some (.bool false,
 [(!Zq b a)=false]++SJ B a b lo hi):=by kernel_rfl
set_option maxRecDepth 100000 in
theorem rT(B:Lo)(a b lo hi:Int):Xd (Qu YP (Q8 YP) J0 B 6 1 (Qq YP 114 24 (([.agg #[.int .i64 a,.int .i64 b],.int .i64 lo,.int .i64 hi]).map (Q5 0 4))) Zn 1
 [(5,Vs)] 0 [] []) []=some (.bool false,
 [(!Zq a lo)=false]):=by kernel_rfl
set_option maxHeartbeats 4000000 in
theorem vu(a b lo hi:Int)  {B:Lo}(hJ:∀w,B.has w->J0 w):EndsT YP B (Qq YP 114 24 (([.agg #[.int .i64 a,.int .i64 b],.int .i64 lo,.int .i64 hi]).map (Q5 0 4))) (.bool (Zg a b lo hi)):=by
 by_cases q0:(lo:Int)<=(a)
 ·have Vb:Q3 (SJ B a b lo hi):=by
   exact⟨(Vn q0),trivial⟩
  by_cases q1:(a:Int)<=(b)
  ·have PV:Q3 (SI B a b lo hi):=by
    exact⟨(Vn q1),Vb⟩
   by_cases q2:(b:Int)<=(hi)
   ·exact(GoE.endsT okF hJ Qf GoE.start (rW B a b lo hi)
     ⟨(Vn q2),PV⟩).cast (by first|rfl|(simp[Zg, *];done)|(simp_all[Zg];done)|(simp_all[Zg];omega))
   ·exact(GoE.endsT okF hJ Qf GoE.start (rV B a b lo hi)
     ⟨(UK (Int.not_le.1 q2)),PV⟩).cast (by first|rfl|(simp[Zg, *];done)|(simp_all[Zg];done)|(simp_all[Zg];omega))
  ·exact(GoE.endsT okF hJ Qf GoE.start (rU B a b lo hi)
    ⟨(UK (Int.not_le.1 q1)),Vb⟩).cast (by first|rfl|(simp[Zg, *];done)|(simp_all[Zg];done)|(simp_all[Zg];omega))
 ·exact(GoE.endsT okF hJ Qf GoE.start (rT B a b lo hi)
   ⟨(UK (Int.not_le.1 q0)),trivial⟩).cast (by first|rfl|(simp[Zg, *];done)|(simp_all[Zg];done)|(simp_all[Zg];omega))
theorem qi(a b lo hi:Int)  :Q0 YP J0 114 #[.agg #[.int .i64 a,.int .i64 b],.int .i64 lo,.int .i64 hi] (.bool (Zg a b lo hi)):=
 XD (ts:=[.agg #[.int .i64 a,.int .i64 b],.int .i64 lo,.int .i64 hi]) Zs (c0:=Qq YP 114 24 (([.agg #[.int .i64 a,.int .i64 b],.int .i64 lo,.int .i64 hi]).map (Q5 0 4))) (by kernel_rfl) (by kernel_rfl) fun B hJ=>vu a b lo hi  hJ
def lR(a b ZF:Int):Array Value:=#[.agg #[.int .i64 a,.int .i64 b],.int .i64 0,.int .i64 ZF]
set_option maxRecDepth 100000 in
theorem yO(B:Lo)(a b ZF:Int):Xd (Qu YP (Q8 YP) J0 B 6 1 (Qq YP 96 8 (([.agg #[.int .i64 a,.int .i64 b],.int .i64 ZF]).map (Q5 0 4))) Zn 1
 [(4,Ql.pure (.bool true) [])] 0 [] []) []=some (.bool true,
 [Q3 []/\Q0 YP J0 114 (lR a b ZF) (.bool true)]):=by kernel_rfl
set_option maxRecDepth 100000 in
theorem yN(B:Lo)(a b ZF:Int):Xd (Qu YP (Q8 YP) J0 B 6 1 (Qq YP 96 8 (([.agg #[.int .i64 a,.int .i64 b],.int .i64 ZF]).map (Q5 0 4))) Zn 1
 [(4,Ql.pure (.bool false) [])] 0 [] []) []=some (.bool false,
 [Q3 []/\Q0 YP J0 114 (lR a b ZF) (.bool false)]):=by kernel_rfl
set_option maxHeartbeats 4000000 in
theorem BA(a b ZF:Int)  {B:Lo}(hJ:∀w,B.has w->J0 w):EndsT YP B (Qq YP 96 8 (([.agg #[.int .i64 a,.int .i64 b],.int .i64 ZF]).map (Q5 0 4))) (.bool (Zg a b 0 ZF)):=by
 cases q0:Zg a b 0 ZF with
 |true=>
  exact(GoE.endsT okF hJ Qf GoE.start (yO B a b ZF)
   ⟨⟨trivial,(by have t_:=qi (a) (b) (0) (ZF);rw[q0]at t_;exact t_)⟩,trivial⟩).cast (by first|rfl|(simp[Zg, *];done)|(simp_all[Zg];done)|(simp_all[Zg];omega))
 |false=>
  exact(GoE.endsT okF hJ Qf GoE.start (yN B a b ZF)
   ⟨⟨trivial,(by have t_:=qi (a) (b) (0) (ZF);rw[q0]at t_;exact t_)⟩,trivial⟩).cast (by first|rfl|(simp[Zg, *];done)|(simp_all[Zg];done)|(simp_all[Zg];omega))
theorem aM(a b ZF:Int)  :Q0 YP J0 96 #[.agg #[.int .i64 a,.int .i64 b],.int .i64 ZF] (.bool (Zg a b 0 ZF)):=
 XD (ts:=[.agg #[.int .i64 a,.int .i64 b],.int .i64 ZF]) Zs (c0:=Qq YP 96 8 (([.agg #[.int .i64 a,.int .i64 b],.int .i64 ZF]).map (Q5 0 4))) (by kernel_rfl) (by kernel_rfl) fun B hJ=>BA a b ZF  hJ
set_option maxRecDepth 100000 in
theorem EJ(B:Lo)(a b:Int):Xd (Qu YP (Q8 YP) J0 B 6 1 (Qq YP 77 5 (([.agg #[.int .i64 a,.int .i64 b]]).map (Q5 0 4))) Zn 1
 [] 0 [] []) []=some (.int .i64 b,
 []):=by kernel_rfl
set_option maxHeartbeats 4000000 in
theorem Hd(a b:Int)  {B:Lo}(hJ:∀w,B.has w->J0 w):EndsT YP B (Qq YP 77 5 (([.agg #[.int .i64 a,.int .i64 b]]).map (Q5 0 4))) (.int .i64 b):=by
 exact(GoE.endsT okF hJ Qf GoE.start (EJ B a b)
  trivial).cast (by first|rfl|(simp[*];done)|(simp_all[];done)|(simp_all[];omega))
theorem LU(a b:Int)  :Q0 YP J0 77 #[.agg #[.int .i64 a,.int .i64 b]] (.int .i64 b):=
 XD (ts:=[.agg #[.int .i64 a,.int .i64 b]]) Zs (c0:=Qq YP 77 5 (([.agg #[.int .i64 a,.int .i64 b]]).map (Q5 0 4))) (by kernel_rfl) (by kernel_rfl) fun B hJ=>Hd a b  hJ
set_option maxRecDepth 100000 in
theorem Hc(B:Lo)(a b:Int):Xd (Qu YP (Q8 YP) J0 B 6 1 (Qq YP 76 5 (([.agg #[.int .i64 a,.int .i64 b]]).map (Q5 0 4))) Zn 1
 [] 0 [] []) []=some (.int .i64 a,
 []):=by kernel_rfl
set_option maxHeartbeats 4000000 in
theorem IT(a b:Int)  {B:Lo}(hJ:∀w,B.has w->J0 w):EndsT YP B (Qq YP 76 5 (([.agg #[.int .i64 a,.int .i64 b]]).map (Q5 0 4))) (.int .i64 a):=by
 exact(GoE.endsT okF hJ Qf GoE.start (Hc B a b)
  trivial).cast (by first|rfl|(simp[*];done)|(simp_all[];done)|(simp_all[];omega))
theorem M1(a b:Int)  :Q0 YP J0 76 #[.agg #[.int .i64 a,.int .i64 b]] (.int .i64 a):=
 XD (ts:=[.agg #[.int .i64 a,.int .i64 b]]) Zs (c0:=Qq YP 76 5 (([.agg #[.int .i64 a,.int .i64 b]]).map (Q5 0 4))) (by kernel_rfl) (by kernel_rfl) fun B hJ=>IT a b  hJ
set_option maxRecDepth 100000 in
theorem EG(B:Lo)(a r:Int):Xd (Qu YP (Q8 YP) J0 B 6 1 (Qq YP 115 9 (([.int .i64 a,.int .i64 r]).map (Q5 0 4))) Zn 1
 [(3,U2 (a*r)),(4,U2 (MN (a*r) 1000))] 0 [] []) []=some (.int .i64 (MN (a*r) 1000),
 [IntKind.wrap .i64 (MN (a*r) 1000)=MN (a*r) 1000,wq (a*r)=a*r]):=by kernel_rfl
set_option maxHeartbeats 4000000 in
theorem Ha(a r:Int)(ha:0<=a/\a<=1000000000000)(hr:0<=r/\r<=1000000){B:Lo}(hJ:∀w,B.has w->J0 w):EndsT YP B (Qq YP 115 9 (([.int .i64 a,.int .i64 r]).map (Q5 0 4))) (.int .i64 ((a*r).tdiv 1000)):=by
 have e0:0<=a*r:=Int.mul_nonneg ha.1 hr.1;have e1:a*r<=1000000000000*1000000:=Int.mul_le_mul ha.2 hr.2 hr.1 (by omega);have e2:(a*r).tdiv 1000=(a*r) / 1000:=ND e0;exact(GoE.endsT okF hJ Qf GoE.start (EG B a r)
  ⟨(ca (by omega) (by omega)),⟨(XH (by omega) (by omega)),trivial⟩⟩).cast (by first|rfl|(simp[*];done)|(simp_all[];done)|(simp_all[];omega))
theorem EH(a r:Int)(ha:0<=a/\a<=1000000000000)(hr:0<=r/\r<=1000000):Q0 YP J0 115 #[.int .i64 a,.int .i64 r] (.int .i64 ((a*r).tdiv 1000)):=
 XD (ts:=[.int .i64 a,.int .i64 r]) Zs (c0:=Qq YP 115 9 (([.int .i64 a,.int .i64 r]).map (Q5 0 4))) (by kernel_rfl) (by kernel_rfl) fun B hJ=>Ha a r ha hr hJ
set_option maxRecDepth 100000 in
theorem oO(B:Lo)(a r:Int):Xd (Qu YP (Q8 YP) J0 B 6 1 (Qq YP 100 10 (([.int .i64 a,.int .i64 r]).map (Q5 0 4))) Zn 1
 [(4,Ql.pure (.int .i64 (MN (a*r) 1000)) []),(5,U2 (a+MN (a*r) 1000))] 0 [] []) []=some (.int .i64 (a+MN (a*r) 1000),
 [wq (a+MN (a*r) 1000)=a+MN (a*r) 1000,Q3 []/\Q0 YP J0 115 #[.int .i64 a,.int .i64 r] (.int .i64 (MN (a*r) 1000))]):=by kernel_rfl
set_option maxHeartbeats 4000000 in
theorem rH(a r:Int)(ha:0<=a/\a<=1000000000000)(hr:0<=r/\r<=1000000){B:Lo}(hJ:∀w,B.has w->J0 w):EndsT YP B (Qq YP 100 10 (([.int .i64 a,.int .i64 r]).map (Q5 0 4))) (.int .i64 (a+(a*r).tdiv 1000)):=by
 have e0:0<=a*r:=Int.mul_nonneg ha.1 hr.1;have e1:a*r<=1000000000000*1000000:=Int.mul_le_mul ha.2 hr.2 hr.1 (by omega);have e2:(a*r).tdiv 1000=(a*r) / 1000:=ND e0;exact(GoE.endsT okF hJ Qf GoE.start (oO B a r)
  ⟨(XH (by omega) (by omega)),⟨⟨trivial,EH (a) (r) (by first|with_reducible assumption|omega|simp_all) (by first|with_reducible assumption|omega|simp_all)⟩,trivial⟩⟩).cast (by first|rfl|(simp[*];done)|(simp_all[];done)|(simp_all[];omega))
theorem y0(a r:Int)(ha:0<=a/\a<=1000000000000)(hr:0<=r/\r<=1000000):Q0 YP J0 100 #[.int .i64 a,.int .i64 r] (.int .i64 (a+(a*r).tdiv 1000)):=
 XD (ts:=[.int .i64 a,.int .i64 r]) Zs (c0:=Qq YP 100 10 (([.int .i64 a,.int .i64 r]).map (Q5 0 4))) (by kernel_rfl) (by kernel_rfl) fun B hJ=>rH a r ha hr hJ
def gY(n:Int):Array Value:=#[.int .i64 n,.int .i64 0,.int .i64 1000000]
set_option maxRecDepth 100000 in
theorem vp(B:Lo)(n:Int):Xd (Qu YP (Q8 YP) J0 B 6 1 (Qq YP 95 5 (([.int .i64 n]).map (Q5 0 4))) Zn 1
 [(2,Ql.pure (.bool true) [])] 0 [] []) []=some (.bool true,
 [Q3 []/\Q0 YP J0 72 (gY n) (.bool true)]):=by kernel_rfl
set_option maxRecDepth 100000 in
theorem vo(B:Lo)(n:Int):Xd (Qu YP (Q8 YP) J0 B 6 1 (Qq YP 95 5 (([.int .i64 n]).map (Q5 0 4))) Zn 1
 [(2,Ql.pure (.bool false) [])] 0 [] []) []=some (.bool false,
 [Q3 []/\Q0 YP J0 72 (gY n) (.bool false)]):=by kernel_rfl
set_option maxHeartbeats 4000000 in
theorem yM(n:Int)  {B:Lo}(hJ:∀w,B.has w->J0 w):EndsT YP B (Qq YP 95 5 (([.int .i64 n]).map (Q5 0 4))) (.bool (WK n 0 1000000)):=by
 cases q0:WK n 0 1000000 with
 |true=>
  exact(GoE.endsT okF hJ Qf GoE.start (vp B n)
   ⟨⟨trivial,(by have t_:=tz (n) (0) (1000000);rw[q0]at t_;exact t_)⟩,trivial⟩).cast (by first|rfl|(simp[*];done)|(simp_all[];done)|(simp_all[];omega))
 |false=>
  exact(GoE.endsT okF hJ Qf GoE.start (vo B n)
   ⟨⟨trivial,(by have t_:=tz (n) (0) (1000000);rw[q0]at t_;exact t_)⟩,trivial⟩).cast (by first|rfl|(simp[*];done)|(simp_all[];done)|(simp_all[];omega))
theorem R9(n:Int)  :Q0 YP J0 95 #[.int .i64 n] (.bool (WK n 0 1000000)):=
 XD (ts:=[.int .i64 n]) Zs (c0:=Qq YP 95 5 (([.int .i64 n]).map (Q5 0 4))) (by kernel_rfl) (by kernel_rfl) fun B hJ=>yM n  hJ
end
end Go.Proofs.Ytncjjangllkokaa

