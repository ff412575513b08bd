/- TX 2: frames Pd defer a function Pd recovers. -/
import Derived.Test.YtncjjangllkokaaZRB10
import Derived.Test.YtncjjangllkokaaZRB07
import Derived.Test.YtncjjangllkokaaProg
set_option linter.all false
open List renaming range->Le,getD_eq_getElem?_getD->Li,getElem?_map->Lx,length->Ld,getElem?_append_right->Lp,range'->Ly,mem_append_left->Lg,mem_append->LZ,getElem?_eq_getElem->L7,mem_cons_of_mem->Lj,flatMap_cons->LY,replicate->Lu,mem_of_getElem? ->Lk,getElem?_take_of_lt->L6,getElem?_eq_none->LA,getElem?_append_left->Lz
open Array renaming getElem?_eq_none->L5,getElem?_toList->Lm,mem_of_getElem? ->LJ,getElem?_extract->LX
open Nat renaming ble->LI,le_refl->Lw,zero_add->Lv,lt_or_ge->LF,blt->Ll,ble_eq_true_of_le->LC,beq->Lf,min->LW,strongRecOn->LB
open Option renaming map_some->LG
open Int renaming toNat_natCast->LR,le_refl->LH,tdiv->Lc,tdiv_eq_ediv_of_nonneg->L4
open List.Mem renaming head->LP
open Inhabited renaming default->La
namespace Go.CE
open Go Go.RowKit

def y8:OO->CM
 | .ret _=>.ret
 | .ZB v=>.ZB v
def QbC:OO->Value
 | .ret _=>.nilIface
 | .ZB v=>v
def QbL:CM->Option OO
 | .run=>none
 | .ret=>some (.ret (.tuple #[]))
 | .ZB v=>some (.ZB v)
theorem NI{m:CM}{o:OO}(h:QbL m=some o):m=y8 o:=by
 cases m with
 |run=>cases h
 |ret=>cases h;rfl
 |ZB v=>cases h;rfl
def Ic(T:Tm):Tm:=ofList T.len ((Le T.len).map (Xx T))
theorem Ib{μ:Mu}{T:Tm}{A:Array Value}(hl:T.len<=16000)(h:TR μ T A):TR μ (Ic T) A:=by
 refine⟨h.1,fun t=> ?_⟩;simp only[Ic,Xx,ofList];rw[cb _ _ _ _ (by simp;omega)];split
 ·rename_i ht;have ht:t<T.len:=by simpa using ht
  have:=h.2 t;simp only[Xx]at this;rw[Nat.sub_zero,Li,Lx,List.getElem?_range ht];exact this
 ·rename_i ht;have ht:T.len<=t:=by simpa using ht
  rw[Tri.get_lf];have hA:A.getD t undef=undef:=by
   rw[Array.getD_eq_getD_getElem?,L5 (by rw[<-h.1];exact ht)];rfl
  rw[hA];exact VR.undef
structure SpD where
 c:CF
 H:Qm
 n:Nat
 g:FuncId
 args:Array Value
 R:List Nat
 W:List Nat
noncomputable def EG(P:Program)(F:FuncId->Bool)(c1:CF)(H:Qm)(n:Nat):Option SpD:=
 match c1.mode,c1.todo,c1.defers,c1.roundOf with
 | .run,.code (.region _ ops false)::todo,[],none=>match uz P F Xn 0 ops c1 H n with
   |some s=>match s.o.op,s.post with
    | .defer c,[]=>match c.callee with
      | .value x=>match XV s.T x with
        |some (.func (.func g) xs ys)=>bif c.args.isEmpty && F g && LI s.T.len 16000 then some ⟨⟨c1.fn,Ic (V0 s.T s.o.dst undef),todo,[],.run,none⟩,s.H,s.n,g,xs++ys,Yn s.Qs,Uh s.Qs⟩else none
        |_=>none
      |_=>none
    |_,_=>none
   |none=>none
 |_,_,_,_=>none
def UJ(P:Program)(B:Lo)(c:CF)(H:Qm)(n:Nat)(out:OO)(live:List (Nat×Value))(H':Qm)(n':Nat)(R W:List Nat):Prop:=
 ∃(d:Nat->Value) (td:List Item),GoJ P B c H n ⟨c.fn,Ms c.tmps.len live d,td,[],y8 out,c.roundOf⟩ H' n' R W
noncomputable def uy(P:Program)(F:FuncId->Bool)(J:World->Prop)(B:Lo)(k b:Nat)(c:CF)(H:Qm)(n:Nat)(out:OO)(live:List (Nat×Value))(UN:Qm)(n':Nat)(Wk:List Nat)(res:Value)(resR:List Nat):Option ST:=
 match Qn P F J B k b c H n [] 0 [] []with
 |some ⟨.at c1 H1 n1,W1,L1⟩=>match EG P F c1 H1 n1 with
  |some s=>match gH P F Xn 0 b s.g s.args (QbC out) (UN++s.H) n' [] (ZP b Wk (ZP b s.W W1))with
   |some m3=>some ⟨.fin (.ret res) m3.H m3.n,m3.W,UJ P B s.c s.H s.n out live (UN++s.H) n' (Le s.n) Wk::(∀d,kW P s.c.fn m3.H (Ms s.c.tmps.len live d)=some (res,resR))::L1⟩
   |none=>none
  |none=>none
 |_=>none
def Qaf(P:Program)(B:Lo)(b:Nat)(c:CF)(H:Qm)(n:Nat)(s:Option ST):Prop:=
 ∀out H' n' W' L',s=some ⟨.fin out H' n',W',L'⟩->Qz L'->∃R W2,FJ P B c H n out H' n' R W2/\∀i,i<b->(i∈W'<->i∈W2)
section
variable {P:Program} {F:FuncId->Bool} {J:World->Prop} {B:Lo} {c0 c:CF} {Hb H:Qm} {a n:Nat} {W Wf:List Nat}
theorem u0(hF:∀g,F g=true->Q0 P g=true)(XP:P.follows .mixedOrders=true){c1:CF}{H1:Qm}{n1:Nat}{s:SpD}(hu:Under H1 n1)(h:EG P F c1 H1 n1=some s):
 Shape H1 n1 s.H s.n s.R s.W/\Under s.H s.n/\F s.g=true/\s.c.fn=c1.fn/\s.c.roundOf=none/\s.c.defers=[]/\s.c.mode=.run/\
 ∀(S:Nat->Prop) (n N:Nat) (W:List Nat) (μ0 μ:Mu) (H0:Qm) (w0 w:World),Sofar B S n N W μ0 μ H0 H1 n1 w0 w->(∀i,S i->i<n)->s.n<=N->(∀i∈s.R,i<n->S i)->∀(UK:Frame) (cs:List Frame),FrR Bot.no μ c1 UK->
  ∃(xs' ys':Array Value) (fr2:Frame) (w':World) (μ':Mu),Sofar B S n N (W++s.W) μ0 μ' H0 s.H s.n w0 w'/\Ext μ μ'/\FrR ⟨[{target:=.fn (.func s.g) ys',args:=xs'}],.normal⟩ μ' s.c fr2/\fr2.fn=UK.fn/\VRs μ' s.args (xs'++ys')/\Steps P (lone UK cs w) (lone fr2 cs w'):=by
 unfold EG at h;split at h
 ·rename_i id ops todo hmode1 htodo1 hds1 Yp;split at h
  ·rename_i q hs;obtain⟨pre,e1,e2,e3,e4,e5,e6,e7,e8⟩:=aa (B:=B) hF XP (QF P B) hu hs;split at h
   ·rename_i c XY XE;split at h
    ·rename_i x hcal;split at h
     ·rename_i g xs ys hx;cases hca:(c.args.isEmpty && F g && LI q.T.len 16000)with
      |false=>rw[hca]at h;cases h
      |true=>
       rw[hca]at h;simp only[cond_true,YO]at h;subst h;simp only[YB]at hca;have hlenT:=YL hca.2;have sh2:=ZG q.Qs _ _ _ _ _ _ e4 e2;refine⟨sh2,e6,hca.1.2,rfl,rfl,rfl,rfl,fun S n N W μ0 μ H0 w0 w s1 hS hN hR UK cs Kd=> ?_⟩;simp only at hN hR ⊢;have hro1:UK.roundOf=none:=by
        have:=Kd.round;rw[Yp]at this;generalize UK.roundOf=z at this ⊢;cases z with
        |none=>rfl
        |some z=>cases this
       obtain⟨ha,hb,hd⟩:=Kd.running hmode1;rw[htodo1]at hd;obtain⟨L',hL,hL'⟩:=hd.code;have hd1:UK.defers=[]:=by
        have:=Kd.defers;rw[hds1]at this;exact this.empty
       rw[XE]at e1;have hlen:ops.size=pre.length+(0+1):=by
        have:=congrArg Ld e1;simp at this;omega
       have hat:ops[pre.length]? =some q.o:=by
        rw[<-Lm,e1,Lp (Lw _)];simp
       have hplen:q.Qs.length=pre.length:=by have:=congrArg Ld e5;simpa using this
       have hown1:∀(j:Nat) r,q.Qs[j]? =some r->ops[0+j]? =some r.o:=by
        intro j r hj;rw[Lv];exact U4 (l:=ops.toList) (l2:=[q.o]) (by rw[e5];exact e1.symm) rfl j r hj
       obtain⟨A1,w2,μ2,s2,hT2,x2,st2⟩:=s1.seq hS e4 e2 e3 0 hown1 rfl hN hR ha hb (pre.length::Ly (pre.length+1) 0) L' cs;have J4:step P (lone UK cs w)=.next (lone (Xe UK UK.tmps ops (Ly 0 ops.size) L') cs w):=ZS ha hL;rw[range_split hlen]at J4;rw[hplen]at st2;have UO:Region.wanted q.o (yielded ops A1)=true:=by rw[Kr hT2];exact e8
       have hvx:=oI (fr:=Xe UK A1 ops (pre.length::Ly (pre.length+1) 0) L') hT2 x _ hx;have hca':c.args=#[]:=by simpa[Array.isEmpty]using hca.1.1
       generalize hgx:(Xe UK A1 ops (pre.length::Ly (pre.length+1) 0) L').eval x=ux at hvx;cases hvx with
       |func q1 q2 q3 q4=>
        rename_i xs' ys';have hdv:(Deferred.ofValue ((Xe UK A1 ops (pre.length::Ly (pre.length+1) 0) L').eval x) (c.args.map (Xe UK A1 ops (pre.length::Ly (pre.length+1) 0) L').eval)).run P w2=.ok {target:=.fn (.func g) ys',args:=xs'} w2:=by
         rw[hgx,hca'];simp[Deferred.ofValue]
        have st3:=step_defer (cs:=cs) (w:=w2) ha hro1 hat UO XY hcal hdv;rw[Jr hat]at st3;have hdst:=Y5 e7;have hT3:TR μ2 (V0 q.T q.o.dst undef) (putA A1 undef q.o.dst):=hT2.putA hdst VR.undef;have st4:step P (lone {Xe UK (putA A1 undef q.o.dst) ops (Ly (pre.length+1) 0) L' with defers:={target:=.fn (.func g) ys',args:=xs'}::UK.defers} cs w2)=
         .next (lone {UK with tmps:=putA A1 undef q.o.dst,todo:=L',defers:={target:=.fn (.func g) ys',args:=xs'}::UK.defers} cs w2):=
         Vj (fr:={UK with defers:={target:=.fn (.func g) ys',args:=xs'}::UK.defers}) (A:=putA A1 undef q.o.dst) (ops:=ops) (k:=L') ha
        have k1:VRs μ2 xs xs':=⟨q1,q3⟩
        have k2:VRs μ2 ys ys':=⟨q2,q4⟩
        refine⟨xs',ys',{UK with tmps:=putA A1 undef q.o.dst,todo:=L',defers:={target:=.fn (.func g) ys',args:=xs'}::UK.defers},w2,μ2,s2,x2,⟨Kd.fn,Ib (by rw[Uk];exact hlenT) hT3,fun _=>hL'.mono x2,.of_empty (by simp[hd1]), ?_,Kd.kind,by rw[<-Yp];exact Kd.round.mono x2⟩,rfl,k1.append k2,.head J4 (st2.trans (.head st3 (.one st4)))⟩;have:=Kd.mode;rw[hmode1]at this;show MR μ2 .run UK.mode;generalize UK.mode=z at this ⊢;cases this;exact .run
     ·cases h
    ·cases h
   ·cases h
  ·cases h
 ·cases h
theorem uw(hF:∀g,F g=true->Q0 P g=true)(hJ:∀w,B.has w->J w)(XP:P.follows .mixedOrders=true){k b:Nat}{out:OO}{live:List (Nat×Value)}{UN:Qm}{n':Nat}{Wk:List Nat}{res:Value}{resR:List Nat}(hu:Under H n):
 Qaf P B b c H n (uy P F J B k b c H n out live UN n' Wk res resR):=by
 intro o H' nz W' L' h ha;unfold uy at h;split at h
 ·rename_i c1 H1 n1 W1 L1 hs1;split at h
  ·rename_i s hs2;split at h
   ·rename_i m3 hm3;simp only[YO,ST.mk.injEq,SR.fin.injEq]at h;obtain⟨⟨rfl,rfl,rfl⟩,rfl,rfl⟩:=h;obtain⟨⟨d,td,hU⟩,hres,hL1⟩:=ha;have hres:=hres d;obtain⟨R1,W1',g1,a1⟩:=Wa hF hJ XP k b c H n [] 0 [] [] _ hu hs1 hL1;have g1:GoJ P B c H n c1 H1 n1 R1 W1':=g1;simp only at a1;have Tz:Under H1 n1:=hu.shape g1.shape;obtain⟨sh2,hu2,hFg,hfn2,hro2,hds2,hmode2,hsp⟩:=u0 (B:=B) hF XP Tz hs2;have hu3:Under (UN++s.H) n':=hu2.shape hU.shape;obtain⟨Rr,Wr,sh3,ar,br,hsem⟩:=dE (B:=B) hF XP (QF P B) hu3 hm3;have hu4:Under m3.H m3.n:=hu3.shape sh3;have YK:=((g1.shape.trans sh2).trans hU.shape).trans sh3;have l1:=g1.shape.le;have l2:=sh2.le;have l3:=hU.shape.le;have l4:=sh3.le;refine⟨(((R1++s.R)++Le s.n)++Rr)++resR,((W1'++s.W)++Wk)++Wr,⟨⟨YK.le,YK.keep,YK.top,fun i hi=>Lg _ (YK.sub i hi),YK.wlt⟩,fun S μ w fr cs Q7 hB hS hf hfr0 hR=> ?_⟩,fun i hi=> ?_⟩
    ·simp only[LZ]at hR;have sf0:Sofar B S n m3.n [] μ μ H H n w w:=⟨Post.refl Q7,hB,hf⟩
     obtain⟨UK,w1,μ1,s1,Kd,hr1,hfn1,st1,x1⟩:=sf0.goj hS g1 (by omega) (fun i hi=>hR i (.inl (.inl (.inl (.inl hi))))) hfr0 cs;obtain⟨xs',ys',fr2,w2,μ2,s2,x2,hfr2,hfnq,hvargs,st2⟩:=hsp S n m3.n _ μ μ1 H w w1 s1 hS (by omega) (fun i hi=>hR i (.inl (.inl (.inl (.inr hi))))) UK cs Kd;obtain⟨fr3,w3,μ3,s3,hfr3,hr3,hfn3,st3,x3⟩:=s2.goj hS hU (by omega) (fun i hi=>hR i (.inl (.inl (.inr hi)))) hfr2 cs;have hd3:fr3.defers=[{target:=.fn (.func s.g) ys',args:=xs'}]:=by
      have:=hfr3.defers;exact this.empty
     have hun:tU μ3 (QbC out) {fr3 with defers:=[]}/\fr3.mode≠.run:=by
      have hm:=hfr3.mode;simp only at hm;generalize fr3.mode=q at hm ⊢;cases out with
      |ret v=>
       simp only[y8]at hm;cases hm;exact⟨.inl ⟨rfl,rfl⟩,fun e=>by cases e⟩
      |ZB v=>
       simp only[y8]at hm;cases hm with
       |ZB Vp=>exact⟨.inr ⟨_,Vp,rfl⟩,fun e=>by cases e⟩
     have st6:step P (lone fr3 cs w3)=.next (lone (Frame.enter P s.g (xs'++ys') .deferred) ({fr3 with defers:=[]}::cs) w3):=
      Pf hun.2 hd3 rfl (TB (hF s.g hFg) _ w3)
     obtain⟨w4,μ4,s4,x4,st7⟩:=hsem S n m3.n _ μ μ3 H w w3 s3 hS (Lw _) (fun i hi=>hR i (.inl (.inr hi))) _ {fr3 with defers:=[]} cs (hvargs.mono x3) hun.1
     obtain⟨fn,v',hfn,hresr,Vp⟩:=kU hu4 s4.post.ok (hfr3.tmps.mono x4) hres (fun i hi Xi=>by
      rcases LF i n with h1|h1
      ·exact .inl (hR i (.inr hi) h1)
      ·exact .inr ⟨h1,Xi⟩)
     have hfnE:fr3.fn=fr.fn:=by rw[hfn3,hfnq,hfn1]
     have hro3:fr3.roundOf=none:=by
      have:=hfr3.round;simp only[hro2]at this;generalize fr3.roundOf=z at this ⊢;cases z with
      |none=>rfl
      |some z=>cases this
     have PF:({fr3 with defers:=[],mode:=.returning}:Frame).leaving P w4 (.returned v'):=⟨rfl,rfl,hfr3.kind,fn,by rw[<-hfn,hfr3.fn],hresr⟩
     have XZ:Steps P (lone fr cs w) (lone {fr3 with defers:=[],mode:=.returning} cs w4):=
      st1.trans (st2.trans (st3.trans (.head st6 st7)))
     refine⟨.ret v',w4,μ4,s4.post.lists (fun i hi=>by simp[List.append_assoc]),.ret Vp,fun _=>⟨_,XZ,hfnE,PF⟩,fun c1 cs' e=> ?_⟩;subst e;exact XZ.trans (.one (step_leave_returned PF))
    ·rw[br i hi,Zl hi,Zl hi,a1 i hi];simp only[LZ,List.not_mem_nil,false_or]
   ·cases h
  ·cases h
 ·cases h
def landU(a:Nat)(s:Option ST)(K4:List Nat)(wks keeps:List (Nat×KS))(fz:List Fz):Option (FuncId×Nat×Option Nat×OO×List Value×Qm×List Obj×List Prop):=match s with
 |some ⟨.at c H _,W,L⟩=>bif RH a H W wks keeps fz && c.todo.all WJ then
  match QbL c.mode,c.defers with
  |some o,[]=>match ri (tC H a (cJ a (keeps.map (·.1))) fz 4) o,rj (tC H a (cJ a (keeps.map (·.1))) fz 4) (K4.map (Xx c.tmps)),y6 H a (cJ a (keeps.map (·.1))) fz wks,TA H a (cJ a (keeps.map (·.1))) fz keeps with
   |some (o1,L0),some (vs,L1),some (ws,L3),some (os,L2)=>some (c.fn,c.tmps.len,c.roundOf,o1,vs,ws,os,L0++(L1++(L3++(L2++L))))
   |_,_,_,_=>none
  |_,_=>none
   else none
 |_=>none
def FinU(P:Program)(B:Lo)(c0:CF)(Hb:Qm)(a:Nat)(out:OO)(live:List (Nat×Value))(ws:Qm)(os:List Obj)(Wf:List Nat):Prop:=
 ∃(d:Nat->Value) (td:List Item),GoE P B c0 Hb a ⟨c0.fn,Ms c0.tmps.len live d,td,[],y8 out,c0.roundOf⟩ (X9 Hb a ws os) (a+1+os.length) Wf
theorem FinU.cast{out out1:OO}{live:List (Nat×Value)}{ws ws1:Qm}{os os1:List Obj}(h:FinU P B c0 Hb a out live ws os Wf)(e1:out=out1)(e2:ws=ws1)(e3:os=os1):FinU P B c0 Hb a out1 live ws1 os1 Wf:=e1 ▸ e2 ▸ e3 ▸ h
theorem GoE.landU(hF:∀g,F g=true->Q0 P g=true)(hJ:∀w,B.has w->J w)(XP:P.follows .mixedOrders=true){wks:List (Nat×KS)}(hu:Under Hb a)(hw:Writable Hb a (wks.map (·.1)))(h:GoE P B c0 Hb a c H n (wks.map (·.1))){fuel:Nat}{sc:QA}{K4:List Nat}{keeps:List (Nat×KS)}{fz:List Fz}{out:OO}{vs:List Value}{ws:Qm}{os:List Obj}{L:List Prop}
 (e:CE.landU a (Qn P F J B fuel a c H n sc 0 [] []) K4 wks keeps fz=some (c0.fn,c0.tmps.len,c0.roundOf,out,vs,ws,os,L)) (hL:Qz L) (hlen:LI c0.tmps.len 16000=true) (Yp:c0.roundOf=none):
 FinU P B c0 Hb a out (K4.zip vs) ws os (wks.map (·.1)):=by
 unfold CE.landU at e;split at e
 ·rename_i c' H' n' W' L' hs;cases hqq:(RH a H' W' wks keeps fz && c'.todo.all WJ)with
  |false=>rw[hqq]at e;cases e
  |true=>
   rw[hqq]at e;simp only[cond_true]at e;rw[YB]at hqq;obtain⟨hq,T4⟩:=hqq;split at e
   ·rename_i o0 hoo hdf;split at e
    ·rename_i o1 L0 vs0 L1 ws0 L3 os0 L2 ho1 hvs hws hos;simp only[YO,YR]at e;obtain⟨e1,e2,e6,rfl,rfl,rfl,rfl,rfl⟩:=e;obtain⟨hL0,hLr⟩:=Xb hL;obtain⟨hL1,hLr⟩:=Xb hLr;obtain⟨hL3,hLr⟩:=Xb hLr;obtain⟨hL2,hL4⟩:=Xb hLr;obtain⟨R,W2,PH,hiff⟩:=Wa hF hJ XP fuel a c H n sc 0 [] [] _ h.under hs hL4;have hg:=(h.step PH).widen (Wf:=wks.map (·.1)) (fun i hi hm=>by
      rcases List.mem_append.1 hm with hm|hm
      ·exact hm
      ·have hi':i∈W':=(hiff i hi).2 (.inr hm);unfold RH at hq;simp only[YB]at hq;simpa using List.all_eq_true.1 hq.1.1.1.1 i hi') hw
     have hd:∀t,∃d,Xh d/\∀μ v',VR μ (Xx c'.tmps t) v'->VR μ d v':=fun t=>KH _
     have wslt:∀i o,Qq ws0 i=some o->i<a:=fun i o ho=>by
      have hq':=hq;unfold RH at hq';simp only[YB]at hq';have J4:i∈wks.map (·.1):=Decidable.of_not_not fun e=>by
       have:=(gj wks ws0 L3 hws i).1.2 e;rw[this]at ho;cases ho
      obtain⟨k,hk,rfl⟩:=List.mem_map.1 J4;exact YL (List.all_eq_true.1 hq'.1.1.1.2 k hk)
     have hmo:=NI hoo;refine⟨fun t=>Classical.choose (hd t),c'.todo,TS hu wslt,by omega,fun Z μ w fr cs Q7 hB hf X8=> ?_⟩;obtain⟨fr',w',μ',hp,J5,ha,hb,XZ⟩:=hg.sem Z μ w fr cs Q7 hB hf X8;obtain⟨μ1,im1,hco,XE,Vx,_⟩:=cW hu hw hg.under hq Q7 hf hp hws hos hL3 hL2;refine⟨fr',w',μ1,XE,⟨by rw[J5.fn,e1], ?_,fun hpn=> ?_, ?_, ?_,J5.kind, ?_⟩,ha,hb,XZ⟩
     ·refine J5.tmps.merge e2 (YL hlen) (fun p hp v' hv=> ?_) fun t=>Classical.choose_spec (hd t)
      obtain⟨i,hi⟩:=List.getElem?_of_mem hp;rw[List.getElem?_zip_eq_some]at hi;obtain⟨hi1,hi2⟩:=hi;obtain⟨u,L',ha,hb,hc⟩:=(kz _ _ _ hvs).2 i p.2 hi2;rw[Lx,hi1]at ha;simp only[LG,YO]at ha;subst ha;exact VX hco 4 _ _ _ _ hb (hc hL1) hv
     ·refine(J5.todo ?_).plain T4;rw[hmo];unfold ri at ho1;split at ho1
      ·rfl
      ·split at ho1
       ·simp only[YO,YR]at ho1;obtain⟨rfl,_⟩:=ho1;cases hpn
       ·cases ho1
     ·have:=J5.defers;rw[hdf]at this;exact .of_empty this.empty
     ·have hm:=J5.mode;rw[hmo]at hm;show MR μ1 (y8 _) fr'.mode;generalize fr'.mode=z at hm ⊢;unfold ri at ho1;split at ho1
      ·split at ho1
       ·simp only[YO,YR]at ho1;obtain⟨rfl,_⟩:=ho1;simp only[y8]at hm ⊢;cases hm;exact .ret
       ·cases ho1
      ·split at ho1
       ·rename_i hv2;simp only[YO,YR]at ho1;obtain⟨rfl,rfl⟩:=ho1;simp only[y8]at hm ⊢;cases hm with
        |ZB Vp=>exact .ZB (VX hco 4 _ _ _ _ hv2 hL0 Vp)
       ·cases ho1
     ·have:=J5.round;rw[e6,Yp]at this;show RoR μ1 c0.roundOf fr'.roundOf;rw[Yp];generalize fr'.roundOf=x at this ⊢;cases x with
      |none=>trivial
      |some x=>cases this
    ·cases e
   ·cases e
 ·cases e
theorem FrR.lowZ{Z:Bot}{μ μ0:Mu}{fr:Frame}(hμ:∀b,b<a->μ0 b=μ b)(hs:∀t,Ry a 4 (Xx c.tmps t)=true\/Xh (Xx c.tmps t))(hp:c.todo.all WJ=true)(hd:c.defers=[])(hm:c.mode=.run)(hr:c.roundOf=none)(h:FrR Z μ c fr):FrR Z μ0 c fr:=by
 have hpans:c.mode.pans=false:=by rw[hm];rfl
 refine⟨h.fn,qY hμ hs h.tmps,fun _=>(h.todo hpans).plain hp, ?_, ?_,h.kind, ?_⟩
 ·have:=h.defers;rw[hd]at this ⊢;exact .of_empty this.empty
 ·have:=h.mode;rw[hm]at this ⊢;generalize fr.mode=ds at this ⊢;cases this;exact .run
 ·have:=h.round;rw[hr]at this ⊢;generalize fr.roundOf=x at this ⊢;cases x with
  |none=>trivial
  |some x=>cases this
theorem FinU.uj{out:OO}{live:List (Nat×Value)}{ws:Qm}{os:List Obj}(h:FinU P B c0 Hb a out live ws os Wf)(hub:Under Hb a)(hws:∀i o,Qq ws i=some o->i<a/\i∈Wf)(hWf:∀i∈Wf,i<a)(hs:∀t,Ry a 4 (Xx c0.tmps t)=true\/Xh (Xx c0.tmps t))(hp:c0.todo.all WJ=true)(hd:c0.defers=[])(hm:c0.mode=.run)(hr:c0.roundOf=none)(hob:∀i o,Qq Hb i=some o->yL a o):
 UJ P B c0 Hb a out live ((ws++((a,QV)::QL (a+1) os))++Hb) (a+1+os.length) (Le a) Wf:=by
 have hG:(ws++((a,QV)::QL (a+1) os))++Hb=X9 Hb a ws os:=by unfold X9;simp
 rw[hG];obtain⟨d,td,h⟩:=h;refine⟨d,td,⟨by omega,fun i hi hw=> ?_,fun i hi=> ?_,fun i hi=>List.mem_range.2 (hWf i hi),fun i hi=>by have:=hWf i hi;omega⟩,fun S μ w fr cs Z Q7 hB hS hf X8 hR=> ?_⟩
 ·rw[UI];cases hg:Qq ws i with
  |some o=>exact absurd (hws i o hg).2 hw
  |none=>simp only;rw[if_neg (by omega),if_neg (by omega)]
 ·rw[UI];cases hg:Qq ws i with
  |some o=>have:=(hws i o hg).1;omega
  |none=>simp only;rw[if_neg (by omega),if_neg (by omega)]
 ·have hSeq:S=fun i=>i<a:=funext fun i=>propext ⟨hS i,fun hi=>hR i (List.mem_range.2 hi) hi⟩
  subst hSeq;let μc:Mu:=fun i=>if i<a then μ i else none
  have hμc:∀b,b<a->μc b=μ b:=fun b hb=>by show(if b<a then μ b else none)=μ b;rw[if_pos hb]
  have hokc:Ok B.B (fun i=>i<a) μc (Qq Hb) w:=by
   refine⟨fun i o hi hg hl=> ?_,fun i o im hi hg hl QD=> ?_,fun i j oi oj x y hi hj Kz hg1 hg2 l1 l2 m1 m2 r1 r2=> ?_,fun i o hi hg hr=> ?_,fun i j oi oj x y z hi hj hg1 hg2 r1 l2 m1 m2 Rl=> ?_⟩
   ·obtain⟨im,QD,ZQ⟩:=Q7.rel i o hi hg hl;exact⟨im,(hμc i hi).trans QD,OR.low hμc (hob i o hg) ZQ⟩
   ·exact Q7.low i o im hi hg hl ((hμc i hi).symm.trans QD)
   ·exact Q7.inj i j oi oj x y hi hj Kz hg1 hg2 l1 l2 ((hμc i hi).symm.trans m1) ((hμc j hj).symm.trans m2) r1 r2
   ·obtain⟨im,QD,hx⟩:=Q7.Jv i o hi hg hr;exact⟨im,(hμc i hi).trans QD,hx⟩
   ·exact Q7.sep i j oi oj x y z hi hj hg1 hg2 r1 l2 ((hμc i hi).symm.trans m1) ((hμc j hj).symm.trans m2) Rl
  have hfc:∀i,a<=i->μc i=none:=fun i hi=>by show(if i<a then μ i else none)=none;rw[if_neg (by omega)]
  obtain⟨fr',w',μ',XE,J5,hro',hfn',XZ⟩:=h.sem Z μc w fr cs hokc hB hfc (X8.lowZ hμc hs hp hd hm hr);have Vx:∀i,a+1+os.length<=i->μ' i=none:=fun i hi=>by rw[XE.ext i (by omega)];exact hfc i (by omega)
  let μ2:Mu:=fun i=>if i<a+1+os.length then μ' i else μ i
  have hμ2:∀i,i<a+1+os.length->μ2 i=μ' i:=fun i hi=>by show(if i<a+1+os.length then μ' i else μ i)=μ' i;rw[if_pos hi]
  have ext2:Ext μ' μ2:=fun k im hk=>by
   rcases LF k (a+1+os.length)with h1|h1
   ·rw[hμ2 k h1];exact hk
   ·rw[Vx k h1]at hk;cases hk
  have Slt:∀i,(i<a\/a<=i/\i<a+1+os.length)->i<a+1+os.length:=fun i h=>by omega
  refine⟨fr',w',μ2,⟨?_,by omega,fun i hi=> ?_,fun i hi hw=> ?_,XE.grow,fun b hb hx=>XE.frame b hb fun i hiW hi im QD=>hx i hiW hi im ((hμc i hi).symm.trans QD),fun i hiW hi=> ?_,fun i im o h1 h2 ho hl QD=> ?_,fun i im o hc ho hr QD b x hx=> ?_,XE.os,XE.tape,XE.output⟩,J5.mono ext2,hro',hfn',XZ⟩
  ·have ok:=XE.ok;refine⟨fun i o hi hg hl=> ?_,fun i o im hi hg hl QD=> ?_,fun i j oi oj x y hi hj Kz hg1 hg2 l1 l2 m1 m2 r1 r2=> ?_,fun i o hi hg hr=> ?_,fun i j oi oj x y z hi hj hg1 hg2 r1 l2 m1 m2 Rl=> ?_⟩
   ·obtain⟨im,QD,ZQ⟩:=ok.rel i o hi hg hl;exact⟨im,(hμ2 i (Slt i hi)).trans QD,ZQ.keep ext2 rfl⟩
   ·exact ok.low i o im hi hg hl ((hμ2 i (Slt i hi)).symm.trans QD)
   ·exact ok.inj i j oi oj x y hi hj Kz hg1 hg2 l1 l2 ((hμ2 i (Slt i hi)).symm.trans m1) ((hμ2 j (Slt j hj)).symm.trans m2) r1 r2
   ·obtain⟨im,QD,hx⟩:=ok.Jv i o hi hg hr;exact⟨im,(hμ2 i (Slt i hi)).trans QD,hx⟩
   ·exact ok.sep i j oi oj x y z hi hj hg1 hg2 r1 l2 ((hμ2 i (Slt i hi)).symm.trans m1) ((hμ2 j (Slt j hj)).symm.trans m2) Rl
  ·rcases LF i a with h1|h1
   ·rw[hμ2 i (by omega),XE.ext i (by omega),hμc i h1]
   ·show(if i<a+1+os.length then μ' i else μ i)=μ i;rw[if_neg (by omega)]
  ·exact XE.keep i hi hw
  ·obtain⟨p,q,im,s,t⟩:=XE.wr i hiW hi;exact⟨p,q,im,(hμc i hi).symm.trans s,t⟩
  ·obtain⟨p,q⟩:=XE.fresh i im o h1 h2 ho hl ((hμ2 i h2).symm.trans QD);exact⟨p,q.imp id fun⟨k,x,y,⟨Z4,m,m2⟩,z⟩=>⟨k,x,y,⟨Z4,(hμc k y).symm.trans m,m2⟩,z⟩⟩
  ·have Xi:i<a+1+os.length:=by omega
   rcases XE.rf i im o hc ho hr ((hμ2 i Xi).symm.trans QD) b x hx with e|⟨k,Ui,ko,p,q,r,s,t,u⟩|⟨k,p,q,⟨Z4,m,m2⟩,z⟩
   ·exact .inl e
   ·exact .inr (.inl ⟨k,Ui,ko,p,q,r,s,(hμc k q).symm.trans t,u⟩)
   ·exact .inr (.inr ⟨k,p,q,⟨Z4,(hμc k q).symm.trans m,m2⟩,z⟩)
theorem FinU.ujB{fn:FuncId}{len:Nat}{l:List Value}{todo:List Item}{out:OO}{live:List (Nat×Value)}{ws:Qm}{os:List Obj}{ex:List Nat}(h:FinU P B ⟨fn,ofList len l,todo,[],.run,none⟩ Hb a out live ws os Wf)(e:Oz a l todo none Hb ws Wf ex=true)(hx:Mr a Hb ex):
 UJ P B ⟨fn,ofList len l,todo,[],.run,none⟩ Hb a out live ((ws++((a,QV)::QL (a+1) os))++Hb) (a+1+os.length) (Le a) Wf:=by
 simp only[Oz,YB]at e;obtain⟨e1,e2,e3,e4,e5,e6,e7,e8⟩:=e;have e8:=YL e8;refine h.uj (gz e4) (fun i o ho=> ?_) (fun i hi=>YL (List.all_eq_true.1 e7 i hi)) (fun t=> ?_) e2 rfl rfl rfl (fun i o ho=> ?_)
 ·have:=List.all_eq_true.1 e6 _ (cf ho);simp only[YB]at this;exact⟨YL this.1,by simpa using this.2⟩
 ·simp only[Xx,ofList];rw[cb _ _ _ _ (by omega)];split
  ·rename_i ht;have ht:t<l.length:=by omega
   refine .inl (List.all_eq_true.1 e1 _ ?_);rw[Nat.sub_zero,Li,L7 ht];exact List.getElem_mem ht
  ·rw[Tri.get_lf];exact .inr (PD (by simp[Go.undef,af]))
 ·have:=List.all_eq_true.1 e5 _ (cf ho);simp only[Bool.or_eq_true]at this;rcases this with h1|h1
  ·exact ox hx h1 ho
  ·exact xP h1
theorem GoE.endsTx{c0 c:CF}{H:Qm}{n:Nat}{s:Option ST}(hok0:Qaf P B 1 c H n s)(h:GoE P B c0 Zd 1 c H n []){fz:List Fz}{out:Value}{L:List Prop}
 (e:Xv s fz=some (out,L)) (hL:Qz L):EndsT P B c0 out:=by
 unfold Xv at e;split at e
 ·rename_i v H' n' W' L';cases hW:W'.isEmpty with
  |false=>rw[hW]at e;cases e
  |true=>
   rw[hW]at e;simp only[cond_true]at e;split at e
   ·rename_i t R2 L2 XZ;simp only[YO,YR]at e;obtain⟨rfl,rfl⟩:=e;obtain⟨hL2,hL1⟩:=Xb hL;have hWe:W'=[]:=by simpa using hW
    subst hWe;obtain⟨R,W2,hfj,hiff⟩:=hok0 _ _ _ _ _ rfl hL1;intro μ w fr cs im Q7 hB hf QD X8;obtain⟨XW,w',μ',hp,ho,he⟩:=h.fj hfj μ w fr cs Q7 hB hf X8;have hnoW:∀i,i∈[]++W2->¬i<1:=fun i hi Xi=>by
     have:=(hiff i Xi).2 (by simpa using hi);simp at this
    have T7:Below w.heap.size w w':=⟨hp.os,hp.tape,hp.output,hp.grow,fun b hb=>hp.frame b hb fun i hi hl=>absurd hl (hnoW i hi)⟩
    cases ho with
    |ret Vp=>
     rename_i v';refine⟨v',w',T7, ?_,he⟩;have hu':Under H' n':=h.under.shape hfj.shape;have hle:=hp.le
     -- of what is looked at, all is there
     have Uc:∀r,(Qq H' r).isSome->r<1\/1<=r/\r<n':=fun r hr=>by
      have:r<n':=by
       cases hg:Qq H' r with
       |none=>rw[hg]at hr;cases hr
       |some o=>exact hu'.lt hg
      omega
     have hok2:Ok B.B (fun _=>True) μ' (Qq H') w':=
      ⟨fun i o _ ho=>hp.ok.rel i o (Uc i (by rw[ho];rfl)) ho,fun i o im _ ho=>hp.ok.low i o im (Uc i (by rw[ho];rfl)) ho,
       fun i j oi oj a b _ _ Rm ZZ ZY=>hp.ok.inj i j oi oj a b (Uc i (by rw[ZZ];rfl)) (Uc j (by rw[ZY];rfl)) Rm ZZ ZY,
       fun i o _ ho=>hp.ok.Jv i o (Uc i (by rw[ho];rfl)) ho,fun i j oi oj a b x _ _ ZZ ZY=>hp.ok.sep i j oi oj a b x (Uc i (by rw[ZZ];rfl)) (Uc j (by rw[ZY];rfl)) ZZ ZY⟩
     refine(KO hok2 3 v v' t R2 L2 XZ hL2 (fun _ _=>trivial) Vp).mono fun b x hx=> ?_
     have hw:=WL hx;unfold Yo at hx;split at hx
     ·rename_i hc;obtain⟨i,_,o,im2,hio,Wz,UP⟩:=hc;have hi:=Uc i (by rw[hio];rfl);have old0:∀i,i<1->i=0:=fun i h=>by omega
      have keep0:Qq H' 0=some QV:=by
       rw[hp.keep 0 (by omega) fun e=>hnoW 0 e (by omega)];rfl
      have mu0:μ' 0=some im:=by rw[hp.ext 0 (by omega)];exact QD
      have below:b<w.heap.size->im.fm b=some x->RA im.fm w w' b=some x:=fun h1 h2=>by unfold RA;rw[if_pos h1];exact h2
      have above:w.heap.size<=b->RA im.fm w w' b=some x:=fun h1=>by unfold RA;rw[if_neg (by omega)];exact hw
      have from0:im.fm b=some x->RA im.fm w w' b=some x:=fun h=>by
       refine below ?_ h;exact Jx Q7 (i:=0) (o:=QV) (show 0<1 by omega) rfl trivial QD h
      rcases UP with ⟨WA,Kz⟩|⟨hl,hb⟩
      ·cases hfx:im2.fm b with
       |none=>exact absurd hfx Kz
       |some y=>
        obtain⟨im3,him3,hf3⟩:=hp.ok.Jv i o hi hio WA;rw[Wz]at him3;cases him3;have:=hf3 b y hfx;rw[hw]at this;cases this;rcases hi with hi|hi
        ·rw[old0 i hi,mu0]at Wz;cases Wz;exact from0 hfx
        ·rcases hp.rf i im2 o (.inl hi) hio WA Wz b x hfx with c|⟨k,Ui,ko,hk,_,hko,_,T6,hkb⟩|⟨k,hk,hkn,_⟩
         ·exact above c
         ·rw[old0 k hk,QD]at T6;cases T6;exact from0 hkb
         ·exact absurd hkn (hnoW k hk)
      ·rcases hi with hi|hi
       ·rw[old0 i hi,keep0]at hio;cases hio;exact hl.elim
       ·rcases(hp.fresh i im2 o hi.1 hi.2 hio hl Wz).2 with c|⟨k,hk,hkn,_⟩
        ·exact above (by omega)
        ·exact absurd hkn (hnoW k hk)
     ·cases hx
   ·cases e
 ·cases e
theorem GoE.endsD{c0 c:CF}{H:Qm}{n:Nat}(hF:∀g,F g=true->Q0 P g=true)(hJ:∀w,B.has w->J w)(XP:P.follows .mixedOrders=true)(h:GoE P B c0 Zd 1 c H n []){k:Nat}{o:OO}{live:List (Nat×Value)}{UN:Qm}{n':Nat}{Wk:List Nat}{res:Value}{resR:List Nat}{fz:List Fz}{out:Value}{L:List Prop}
 (e:Xv (uy P F J B k 1 c H n o live UN n' Wk res resR) fz=some (out,L)) (hL:Qz L):EndsT P B c0 out:=GoE.endsTx (uw hF hJ XP h.under) h e hL
end
def XR(n:Int):Nat:=2 ^ n.toNat
def ZT(a n:Int):Nat:=a.toNat >>> n.toNat
def VH(a b:Int):Nat:=a.toNat &&& b.toNat
theorem bK{n:Int}(h1:n<=62):XR n<=4611686018427387904:=by unfold XR;exact Nat.le_trans (Nat.pow_le_pow_right (by decide) (show n.toNat<=62 by omega)) (by decide)
theorem M5{a n:Int}:ZT a n<=a.toNat:=by unfold ZT;rw[Nat.shiftRight_eq_div_pow];exact Nat.div_le_self _ _
theorem Mk{n:Int}(h1:n<=62):(2:Nat) ^ n.toNat<=2 ^ 62:=Nat.pow_le_pow_right (by decide) (by omega)
theorem yG{P:Program}{t:TypeId}{yk:IntKind}{n:Int}(h0:0<=n)(h1:n<=62):Yr P .shl t (.int .i64 1) (.int yk n) (.int .i64 ((XR n:Nat):Int)):=fun x y w=>by
 unfold XR;have e:min n.toNat (IntKind.bits IntKind.i64)=n.toNat:=Nat.min_eq_left (by show n.toNat<=64;omega);have hp:=Mk h1;have e2:(2:Int) ^ n.toNat=((2 ^ n.toNat:Nat):Int):=by rw[Int.natCast_pow];rfl
 have e3:IntKind.wrap IntKind.i64 (1*2 ^ min n.toNat (IntKind.bits IntKind.i64))=((2 ^ n.toNat:Nat):Int):=by
  rw[e,Int.one_mul,e2];generalize 2 ^ n.toNat=z at *;exact PX (by omega) (by omega)
 have hn:¬n<0:=by omega
 simp only[eqGuard,binOp,Op.shift,hn,if_false,e3];simp
theorem cn{P:Program}{t:TypeId}{yk:IntKind}{a n:Int}(ha:0<=a)(h0:0<=n)(h1:n<=62):Yr P .shr t (.int .i64 a) (.int yk n) (.int .i64 ((ZT a n:Nat):Int)):=fun x y w=>by
 unfold ZT;obtain⟨b,rfl⟩:∃b:Nat,a=b:=⟨a.toNat,by omega⟩
 have e:min n.toNat (IntKind.bits IntKind.i64)=n.toNat:=Nat.min_eq_left (by show n.toNat<=64;omega);have e3:Int.fdiv (b:Int) (2 ^ min n.toNat (IntKind.bits IntKind.i64))=((((b:Int)).toNat >>> n.toNat:Nat):Int):=by
  rw[e,Int.fdiv_eq_ediv_of_nonneg _ (Int.le_of_lt (Int.pow_pos (by decide))),LR,Nat.shiftRight_eq_div_pow,Int.natCast_ediv,Int.natCast_pow];rfl
 have hn:¬n<0:=by omega
 simp only[eqGuard,binOp,Op.shift,hn,if_false,e3];simp
theorem qU{a:Int}(ha:0<=a):BitVec.ofInt (IntKind.bits IntKind.i64) a=BitVec.ofNat 64 a.toNat:=by
 obtain⟨b,rfl⟩:∃b:Nat,a=b:=⟨a.toNat,by omega⟩
 rw[LR];exact BitVec.ofInt_natCast 64 b
theorem cq{P:Program}{t:TypeId}{a b:Int}(ha:0<=a)(ha2:a<=9223372036854775807)(hb:0<=b)(hb2:b<=9223372036854775807):Yr P .and t (.int .i64 a) (.int .i64 b) (.int .i64 ((VH a b:Nat):Int)):=fun x y w=>by
 unfold VH;have e:IntKind.wrap IntKind.i64 ((BitVec.toNat (BitVec.ofInt (IntKind.bits IntKind.i64) a &&& BitVec.ofInt (IntKind.bits IntKind.i64) b):Nat):Int)=((a.toNat &&& b.toNat:Nat):Int):=by
  rw[qU ha,qU hb];have e3:BitVec.toNat (BitVec.ofNat 64 a.toNat &&& BitVec.ofNat 64 b.toNat)=a.toNat &&& b.toNat:=by
   rw[BitVec.toNat_and,BitVec.toNat_ofNat,BitVec.toNat_ofNat,Nat.mod_eq_of_lt (a:=a.toNat) (by omega),Nat.mod_eq_of_lt (a:=b.toNat) (by omega)]
  show IntKind.wrap IntKind.i64 ((BitVec.toNat (BitVec.ofNat 64 a.toNat &&& BitVec.ofNat 64 b.toNat):Nat):Int)=_;rw[e3];have:=Nat.and_le_left (n:=a.toNat) (m:=b.toNat);exact PX (by omega) (by omega)
 simp only[eqGuard,binOp,Op.intBits,ne_eq,not_true_eq_false,if_false,e];simp
def QY{α:Type}(m:Nat)(e:α->List Value)(x:α):List Value:=(e x).map (Wb m)
def yK{α:Type}(e:α->List Value):Prop:=∀x,∀v∈e x,simple v=true\/WE v=true
section
variable {α:Type} {e:α->List Value} {m r j z:Nat} {rs:List (Nat×Nat)} {Pb:List (Nat×Array Value)} {ow:List (Nat×Nat)} {xs:List α} {rsT:List Nat}
theorem YH(h:∀x,(e x).all (fun v=>simple v || WE v)=true):yK e:=fun x v hv=>by
 have:=List.all_eq_true.1 (h x) v hv;simpa using this
theorem Rg(v:Value)(h:simple v=true\/WE v=true):(simple v=true/\Wb m v=v)\/(WE v=true/\Wb m v=Qk m v):=by
 unfold Wb;cases hs:simple v with
 |true=>exact .inl ⟨rfl,rfl⟩
 |false=>rw[hs]at h;exact .inr ⟨by simpa using h,rfl⟩
theorem AJ(he:yK e)(hm:(r,j)∈rs)(x:α):AllX m rs Pb ow (QY r e x) (QY j e x):=by
 have key:∀l:List Value,(∀v∈l,simple v=true\/WE v=true)->AllX m rs Pb ow (l.map (Wb r)) (l.map (Wb j)):=by
  intro l;induction l with
  |nil=>intro _;trivial
  |cons v l ih=>
   intro h;refine⟨?_,ih fun u hu=>h u (Lj _ hu)⟩;show ju m rs Pb ow (Wb r v) (Wb j v);rcases Rg (m:=r) v (h v (by simp))with ⟨a,b⟩|⟨a,b⟩ <;> rcases Rg (m:=j) v (h v (by simp))with ⟨c,d⟩|⟨c,d⟩
   ·rw[b,d];exact .simple a
   ·rw[b];unfold Wb;rw[a];exact .simple a
   ·rw[d];unfold Wb;rw[c];exact .simple c
   ·rw[b,d];exact .Jv hm a
 exact key _ (he x)
theorem Az{e1 e2:α->List Value}(h:∀x,AllX m rs Pb ow (e1 x) (e2 x)):QX m rs Pb ow (Qe e1 xs) (Qe e2 xs):=by
 unfold QX Qe;simp only;induction xs with
 |nil=>trivial
 |cons x xs ih=>simp only[LY];exact(h x).append ih
theorem tE(he:yK e)(hm:(r,j)∈rs):QX m rs Pb ow (Qe (QY r e) xs) (Qe (QY j e) xs):=Az (AJ he hm)
theorem Vz{cs:Array Value}{vs:List Value}{x:α}(h:QX m rs Pb ow cs (Qe e xs))(hx:AllX m rs Pb ow vs (e x)):QX m rs Pb ow (cs++vs.toArray) (Qe e (xs++[x])):=by
 unfold QX at h ⊢;rw[<-XH];simp only[Array.toList_append];exact AllX.append h hx
theorem VF{vs:List Value}{x:α}(hx:AllX m rs Pb ow vs (e x)):QX m rs Pb ow vs.toArray (Qe e [x]):=by
 unfold QX Qe;simpa using hx
theorem A0{vs:List Value}{x:α}(h:AllX m rs Pb ow vs (e x)):∀k:Nat,QX m rs Pb ow (Qe (fun(_:α)=>vs) (Lu k x)) (Qe e (Lu k x))
 |0=>trivial
 |k+1=>by
  unfold QX Qe;simp only[List.replicate_succ,LY];exact h.append (A0 h k)
theorem VG(he:yK e)(hm:m∈rsT):X1 rsT (Qe (QY m e) xs) (Qe e xs):=by
 have key:∀l:List Value,(∀v∈l,simple v=true\/WE v=true)->∀(i:Nat) v v1,(l.map (Wb m))[i]? =some v->l[i]? =some v1->pj rsT v v1:=by
  intro l h i v v1 h1 h2;rw[Lx,h2]at h1;simp only[LG,YO]at h1;subst h1;rcases Rg (m:=m) v1 (h v1 (Lk h2))with ⟨a,b⟩|⟨a,b⟩
  ·exact .inl ⟨by rw[b];exact a,b.symm⟩
  ·exact .inr ⟨m,hm,b,a⟩
 have e0:Qe (QY m e) xs=((xs.flatMap e).map (Wb m)).toArray:=by
  unfold Qe QY;rw[List.map_flatMap]
 refine⟨by rw[e0];simp[Qe],fun i v v1 h1 h2=> ?_⟩;rw[e0]at h1;refine key (xs.flatMap e) (fun v hv=> ?_) i v v1 (by simpa using h1) (by simpa[Qe]using h2);obtain⟨x,_,hx⟩:=List.mem_flatMap.1 hv;exact he x v hx
theorem QaV{a:Nat}{t:TypeId}{fl:Nat×Nat}(he:yK e)(hm:m<a):yL a (.cells (Qe (QY m e) xs) t fl):=fun i v hv=>by
 have:v∈Qe (QY m e) xs:=LJ hv;simp only[Qe,List.mem_toArray,List.mem_flatMap,QY,List.mem_map]at this;obtain⟨x,_,u,hu,rfl⟩:=this;rcases Rg (m:=m) u (he x u hu)with ⟨h1,h2⟩|⟨h1,h2⟩
 ·rw[h2];exact .inl (kQ h1)
 ·rw[h2];refine .inl ?_;show QM a (Qk m u)=true;have:Ll m a=true:=LC hm;unfold QM;rw[show simple (Qk m u)=false from rfl,Bool.false_or];exact this
end
def Yq(zs:List Value)(_:Unit):List Value:=zs
theorem DT{zc:Array Value}{z n:Nat}(hz:zc.size=z)(h0:0<z):madeCells zc (n*z)=Qe (Yq zc.toList) (Lu n ()):=by
 have hl:∀x,(Yq zc.toList x).length=z:=fun x=>by simp[Yq,hz]
 refine Array.ext_getElem? fun i=> ?_
 by_cases hi:i<n*z
 ·have hk:i / z<n:=(Nat.div_lt_iff_lt_mul h0).2 hi;have hj:i % z<z:=Nat.mod_lt _ h0;have e:i / z*z+i % z=i:=by rw[Nat.mul_comm];exact Nat.div_add_mod i z
  have:=dz (e:=Yq zc.toList) (xs:=Lu n ()) hl (k:=i / z) (j:=i % z) (by simpa using hk) hj;rw[e]at this;rw[this];have hj':i % z<zc.size:=by rw[hz];exact hj
  simp only[madeCells,Array.getElem?_map,Array.getElem?_range,hi,if_true,LG,hz,Yq];simp[hj']
 ·have a:(madeCells zc (n*z)).size=n*z:=size_madeCells _ _;have b:(Qe (Yq zc.toList) (Lu n ())).size=n*z:=by rw[QZ hl];simp
  rw[L5 (by omega),L5 (by omega)]
def QbO(P:Program)(t e z bytes:Nat)(zs:List Value):Bool:=match JN P t with
 |some (.slice e')=>Lf e' e && match inf P e with
  |some i=>match i.zero with
   |some zv=>Lf i.size z && (Lf i.bytes bytes && (Ll 0 z && (Lf zv.cells.size z && (IQ (Eg 2) zv.cells.toList zs && zs.all simple))))
   |none=>false
  |none=>false
 |_=>false
theorem oU{P:Program}{t e z bytes:Nat}{zs:List Value}(h:QbO P t e z bytes zs=true){l:Int}{k k':IntKind}(h0:0<=l)(hb:bytes*l<=281474976710656)(hn:l<=9223372036854775807):
 TK P t (.int k l) (.int k' l)=some (e,Qe (Yq zs) (Lu l.toNat ()),l.toNat,z):=by
 unfold QbO at h;split at h
 ·rename_i e' hu;split at h
  ·rename_i i hi;split at h
   ·rename_i zv hz;simp only[YB]at h;obtain⟨h1,h2,h3,h4,h5,h6,h7⟩:=h;have h1:=YE h1;have h2:=YE h2;have h3:=YE h3;have h4:0<z:=YL h4;have h5:=YE h5;have h6:=KI (UL 2) _ _ h6;subst h1 h2 h3;have e1:=DT (n:=l.toNat) h5 h4;rw[h6]at e1;have Uc:(madeCells zv.cells (l.toNat*i.size)).all simple=true:=by
     rw[e1,Array.all_eq_true'];intro v hv;simp only[Qe,List.mem_toArray,List.mem_flatMap,Yq]at hv;obtain⟨_,_,hv⟩:=hv;exact List.all_eq_true.1 h7 v hv
    simp only[TK,hu,hi,hz,decide_eq_true h0,decide_eq_true hb,decide_eq_true hn,decide_eq_true (LH l),Uc,Bool.and_self,cond_true];rw[e1]
   ·simp at h
  ·simp at h
 ·cases h
section
variable {α:Type} {e:α->List Value} {m z:Nat} {rs:List (Nat×Nat)} {Pb:List (Nat×Array Value)} {ow:List (Nat×Nat)} {xs:List α}
theorem KJ{zs:List Value}{x:α}(h:AllX m rs Pb ow zs (e x)):∀k:Nat,QX m rs Pb ow (Qe (Yq zs) (Lu k ())) (Qe e (Lu k x))
 |0=>trivial
 |k+1=>by
  unfold QX Qe;simp only[List.replicate_succ,LY];exact AllX.append h (KJ h k)
theorem WQ(h:∀x,(e x).length=z){k z':Nat}(hk:k<xs.length){x:α}{cs:Array Value}(hc:cs=(e x).toArray)(hz:z'=z):0+k*z+z'<=(Qe e xs).size/\splice (Qe e xs) (0+k*z) cs=Qe e (xs.set k x):=by
 subst hz;rw[Lv];exact M8 h hk hc
end
end Go.CE

noncomputable abbrev Go.CE.YP:Go.Program:=Go.Proofs.Try.prog
namespace Go.Proofs.Ytncjjangllkokaa
open Go Go.CE Go.RowKit
abbrev pA(b o:Nat):Value:=.pointer (some ⟨b,o,none⟩)
def J0:World->Prop:=fun _=>True
theorem Zc:∀w w':World,(∀b,b<w.heap.size->w'.heap[b]? =w.heap[b]?)->J0 w->J0 w':=fun _ _ _ _=>trivial
theorem Q5:YP.follows .mixedOrders=true:=by decide+kernel
theorem okF:∀g,Q0 YP g=true->Q0 YP g=true:=fun _ h=>h
end Go.Proofs.Ytncjjangllkokaa
namespace Go.CE
open Go Go.RowKit Go.Proofs Go.Proofs.Ytncjjangllkokaa
theorem GoE.lM{B:Lo}{c0 c:CF}{H:Qm}{n:Nat}(h:GoE YP B c0 Zd 1 c H n []){fuel:Nat}{sc:QA}{f:FuncId}{len:Nat}{todo:List Item}{K4:List Nat}{keeps:List (Nat×KS)}{fz:List Fz}{vs:List Value}{os:List Obj}{L:List Prop}
 (e:CE.landM (Qn YP (Q0 YP) J0 B fuel 1 c H n sc 0 [] []) K4 keeps fz=some ⟨f,len,todo,[],.run,none,vs,os,L⟩) (hL:Qz L) (hlen:LI len 16000=true:=by kernel_rfl) (T4:todo.all WJ=true:=by kernel_rfl):
 ∃d:Nat->Value,(∀t,Xh (d t))/\GoE YP B c0 Zd 1 (QC f len (K4.zip vs) d todo) (Q9 os) (2+os.length) []:=GoE.landM okF (fun _ _=>trivial) Q5 h e hL hlen T4
theorem GoE.eT{B:Lo}{c0 c:CF}{H:Qm}{n:Nat}(h:GoE YP B c0 Zd 1 c H n []){fuel:Nat}{sc:QA}{fz:List Fz}{out:Value}{L:List Prop}
 (e:Xv (Qn YP (Q0 YP) J0 B fuel 1 c H n sc 0 [] []) fz=some (out,L)) (hL:Qz L):EndsT YP B c0 out:=GoE.endsT okF (fun _ _=>trivial) Q5 h e hL
theorem uA{H:Qm}{n:Nat}(h:(H.all fun p=>Ll p.1 n)=true:=by kernel_rfl):Under H n:=gz h
theorem wO{H0:Qm}{a:Nat}{Wf:List Nat}(h:(Wf.all fun i=>E2 (Qq H0 i))=true:=by kernel_rfl):Writable H0 a Wf:=ud h
theorem GoE.fK{B:Lo}{Hb:Qm}{a:Nat}{c0 c:CF}{H:Qm}{n:Nat}{wks keeps:List (Nat×KS)}(h:GoE YP B c0 Hb a c H n (wks.map (·.1))){fuel:Nat}{sc:QA}{fz:List Fz}{out:OO}{ws:Qm}{os:List Obj}{L:List Prop}
 (e:CE.finK a (Qn YP (Q0 YP) J0 B fuel a c H n sc 0 [] []) wks keeps fz=some (out,ws,os,L)) (hL:Qz L) (hu:Under Hb a:=by exact uA) (hw:Writable Hb a (wks.map (·.1)):=by exact wO):FinK YP B c0 Hb a out ws os (wks.map (·.1)):=GoE.finK okF (fun _ _=>trivial) Q5 hu hw h e hL
theorem GoE.lA{B:Lo}{Hb:Qm}{a:Nat}{c0 c:CF}{H:Qm}{n:Nat}{wks:List (Nat×KS)}(h:GoE YP B c0 Hb a c H n (wks.map (·.1))){fuel:Nat}{sc:QA}{f:FuncId}{len:Nat}{todo:List Item}{ro:Option Nat}{K4:List Nat}{keeps:List (Nat×KS)}{fz:List Fz}{vs:List Value}{ws:Qm}{os:List Obj}{L:List Prop}
 (e:CE.landA a (Qn YP (Q0 YP) J0 B fuel a c H n sc 0 [] []) K4 wks keeps fz=some ⟨f,len,todo,[],.run,ro,vs,ws,os,L⟩) (hL:Qz L) (hlen:LI len 16000=true) (T4:todo.all WJ=true) (Yp:∀l,ro=some l->l<a) (hu:Under Hb a:=by exact uA) (hw:Writable Hb a (wks.map (·.1)):=by exact wO):
 ∃d:Nat->Value,(∀t,Xh (d t))/\GoE YP B c0 Hb a (XU ro f len (K4.zip vs) d todo) (X9 Hb a ws os) (a+1+os.length) (wks.map (·.1)):=GoE.landA okF (fun _ _=>trivial) Q5 hu hw h e hL hlen T4 Yp
theorem wI{x:Int}(h1: -9223372036854775808<=x:=by omega)(h2:x<=9223372036854775807:=by omega):wq x=x:=Qbx h1 h2
theorem iX{a b c:Prop}(h3:c)(h1:a:=by omega)(h2:b:=by omega):a/\b/\c:=⟨h1,h2,h3⟩
theorem lX{α:Type}[Inhabited α]{e:α->List Value}{xs:List α}(z:Nat){k:Nat}(hk:k<xs.length:=by omega)(h:∀x,(e x).length=z:=by exact fun _=>rfl):(Qe e xs).extract (k*z) (k*z+z)=(e (xs.getD k La)).toArray:=rF h hk
theorem cS{α:Type}{e:α->List Value}{xs:List α}{m:Nat}{rs:List Nat}(h:∀x,(e x).all simple=true:=by exact fun _=>rfl):QE m rs (Qe e xs) (Qe e xs):=RB (K5 (fun x=>List.all_eq_true.1 (h x)))
theorem cP{α:Type}{e:α->List Value}{xs:List α}{m r j:Nat}{rs:List (Nat×Nat)}{Pb:List (Nat×Array Value)}{ow:List (Nat×Nat)}(he:∀x,(e x).all (fun v=>simple v || WE v)=true:=by exact fun _=>rfl):QX m ((r,j)::rs) Pb ow (Qe (QY r e) xs) (Qe (QY j e) xs):=tE (YH he) (LP _)
theorem nL{a b:Int}(h:¬a<b):XB a b=false:=OQ (Int.not_lt.1 h)
theorem EndsT.cR{P:Program}{B:Lo}{c0:CF}{a b:Value}(h:EndsT P B c0 a)(e:a=b:=by rfl):EndsT P B c0 b:=h.cast e
theorem dB{P:Program}{J:World->Prop}{f:FuncId}{xs:Array Value}{b c:Bool}(h:Qv P J f xs (.bool b))(e:b=c):Qv P J f xs (.bool c):=e ▸ h
end Go.CE

namespace Go.CE
open Go Go.RowKit

section
variable {P:Program} {F:FuncId->Bool} {T:Tm} {o:Oper} {H:Qm} {n:Nat}
theorem wz{t e:TypeId}{x hi:Operand}{b off N z:Nat}{k:IntKind}{l:Int}(ho:o.op=.slice t x none (some hi) none)(hx:XV T x=some (.pointer (some ⟨b,off,none⟩)))(hl:XV T hi=some (.int k l))(hu:JN P t=some (.array N e))(hz:W5 P e=some z)(hN:LI N maxLen=true)(h1:0<=l)(h2:l<=N):
 aN P F Xn (fun _ _ _=>none) T o H n=some ⟨.ret (.slice (some ⟨b,off,none⟩) l.toNat 0),H,n,[],[]⟩:=by
 have e1:yF N none (some (.int k l))=some (0,l.toNat):=by
  simp only[yF,Et,decide_eq_true h1,decide_eq_true h2,Bool.and_self,cond_true]
 have e4:bc P t (.pointer (some ⟨b,off,none⟩)) none (some (.int k l))=some (.slice (some ⟨b,off,none⟩) l.toNat 0):=by
  simp only[bc,hu,hz,e1,hN,cond_true,Nat.zero_mul,Nat.add_zero,Nat.sub_zero];cases Lf N 0 <;> rfl
 have e5:PK P F (XV T) o H n=some ⟨.val (.slice (some ⟨b,off,none⟩) l.toNat 0),H,n,[],[]⟩:=by
  unfold PK tB;simp only[ho,hx,E0,hl,e4,mkPure,LG,List.all_nil,cond_true]
 unfold aN;simp only[ho,e5]
end
section
variable {P:Program} {F:FuncId->Bool} {T:Tm} {o:Oper} {H:Qm} {n:Nat}
theorem aM{c:Call}{s x:Operand}{sv:Value}{t e:TypeId}{b off m s2 z by':Nat}{cs cs':Array Value}{te:TypeId}{f:Nat×Nat}(ho:o.op=.call c)(hc:c.callee=.builtin .append)(ha:c.args.toList=[s,x])(hat:c.argTypes.toList=[t,t])
 (hs:XV T s=some sv) (hbn:Y2 sv=true) (hx:XV T x=some (.slice (some ⟨b,off,none⟩) m s2)) (hu:JN P t=some (.slice e)) (hi:(inf P e).map (fun i=>(i.zero.map (·.cells.size),i.size,i.bytes))=some (some (z+1),z+1,by')) (hb:Qq H b=some (.cells cs te f)) (hn:b<n)
 (hq:0<m/\m<=maxLen/\m*by'<=140737488355328/\off+m*(z+1)<=cs.size/\ones (cs.extract off (off+m*(z+1)))=true/\cs.extract off (off+m*(z+1))=cs'):
 aN P F Xn (fun _ _ _=>none) T o H n=some ⟨.ret (.slice (some ⟨n,0,none⟩) m (z+1)),(n,.cells cs' e (0,0))::H,n+1,[b],[]⟩:=by
 obtain⟨h1,h2,h3,h4,h5,rfl⟩:=hq;cases hinf:inf P e with
 |none=>rw[hinf]at hi;cases hi
 |some i=>
  rw[hinf]at hi;simp only[LG,YO,YR]at hi;obtain⟨i1,i2,i3⟩:=hi;cases hz:i.zero with
  |none=>rw[hz]at i1;cases i1
  |some zv=>
   rw[hz]at i1;simp only[LG,YO]at i1;have eb:bare sv=.slice none 0 0:=by
    unfold Y2 at hbn;split at hbn
    ·rfl
    ·rfl
    ·cases hbn
   have e4:yE P t t H n sv (.slice (some ⟨b,off,none⟩) m s2)=some ⟨.val (.slice (some ⟨n,0,none⟩) m (z+1)),(n,.cells (cs.extract off (off+m*(z+1))) e (0,0))::H,n+1,[b],[]⟩:=by
    have q1:Lf zv.cells.size (z+1)=true:=by rw[i1];simp
    have q2:LI m maxLen=true:=LC h2;have q3:LI (m*i.bytes) 140737488355328=true:=LC (by rw[i3];exact h3);have q4:Ll 0 m=true:=LC h1;have q5:LI (off+m*(z+1)) cs.size=true:=LC h4;simp only[yE,eb,show Lf t t=true by simp,cond_true,Ue,hu,hinf,hz,i2,R8,mR,hb,q5,h5,q1,q2,q3,q4,Lv,Bool.and_self,TH,Option.toList,Array.empty_append]
   have e5:PK P F (XV T) o H n=some ⟨.val (.slice (some ⟨n,0,none⟩) m (z+1)),(n,.cells (cs.extract off (off+m*(z+1))) e (0,0))::H,n+1,[b],[]⟩:=by
    unfold PK tB;simp only[ho,hc,ha,hat,hs,hx,e4,List.all_cons,List.all_nil,show Ll b n=true from LC hn,Bool.and_self,cond_true]
   unfold aN;simp only[ho,e5]
end
theorem BQ{α:Type}{e:α->List Value}(h:∀x,(e x).all (·.oneCell')=true)(zs:List α)(i j:Nat):ones ((Qe e zs).extract i j)=true:=by
 unfold ones;rw[Array.all_eq_true'];intro v hv;have ZW:v∈(Qe e zs).toList:=by
  have:=Array.mem_def.1 hv;rw[Array.toList_extract,List.extract_eq_take_drop]at this;exact List.mem_of_mem_drop (List.mem_of_mem_take this)
 simp only[Qe,List.mem_flatMap]at ZW;obtain⟨x,_,hx⟩:=ZW;exact List.all_eq_true.1 (h x) v hx
theorem yU{v:Value}(h:simple v=true):v.oneCell'=true:=by
 cases v <;> first|rfl|(cases h;done)
theorem TU{α:Type}{e:α->List Value}{r:Nat}(hs:∀x,(e x).all simple=true)(xs:List α):(Qe e xs).map (Wb r)=Qe e xs/\((Qe e xs).all fun v=>simple v || WE v)=true/\ones (Qe e xs)=true:=by
 have h:∀v∈Qe e xs,simple v=true:=K5 fun x=>List.all_eq_true.1 (hs x)
 refine⟨?_,Array.all_eq_true'.2 fun v hv=>by rw[h v hv];rfl,Array.all_eq_true'.2 fun v hv=>yU (h v hv)⟩;apply Array.ext (by simp);intro i h1 h2;have hv:=h _ (Array.getElem_mem h2);simp[Wb,hv]
theorem dA{α:Type}{e:α->List Value}{z:Nat}(hz:∀x,(e x).length=z)(hs:∀x,(e x).all (·.oneCell')=true){xs:List α}{m:Nat}(hm:m=xs.length):0+m*z<=(Qe e xs).size/\ones ((Qe e xs).extract 0 (0+m*z))=true/\(Qe e xs).extract 0 (0+m*z)=Qe e xs:=by
 subst hm;refine⟨by rw[QZ hz];omega,BQ hs _ _ _, ?_⟩;rw[Lv,<-QZ (e:=e) (xs:=xs) hz];simp
theorem XC{α:Type}{e:α->List Value}{xs:List α}{x:α}{cs:Array Value}(h:cs=(e x).toArray):Qe e xs++cs=Qe e (xs++[x]):=by
 rw[h];exact XH
def Qj(fs:List Int)(k:Nat):Int:=fs.getD k 0
def yP(k:Nat)(x:Int):Nat->List Int->List Int
 |_,[]=>[]
 |j,f::l=>(if k=j then x else f)::yP k x (j+1) l
theorem dn(k:Nat)(x:Int):∀(l:List Int) (j:Nat),(yP k x j l).length=l.length
 |[],_=>rfl
 |_::l,j=>by simp[yP,dn k x l (j+1)]
theorem uf(k:Nat)(x:Int):∀(l:List Int) (j i:Nat),i<l.length->(yP k x j l)[i]? =some (if k=j+i then x else l.getD i 0)
 |[],_,_,h=>by simp at h
 |f::l,j,0,_=>by simp[yP]
 |f::l,j,i+1,h=>by
  have:=uf k x l (j+1) i (by simpa using h);simp only[yP,List.getElem?_cons_succ,this,List.getD_cons_succ];rw[show j+1+i=j+(i+1)by omega]
theorem tS{cs:Array Value}{fs:List Int}{off i:Nat}(h:(cs.toList.drop off).take fs.length=fs.map (Value.int .i64))(hi:i<fs.length):cs[off+i]? =some (.int .i64 (fs.getD i 0)):=by
 have e:((cs.toList.drop off).take fs.length)[i]? =(fs.map (Value.int .i64))[i]? :=by rw[h]
 rw[L6 hi,List.getElem?_drop,Lx,Lm]at e;rw[e];simp[Li,hi]
theorem TG{cs:Array Value}{fs:List Int}{off k:Nat}(h:(cs.toList.drop off).take fs.length=fs.map (Value.int .i64))(hk:k<fs.length):cs[off+k*1]? =some (.int .i64 (Qj fs k)):=by
 rw[Nat.mul_one];exact tS h hk
theorem DR{l:List Int}:ones (Qe Qy l)=true:=by
 unfold ones;rw[Array.all_eq_true'];intro v hv;have:=K5 (e:=Qy) (fun x v hv=>by simp[Qy]at hv;subst hv;rfl) v hv;cases v <;> first|rfl|cases this
theorem OA{cs:Array Value}{fs:List Int}{off m:Nat}(h:(cs.toList.drop off).take fs.length=fs.map (Value.int .i64))(hm:m<=fs.length)(h0:0<fs.length):off+m*1<=cs.size/\ones (cs.extract off (off+m*1))=true/\cs.extract off (off+m*1)=Qe Qy (fs.take m):=by
 have Zi:off+fs.length<=cs.size:=by
  have e:=tS h (i:=fs.length-1) (by omega);have:=(Array.getElem?_eq_some_iff.1 e).1;omega
 rw[Nat.mul_one];have e:cs.extract off (off+m)=Qe Qy (fs.take m):=by
  apply Array.ext';rw[Array.toList_extract,List.extract_eq_drop_take,show off+m-off=m by omega];have e2:(cs.toList.drop off).take m=((cs.toList.drop off).take fs.length).take m:=by rw[List.take_take,Nat.min_eq_left hm]
  rw[e2,h,<-List.map_take];induction fs.take m with
  |nil=>rfl
  |cons x l ih=>rw[List.map_cons,ih];rfl
 exact⟨by omega,by rw[e];exact DR,e⟩
theorem bf{cs:Array Value}{fs:List Int}{off k:Nat}(h:(cs.toList.drop off).take fs.length=fs.map (Value.int .i64))(hk:k<fs.length):cs.extract (off+k*1) (off+k*1+1)=#[.int .i64 (Qj fs k)]:=by
 have e:=TG h hk;have hs:=(Array.getElem?_eq_some_iff.1 e).1;refine Array.ext_getElem? fun i=> ?_
 rw[LX];by_cases hi:i=0
 ·subst hi;rw[if_pos (by omega),Nat.add_zero,e];rfl
 ·rw[if_neg (by omega),L5 (by simp;omega)]
theorem u5{l:List Int}{k:Nat}(h:l.length<=4):Qj [l.getD 0 0,l.getD 1 0,l.getD 2 0,l.getD 3 0] k=l.getD k 0:=by
 match k with
 |0=>rfl
 |1=>rfl
 |2=>rfl
 |3=>rfl
 |k+4=>
  have e:l.getD (k+4) 0=0:=by rw[Li,LA (by omega)];rfl
  rw[e];rfl
theorem iv{cs cs' vc:Array Value}{fs:List Int}{off k:Nat}{x:Int}(hv:vc=#[.int .i64 x])(h:(cs.toList.drop off).take fs.length=fs.map (Value.int .i64))(hk:k<fs.length)(hc:cs'.toList=cs.toList.take off++(yP k x 0 fs).map (Value.int .i64)++cs.toList.drop (off+fs.length)):
 off+k*1+1<=cs.size/\splice cs (off+k*1) vc=cs':=by
 subst hv;have Zi:off+fs.length<=cs.size:=by
  have e:=tS h (i:=fs.length-1) (by omega);have:=(Array.getElem?_eq_some_iff.1 e).1;omega
 rw[Nat.mul_one];refine⟨by omega,Array.ext_getElem? fun i=> ?_⟩;rw[Pg (by simp;omega),<-Lm (xs:=cs'),hc];have l1:(cs.toList.take off).length=off:=by simp;omega
 by_cases h1:i<off
 ·rw[if_neg (by simp;omega),List.append_assoc,Lz (by omega),L6 h1,Lm]
 ·rw[List.append_assoc,Lp (by omega),l1];by_cases h2:i-off<fs.length
  ·rw[Lz (by simp[dn];omega),Lx,uf k x fs 0 (i-off) h2];by_cases h3:i=off+k
   ·subst h3;rw[if_pos (by simp),if_pos (by omega)];simp
   ·rw[if_neg (by simp;omega),if_neg (by omega)];have e:=tS h h2;rw[show off+(i-off)=i by omega]at e;rw[e];rfl
  ·rw[if_neg (by simp;omega),Lp (by simp[dn];omega),List.getElem?_drop,List.length_map,dn,Lm];congr 1;omega
theorem Ma{xs:List Int}{cs cs':Array Value}{off k r m:Nat}{e:Int->List Value}(he:∀x,e x=[.int .i64 x])(hm:m=xs.length)(h0:0<m)(hk:m<=k)(h:(cs.toList.drop off).take k=Lu k (Value.int .i64 0))(hz:off+k<=cs.size)
 (hc:cs'.toList=cs.toList.take off++((Le k).map fun j=>Value.int .i64 (xs.getD j La))++cs.toList.drop (off+k)):
 0<m/\off+LW m k*1<=cs.size/\LW m k*1<=(Qe e xs).size/\((Qe e xs).all fun v=>simple v || WE v)=true/\ones (((Qe e xs).extract 0 (LW m k*1)).map (Wb r))=true/\splice cs off (((Qe e xs).extract 0 (LW m k*1)).map (Wb r))=cs':=by
 subst hm;have hmin:LW xs.length k*1=xs.length:=by rw[Nat.mul_one];exact Nat.min_eq_left hk
 have hrow:Qe e xs=(xs.map (Value.int .i64)).toArray:=by
  have:xs.flatMap e=xs.map (Value.int .i64):=by
   have:e=fun x=>[Value.int .i64 x]:=funext he
   rw[this];have h9:∀l:List Int,l.flatMap (fun x=>[Value.int .i64 x])=l.map (Value.int .i64):=fun l=>by
    induction l with
    |nil=>rfl
    |cons x l ih=>rw[LY,ih];rfl
   exact h9 xs
  unfold Qe;rw[this]
 have Zi:(Qe e xs).size=xs.length:=by rw[hrow];simp
 have hext:((Qe e xs).extract 0 (LW xs.length k*1)).map (Wb r)=(xs.map (Value.int .i64)).toArray:=by
  rw[hmin,hrow];apply Array.ext_getElem?;intro i;rw[Array.getElem?_map,LX];by_cases hi:i<xs.length
  ·rw[if_pos (by simp;omega)];simp[hi,Wb,simple]
  ·rw[if_neg (by simp;omega)];simp[hi]
 rw[hext,hmin,Zi];refine⟨h0,by omega,Lw _, ?_, ?_,Array.ext_getElem? fun i=> ?_⟩
 ·rw[hrow];simp[simple]
 ·simp[ones,Value.oneCell']
 ·rw[Pg (by simp;omega),<-Lm (xs:=cs'),hc];have l1:(cs.toList.take off).length=off:=by simp;omega
  by_cases h1:i<off
  ·rw[if_neg (by simp;omega),List.append_assoc,Lz (by omega),L6 h1,Lm]
  ·rw[List.append_assoc,Lp (by omega),l1];by_cases h2:i-off<k
   ·rw[Lz (by simp;omega),Lx,List.getElem?_range h2];by_cases h3:i-off<xs.length
    ·rw[if_pos (by simp;omega)];simp[h3,Li]
    ·rw[if_neg (by simp;omega)];have e2:((cs.toList.drop off).take k)[i-off]? =(Lu k (Value.int .i64 0))[i-off]? :=by rw[h]
     rw[L6 h2,List.getElem?_drop,show off+(i-off)=i by omega,Lm,List.getElem?_replicate,if_pos h2]at e2;rw[e2];simp[Li,LA (show xs.length<=i-off by omega)]
   ·rw[if_neg (by simp;omega),Lp (by simp;omega),List.getElem?_drop,Lm];congr 1;simp;omega
theorem FinK.wri{P:Program}{J:World->Prop}{g:FuncId}{args:Array Value}{c0:CF}{Hb ws:Qm}{a:Nat}{Wf:List Nat}{bs outs news:List Obj}{out:OO}(hc:Wi P g args=some c0)(e1:Hb=jv bs)(e2:a=bs.length+1)(e3:ws=QL 1 outs)(e4:Wf=Ly 1 bs.length)
 (h:∀B:Lo,(∀w,B.has w->J w)->FinK P B c0 Hb a out ws news Wf):WriC P J g args bs out outs news:=fun B hJ μ w args' cs Q7 hB hf hv=>by
 subst e1 e2 e3 e4;obtain⟨XW,w',μ',hp,ho,_,he⟩:=h B hJ μ w _ cs Q7 hB hf (U8 hc hv);rw[show bs.length+1+1+news.length=bs.length+2+news.length by omega]at hp;exact⟨XW,w',μ',hp,ho,he⟩
theorem ZK{α:Type}{e:α->List Value}{xs:List α}{z:Nat}[Inhabited α](h:∀x,(e x).length=z){k j:Nat}{v:Value}(hk:k<xs.length)(hv:(e (xs.getD k La))[j]? =some v):(Qe e xs)[0+k*z+j]? =some v:=by
 rw[Lv];exact Bb h hk hv
theorem cmR{α:Type}{e:α->List Value}{xs:List α}{m:Nat}{rs:List Nat}(h:∀x,(e x).all simple=true):QE m rs (Qe e xs) (Qe e xs):=RB (K5 fun x=>List.all_eq_true.1 (h x))
end Go.CE

namespace Go.Proofs.Ytncjjangllkokaa
open Go Go.CE Go.RowKit
noncomputable section
set_option maxRecDepth 100000
def Jq(x lo hi:Int):Bool:=decide (lo<=x) && decide (x<=hi)
theorem Rk{x lo hi:Int}:Jq x lo hi=true<->lo<=x/\x<=hi:=by simp[Jq]
structure Span where
 lo:Int
 hi:Int
deriving Inhabited
def QQ(s:Span):List Value:=[YI s.lo,YI s.hi]
abbrev Rw(xs:List Span):Value:=Xo xs.length (Qe QQ xs)
def WN(a b lo hi:Int):Bool:=decide (lo<=a) && (decide (a<=b) && decide (b<=hi))
theorem pJ{a b lo hi:Int}:WN a b lo hi=true<->lo<=a/\a<=b/\b<=hi:=by simp[WN]
theorem Qbt{α:Type}[Inhabited α]{l:List α}{i:Int}{p:α->Bool}(h0:0<=i)(h:i<l.length):(l.drop i.toNat).all p=(p (l.getD i.toNat La) && (l.drop (i+1).toNat).all p):=by
 obtain⟨k,rfl⟩:∃k:Nat,i=k:=⟨i.toNat,by omega⟩
 have hk:k<l.length:=by omega
 have e1:((k:Int)).toNat=k:=by omega
 have e2:((k:Int)+1).toNat=k+1:=by omega
 rw[e1,e2,List.drop_eq_getElem_cons hk,List.all_cons];simp[Li,hk]
theorem Qbs{α:Type}{l:List α}{i:Int}{p:α->Bool}(h:l.length<=i):(l.drop i.toNat).all p=true:=by
 rw[List.drop_eq_nil_of_le (by omega)];rfl
theorem B7{p:Int->Bool}{a b:Int}(h:(PQ a b).all p=true){k:Int}(h1:a<=k)(h2:k<b):p k=true:=by
 refine List.all_eq_true.1 h k ?_;unfold PQ;exact List.mem_map.2 ⟨(k-a).toNat,List.mem_range.2 (by omega),by omega⟩
def Ro{α β:Type}(f:α->β)(x0:β)(xs:List α)(i:Int):List β:=(xs.take i.toNat).map f++Lu (xs.length-i.toNat) x0
theorem gf{α β:Type}{f:α->β}{x0:β}{xs:List α}:Lu xs.length x0=Ro f x0 xs 0:=by simp[Ro]
theorem SD{α β:Type}{f:α->β}{x0:β}{xs:List α}{i:Int}:(Ro f x0 xs i).length=xs.length:=by simp[Ro];omega
theorem SC{α β:Type}[Inhabited α]{f:α->β}{x0:β}{xs:List α}{i:Int}(h0:0<=i)(h:i<xs.length):(Ro f x0 xs i).set i.toNat (f (xs.getD i.toNat La))=Ro f x0 xs (i+1):=by
 obtain⟨k,rfl⟩:∃k:Nat,i=k:=⟨i.toNat,by omega⟩
 have hk:k<xs.length:=by omega
 have e1:((k:Int)).toNat=k:=by omega
 have e2:((k:Int)+1).toNat=k+1:=by omega
 unfold Ro;rw[e1,e2];have hl:((xs.take k).map f).length=k:=by simp;omega
 rw[List.set_append_right _ _ (by omega),hl,Nat.sub_self];have er:xs.length-k=(xs.length-(k+1))+1:=by omega
 rw[er,List.replicate_succ,List.set_cons_zero];have et:xs.take (k+1)=xs.take k++[xs[k]]:=by rw[List.take_succ_eq_append_getElem hk]
 rw[et,List.map_append,List.append_assoc];simp[Li,hk]
theorem SF{α β:Type}{f:α->β}{x0:β}{xs:List α}{i:Int}(h:xs.length<=i):Ro f x0 xs i=xs.map f:=by
 unfold Ro;rw[List.take_of_length_le (by omega),show xs.length-i.toNat=0 by omega];simp
theorem bo{β:Type}{e:β->List Value}{ys zs:List β}{n:Nat}(h:ys=zs)(hn:n=zs.length):Xo n (Qe e ys)=Xo zs.length (Qe e zs):=by subst h hn;rfl
def uo:List Int->Int
 |[]=>0
 |x::l=>x+uo l
def yV(B:Lo)(x lo hi:Int):List Prop:=[(!XB x lo)=true]++([]:List Prop)
def ES(x lo hi:Int):QA:=[(3,Wj)]
theorem Qat(B:Lo)(x lo hi:Int):Xv (Qn YP (Q0 YP) J0 B 6 1 (Qu YP 55 15 (([YI x,YI lo,YI hi]).map (Q4 0 4))) Zd 1
 (ES x lo hi++[(7,Wj)]) 0 [] []) []=some (.bool true,
 [(!XB hi x)=true]++yV B x lo hi):=by kernel_rfl
theorem Qas(B:Lo)(x lo hi:Int):Xv (Qn YP (Q0 YP) J0 B 6 1 (Qu YP 55 15 (([YI x,YI lo,YI hi]).map (Q4 0 4))) Zd 1
 (ES x lo hi++[(7,WC)]) 0 [] []) []=some (.bool false,
 [(!XB hi x)=false]++yV B x lo hi):=by kernel_rfl
theorem Qar(B:Lo)(x lo hi:Int):Xv (Qn YP (Q0 YP) J0 B 6 1 (Qu YP 55 15 (([YI x,YI lo,YI hi]).map (Q4 0 4))) Zd 1
 [(3,WC)] 0 [] []) []=some (.bool false,
 [(!XB x lo)=false]):=by kernel_rfl
set_option maxHeartbeats 4000000 in
theorem Qb3(x lo hi:Int)  {B:Lo}(hJ:∀w,B.has w->J0 w):EndsT YP B (Qu YP 55 15 (([YI x,YI lo,YI hi]).map (Q4 0 4))) (.bool (Jq x lo hi)):=by
 by_cases q0:(lo:Int)<=(x)
 ·have VO:Qz (yV B x lo hi):=by
   exact⟨(VZ q0),trivial⟩
  by_cases q1:(x:Int)<=(hi)
  ·exact(GoE.eT GoE.start (Qat B x lo hi)
    ⟨(VZ q1),VO⟩).cast (by(simp[Jq, *];done))
  ·exact(GoE.eT GoE.start (Qas B x lo hi)
    ⟨(Ua (Int.not_le.1 q1)),VO⟩).cast (by(simp[Jq, *];done))
 ·exact(GoE.eT GoE.start (Qar B x lo hi)
   ⟨(Ua (Int.not_le.1 q0)),trivial⟩).cast (by(simp[Jq, *];done))
theorem ua(x lo hi:Int)  :Qv YP J0 55 #[YI x,YI lo,YI hi] (.bool (Jq x lo hi)):=
 Xd (ts:=[YI x,YI lo,YI hi]) Zc (c0:=Qu YP 55 15 (([YI x,YI lo,YI hi]).map (Q4 0 4))) (by kernel_rfl) (by kernel_rfl) fun B hJ=>Qb3 x lo hi  hJ
section
variable (B:Lo)(a b ZV:Int)
def kY(B:Lo)(a b ZV:Int):List Prop:=[(!XB a 0)=true]++([]:List Prop)
def uG(a b ZV:Int):QA:=[(4,Wj)]
def kX:List Prop:=[(!XB b a)=true]++kY B a b ZV
def uF:QA:=uG a b ZV++[(10,Wj)]
theorem EY:Xv (Qn YP (Q0 YP) J0 B 6 1 (Qu YP 56 21 (([.agg #[YI a,YI b],YI ZV]).map (Q4 0 4))) Zd 1
 (uF a b ZV++[(16,Wj)]) 0 [] []) []=some (.bool true,
 [(!XB ZV b)=true]++kX B a b ZV):=by kernel_rfl
theorem EX:Xv (Qn YP (Q0 YP) J0 B 6 1 (Qu YP 56 21 (([.agg #[YI a,YI b],YI ZV]).map (Q4 0 4))) Zd 1
 (uF a b ZV++[(16,WC)]) 0 [] []) []=some (.bool false,
 [(!XB ZV b)=false]++kX B a b ZV):=by kernel_rfl
theorem EW:Xv (Qn YP (Q0 YP) J0 B 6 1 (Qu YP 56 21 (([.agg #[YI a,YI b],YI ZV]).map (Q4 0 4))) Zd 1
 (uG a b ZV++[(10,WC)]) 0 [] []) []=some (.bool false,
 [(!XB b a)=false]++kY B a b ZV):=by kernel_rfl
theorem EV:Xv (Qn YP (Q0 YP) J0 B 6 1 (Qu YP 56 21 (([.agg #[YI a,YI b],YI ZV]).map (Q4 0 4))) Zd 1
 [(4,WC)] 0 [] []) []=some (.bool false,
 [(!XB a 0)=false]):=by kernel_rfl
end
set_option maxHeartbeats 4000000 in
theorem MB(a b ZV:Int)  {B:Lo}(hJ:∀w,B.has w->J0 w):EndsT YP B (Qu YP 56 21 (([.agg #[YI a,YI b],YI ZV]).map (Q4 0 4))) (.bool (WN a b 0 ZV)):=by
 by_cases q0:(0:Int)<=(a)
 ·have VO:Qz (kY B a b ZV):=by
   exact⟨(VZ q0),trivial⟩
  by_cases q1:(a:Int)<=(b)
  ·have hp1:Qz (kX B a b ZV):=by
    exact⟨(VZ q1),VO⟩
   by_cases q2:(b:Int)<=(ZV)
   ·exact(GoE.eT GoE.start (EY B a b ZV)
     ⟨(VZ q2),hp1⟩).cast (by(simp[WN, *];done))
   ·exact(GoE.eT GoE.start (EX B a b ZV)
     ⟨(Ua (Int.not_le.1 q2)),hp1⟩).cast (by(simp[WN, *];done))
  ·exact(GoE.eT GoE.start (EW B a b ZV)
    ⟨(Ua (Int.not_le.1 q1)),VO⟩).cast (by(simp[WN, *];done))
 ·exact(GoE.eT GoE.start (EV B a b ZV)
   ⟨(Ua (Int.not_le.1 q0)),trivial⟩).cast (by(simp[WN, *];done))
theorem pO(a b ZV:Int)  :Qv YP J0 56 #[.agg #[YI a,YI b],YI ZV] (.bool (WN a b 0 ZV)):=
 Xd (ts:=[.agg #[YI a,YI b],YI ZV]) Zc (c0:=Qu YP 56 21 (([.agg #[YI a,YI b],YI ZV]).map (Q4 0 4))) (by kernel_rfl) (by kernel_rfl) fun B hJ=>MB a b ZV  hJ
def zK(B:Lo)(n lo hi:Int):List Prop:=[(!XB n lo)=true]++([]:List Prop)
def HM(n lo hi:Int):QA:=[(3,Wj)]
theorem QaK(B:Lo)(n lo hi:Int):Xv (Qn YP (Q0 YP) J0 B 6 1 (Qu YP 72 15 (([YI n,YI lo,YI hi]).map (Q4 0 4))) Zd 1
 (HM n lo hi++[(7,Wj)]) 0 [] []) []=some (.bool true,
 [(!XB hi n)=true]++zK B n lo hi):=by kernel_rfl
theorem QaJ(B:Lo)(n lo hi:Int):Xv (Qn YP (Q0 YP) J0 B 6 1 (Qu YP 72 15 (([YI n,YI lo,YI hi]).map (Q4 0 4))) Zd 1
 (HM n lo hi++[(7,WC)]) 0 [] []) []=some (.bool false,
 [(!XB hi n)=false]++zK B n lo hi):=by kernel_rfl
theorem QaI(B:Lo)(n lo hi:Int):Xv (Qn YP (Q0 YP) J0 B 6 1 (Qu YP 72 15 (([YI n,YI lo,YI hi]).map (Q4 0 4))) Zd 1
 [(3,WC)] 0 [] []) []=some (.bool false,
 [(!XB n lo)=false]):=by kernel_rfl
set_option maxHeartbeats 4000000 in
theorem QbI(n lo hi:Int)  {B:Lo}(hJ:∀w,B.has w->J0 w):EndsT YP B (Qu YP 72 15 (([YI n,YI lo,YI hi]).map (Q4 0 4))) (.bool (Jq n lo hi)):=by
 by_cases q0:(lo:Int)<=(n)
 ·have VO:Qz (zK B n lo hi):=by
   exact⟨(VZ q0),trivial⟩
  by_cases q1:(n:Int)<=(hi)
  ·exact(GoE.eT GoE.start (QaK B n lo hi)
    ⟨(VZ q1),VO⟩).cast (by(simp[Jq, *];done))
  ·exact(GoE.eT GoE.start (QaJ B n lo hi)
    ⟨(Ua (Int.not_le.1 q1)),VO⟩).cast (by(simp[Jq, *];done))
 ·exact(GoE.eT GoE.start (QaI B n lo hi)
   ⟨(Ua (Int.not_le.1 q0)),trivial⟩).cast (by(simp[Jq, *];done))
theorem Bk(n lo hi:Int)  :Qv YP J0 72 #[YI n,YI lo,YI hi] (.bool (Jq n lo hi)):=
 Xd (ts:=[YI n,YI lo,YI hi]) Zc (c0:=Qu YP 72 15 (([YI n,YI lo,YI hi]).map (Q4 0 4))) (by kernel_rfl) (by kernel_rfl) fun B hJ=>QbI n lo hi  hJ
section
variable (B:Lo)(c0:CF)(xs:List Int)(lo hi i:Int)(Ql:Nat->Value)
end
section
variable (B:Lo)(a b lo hi:Int)
def Tu(B:Lo)(a b lo hi:Int):List Prop:=[(!XB a lo)=true]++([]:List Prop)
def fg(a b lo hi:Int):QA:=[(5,Wj)]
def Tt:List Prop:=[(!XB b a)=true]++Tu B a b lo hi
def ff:QA:=fg a b lo hi++[(11,Wj)]
theorem s7:Xv (Qn YP (Q0 YP) J0 B 6 1 (Qu YP 114 24 (([.agg #[YI a,YI b],YI lo,YI hi]).map (Q4 0 4))) Zd 1
 (ff a b lo hi++[(17,Wj)]) 0 [] []) []=some (.bool true,
 [(!XB hi b)=true]++Tt B a b lo hi):=by kernel_rfl
theorem s6:Xv (Qn YP (Q0 YP) J0 B 6 1 (Qu YP 114 24 (([.agg #[YI a,YI b],YI lo,YI hi]).map (Q4 0 4))) Zd 1
 (ff a b lo hi++[(17,WC)]) 0 [] []) []=some (.bool false,
 [(!XB hi b)=false]++Tt B a b lo hi):=by kernel_rfl
theorem s5:Xv (Qn YP (Q0 YP) J0 B 6 1 (Qu YP 114 24 (([.agg #[YI a,YI b],YI lo,YI hi]).map (Q4 0 4))) Zd 1
 (fg a b lo hi++[(11,WC)]) 0 [] []) []=some (.bool false,
 [(!XB b a)=false]++Tu B a b lo hi):=by kernel_rfl
theorem sy:Xv (Qn YP (Q0 YP) J0 B 6 1 (Qu YP 114 24 (([.agg #[YI a,YI b],YI lo,YI hi]).map (Q4 0 4))) Zd 1
 [(5,WC)] 0 [] []) []=some (.bool false,
 [(!XB a lo)=false]):=by kernel_rfl
end
set_option maxHeartbeats 4000000 in
theorem wy(a b lo hi:Int)  {B:Lo}(hJ:∀w,B.has w->J0 w):EndsT YP B (Qu YP 114 24 (([.agg #[YI a,YI b],YI lo,YI hi]).map (Q4 0 4))) (.bool (WN a b lo hi)):=by
 by_cases q0:(lo:Int)<=(a)
 ·have VO:Qz (Tu B a b lo hi):=by
   exact⟨(VZ q0),trivial⟩
  by_cases q1:(a:Int)<=(b)
  ·have hp1:Qz (Tt B a b lo hi):=by
    exact⟨(VZ q1),VO⟩
   by_cases q2:(b:Int)<=(hi)
   ·exact(GoE.eT GoE.start (s7 B a b lo hi)
     ⟨(VZ q2),hp1⟩).cast (by(simp[WN, *];done))
   ·exact(GoE.eT GoE.start (s6 B a b lo hi)
     ⟨(Ua (Int.not_le.1 q2)),hp1⟩).cast (by(simp[WN, *];done))
  ·exact(GoE.eT GoE.start (s5 B a b lo hi)
    ⟨(Ua (Int.not_le.1 q1)),VO⟩).cast (by(simp[WN, *];done))
 ·exact(GoE.eT GoE.start (sy B a b lo hi)
   ⟨(Ua (Int.not_le.1 q0)),trivial⟩).cast (by(simp[WN, *];done))
theorem qJ(a b lo hi:Int)  :Qv YP J0 114 #[.agg #[YI a,YI b],YI lo,YI hi] (.bool (WN a b lo hi)):=
 Xd (ts:=[.agg #[YI a,YI b],YI lo,YI hi]) Zc (c0:=Qu YP 114 24 (([.agg #[YI a,YI b],YI lo,YI hi]).map (Q4 0 4))) (by kernel_rfl) (by kernel_rfl) fun B hJ=>wy a b lo hi  hJ
def mM(a b ZV:Int):Array Value:=#[.agg #[YI a,YI b],YI 0,YI ZV]
theorem zJ(B:Lo)(a b ZV:Int):Xv (Qn YP (Q0 YP) J0 B 6 1 (Qu YP 96 8 (([.agg #[YI a,YI b],YI ZV]).map (Q4 0 4))) Zd 1
 [(4,Qf.pure (.bool true) [])] 0 [] []) []=some (.bool true,
 [Qz []/\Qv YP J0 114 (mM a b ZV) (.bool true)]):=by kernel_rfl
theorem zI(B:Lo)(a b ZV:Int):Xv (Qn YP (Q0 YP) J0 B 6 1 (Qu YP 96 8 (([.agg #[YI a,YI b],YI ZV]).map (Q4 0 4))) Zd 1
 [(4,Qf.pure (.bool false) [])] 0 [] []) []=some (.bool false,
 [Qz []/\Qv YP J0 114 (mM a b ZV) (.bool false)]):=by kernel_rfl
set_option maxHeartbeats 4000000 in
theorem Dy(a b ZV:Int)  {B:Lo}(hJ:∀w,B.has w->J0 w):EndsT YP B (Qu YP 96 8 (([.agg #[YI a,YI b],YI ZV]).map (Q4 0 4))) (.bool (WN a b 0 ZV)):=by
 cases q0:WN a b 0 ZV with
 |true=>
  exact(GoE.eT GoE.start (zJ B a b ZV)
   ⟨⟨trivial,(dB (qJ (a) (b) (0) (ZV)) q0)⟩,trivial⟩).cR
 |false=>
  exact(GoE.eT GoE.start (zI B a b ZV)
   ⟨⟨trivial,(dB (qJ (a) (b) (0) (ZV)) q0)⟩,trivial⟩).cR
theorem bT(a b ZV:Int)  :Qv YP J0 96 #[.agg #[YI a,YI b],YI ZV] (.bool (WN a b 0 ZV)):=
 Xd (ts:=[.agg #[YI a,YI b],YI ZV]) Zc (c0:=Qu YP 96 8 (([.agg #[YI a,YI b],YI ZV]).map (Q4 0 4))) (by kernel_rfl) (by kernel_rfl) fun B hJ=>Dy a b ZV  hJ
theorem HN(B:Lo)(a b:Int):Xv (Qn YP (Q0 YP) J0 B 6 1 (Qu YP 77 5 (([.agg #[YI a,YI b]]).map (Q4 0 4))) Zd 1
 [] 0 [] []) []=some (YI b,
 []):=by kernel_rfl
set_option maxHeartbeats 4000000 in
theorem NG(a b:Int)  {B:Lo}(hJ:∀w,B.has w->J0 w):EndsT YP B (Qu YP 77 5 (([.agg #[YI a,YI b]]).map (Q4 0 4))) (YI b):=by
 exact(GoE.eT GoE.start (HN B a b)
  trivial).cR
theorem QbJ(a b:Int)  :Qv YP J0 77 #[.agg #[YI a,YI b]] (YI b):=
 Xd (ts:=[.agg #[YI a,YI b]]) Zc (c0:=Qu YP 77 5 (([.agg #[YI a,YI b]]).map (Q4 0 4))) (by kernel_rfl) (by kernel_rfl) fun B hJ=>NG a b  hJ
theorem NF(B:Lo)(a b:Int):Xv (Qn YP (Q0 YP) J0 B 6 1 (Qu YP 76 5 (([.agg #[YI a,YI b]]).map (Q4 0 4))) Zd 1
 [] 0 [] []) []=some (YI a,
 []):=by kernel_rfl
set_option maxHeartbeats 4000000 in
theorem QaH(a b:Int)  {B:Lo}(hJ:∀w,B.has w->J0 w):EndsT YP B (Qu YP 76 5 (([.agg #[YI a,YI b]]).map (Q4 0 4))) (YI a):=by
 exact(GoE.eT GoE.start (NF B a b)
  trivial).cR
theorem Qcs(a b:Int)  :Qv YP J0 76 #[.agg #[YI a,YI b]] (YI a):=
 Xd (ts:=[.agg #[YI a,YI b]]) Zc (c0:=Qu YP 76 5 (([.agg #[YI a,YI b]]).map (Q4 0 4))) (by kernel_rfl) (by kernel_rfl) fun B hJ=>QaH a b  hJ
theorem HK(B:Lo)(a r:Int):let b:=Lc (a*r) 1000;Xv (Qn YP (Q0 YP) J0 B 6 1 (Qu YP 115 9 (([YI a,YI r]).map (Q4 0 4))) Zd 1
 [(3,Zu (a*r)),(4,Zu b)] 0 [] []) []=some (YI b,
 [IntKind.wrap .i64 b=Lc (a*r) 1000,wq (a*r)=a*r]):=by intro b;kernel_rfl
set_option maxHeartbeats 4000000 in
theorem ND(a r:Int)(ha:0<=a/\a<=1000000000000)(hr:0<=r/\r<=1000000){B:Lo}(hJ:∀w,B.has w->J0 w):EndsT YP B (Qu YP 115 9 (([YI a,YI r]).map (Q4 0 4))) (YI ((a*r).tdiv 1000)):=by
 have e0:0<=a*r:=Int.mul_nonneg ha.1 hr.1;have e1:a*r<=1000000000000*1000000:=Int.mul_le_mul ha.2 hr.2 hr.1 (by omega);have e2:(a*r).tdiv 1000=(a*r) / 1000:=L4 e0;exact(GoE.eT GoE.start (HK B a r)
  ⟨(PX (by omega) (by omega)),⟨wI,trivial⟩⟩).cR
theorem HL(a r:Int)(ha:0<=a/\a<=1000000000000)(hr:0<=r/\r<=1000000):Qv YP J0 115 #[YI a,YI r] (YI ((a*r).tdiv 1000)):=
 Xd (ts:=[YI a,YI r]) Zc (c0:=Qu YP 115 9 (([YI a,YI r]).map (Q4 0 4))) (by kernel_rfl) (by kernel_rfl) fun B hJ=>ND a r ha hr hJ
section
variable (B:Lo)(c0:CF)(xs:List Int)(acc i:Int)(Ql:Nat->Value)
end
theorem pt(B:Lo)(a r:Int):let c:=YI (Lc (a*r) 1000);let b:=a+Lc (a*r) 1000;Xv (Qn YP (Q0 YP) J0 B 6 1 (Qu YP 100 10 (([YI a,YI r]).map (Q4 0 4))) Zd 1
 [(4,Qf.pure c []),(5,Zu b)] 0 [] []) []=some (YI b,
 [wq b=a+Lc (a*r) 1000,Qz []/\Qv YP J0 115 #[YI a,YI r] c]):=by intro c b;kernel_rfl
set_option maxHeartbeats 4000000 in
theorem sf(a r:Int)(ha:0<=a/\a<=1000000000000)(hr:0<=r/\r<=1000000){B:Lo}(hJ:∀w,B.has w->J0 w):EndsT YP B (Qu YP 100 10 (([YI a,YI r]).map (Q4 0 4))) (YI (a+(a*r).tdiv 1000)):=by
 have e0:0<=a*r:=Int.mul_nonneg ha.1 hr.1;have e1:a*r<=1000000000000*1000000:=Int.mul_le_mul ha.2 hr.2 hr.1 (by omega);have e2:(a*r).tdiv 1000=(a*r) / 1000:=L4 e0;exact(GoE.eT GoE.start (pt B a r)
  ⟨wI,⟨⟨trivial,HL (a) (r) ‹_› ‹_›⟩,trivial⟩⟩).cR
theorem zu(a r:Int)(ha:0<=a/\a<=1000000000000)(hr:0<=r/\r<=1000000):Qv YP J0 100 #[YI a,YI r] (YI (a+(a*r).tdiv 1000)):=
 Xd (ts:=[YI a,YI r]) Zc (c0:=Qu YP 100 10 (([YI a,YI r]).map (Q4 0 4))) (by kernel_rfl) (by kernel_rfl) fun B hJ=>sf a r ha hr hJ
def iZ(n:Int):Array Value:=#[YI n,YI 0,YI 1000000]
theorem wx(B:Lo)(n:Int):Xv (Qn YP (Q0 YP) J0 B 6 1 (Qu YP 95 5 (([YI n]).map (Q4 0 4))) Zd 1
 [(2,Qf.pure (.bool true) [])] 0 [] []) []=some (.bool true,
 [Qz []/\Qv YP J0 72 (iZ n) (.bool true)]):=by kernel_rfl
theorem wv(B:Lo)(n:Int):Xv (Qn YP (Q0 YP) J0 B 6 1 (Qu YP 95 5 (([YI n]).map (Q4 0 4))) Zd 1
 [(2,Qf.pure (.bool false) [])] 0 [] []) []=some (.bool false,
 [Qz []/\Qv YP J0 72 (iZ n) (.bool false)]):=by kernel_rfl
set_option maxHeartbeats 4000000 in
theorem zH(n:Int)  {B:Lo}(hJ:∀w,B.has w->J0 w):EndsT YP B (Qu YP 95 5 (([YI n]).map (Q4 0 4))) (.bool (Jq n 0 1000000)):=by
 cases q0:Jq n 0 1000000 with
 |true=>
  exact(GoE.eT GoE.start (wx B n)
   ⟨⟨trivial,(dB (Bk (n) (0) (1000000)) q0)⟩,trivial⟩).cR
 |false=>
  exact(GoE.eT GoE.start (wv B n)
   ⟨⟨trivial,(dB (Bk (n) (0) (1000000)) q0)⟩,trivial⟩).cR
theorem St(n:Int)  :Qv YP J0 95 #[YI n] (.bool (Jq n 0 1000000)):=
 Xd (ts:=[YI n]) Zc (c0:=Qu YP 95 5 (([YI n]).map (Q4 0 4))) (by kernel_rfl) (by kernel_rfl) fun B hJ=>zH n  hJ
end
end Go.Proofs.Ytncjjangllkokaa

namespace Go.Proofs.Ytncjjangllkokaa
open Go Go.CE Go.RowKit
noncomputable section
set_option maxRecDepth 100000
structure Qd where
 count:Int
 room:Int
 UR:Int
 US:Int
 QI:Int
 Xw:Int
 VB:Int
 VC:Int
 Vr:Int
 Vs:Int
 goal:Int
 XF:Int
deriving Inhabited
structure Qc where
 Qa:List Qd
 Qh:Int
 Qb:Int
deriving Inhabited
structure XA where
 Qi:List Int
 Qp:List (List Int)
 Qx:List (List Int)
deriving Inhabited
def Qt(c:Qd):List Value:=[YI c.count,YI c.room,YI c.UR,YI c.US,YI c.QI,YI c.Xw,YI c.VB,YI c.VC,YI c.Vr,YI c.Vs,YI c.goal,YI c.XF]
abbrev Xp(xs:List Qd):Value:=Xo xs.length (Qe Qt xs)
def Q1(r:Qc):List Value:=[Xp r.Qa,YI r.Qh,YI r.Qb]
def Zn(x:Qd):Bool:=Jq x.count 0 1000000 && (Jq x.room 0 1000000 && (Jq x.goal 0 1000000 && (Jq x.XF 0 1000000 && (WN x.UR x.US 0 2000 && (Jq x.QI 0 1000 && (WN x.VB x.VC 0 1000000 && (WN x.Vr x.Vs 0 1000000 && (decide (x.Vr<=x.VB) && decide (x.Vs<=x.VC)))))))))
def JA(n v:Int):Bool:=decide (v= -1) || Jq v 0 (n-1)
theorem Oi{n v:Int}(h:0<=n):Jq v (-1) (n-1)=JA n v:=by
 unfold JA Jq;by_cases e:v= -1
 ·subst e;simp;omega
 ·simp[e];by_cases h1:0<=v
  ·simp[h1];omega
  ·have:¬(-1<=v):=by omega
   simp[this,h1]
def ZJ(n i:Int)(x:Qd):Bool:=Zn x && (JA n x.Xw && !decide (x.Xw=i))
def Rh(ps:List Qd)(i:Int):Bool:=(PQ i ps.length).all fun k=>ZJ ps.length k (ps.getD k.toNat La)
def Ph(r:Qc):Bool:=Jq r.Qa.length 1 4 && (Jq r.Qh 0 2000 && Jq r.Qb 1 4)
def Zo(r:Qc):Bool:=Ph r && Rh r.Qa 0
def XJ(r:Qc)(plan:List Int):Bool:=decide (plan.length=r.Qb) && plan.all fun x=>Jq x 0 (((XR r.Qa.length:Nat):Int)-1)
theorem XG{ps:List Qd}{i:Int}(h:i<ps.length):Rh ps i=(ZJ ps.length i (ps.getD i.toNat La) && Rh ps (i+1)):=by
 unfold Rh;rw[E6 h,List.all_cons]
theorem Yy{ps:List Qd}{i:Int}(h:ps.length<=i):Rh ps i=true:=by
 unfold Rh;rw[AS h];rfl
theorem vC{x:Qd}(h:Zn x=true):(0<=x.count/\x.count<=1000000)/\(0<=x.room/\x.room<=1000000)/\(0<=x.goal/\x.goal<=1000000)/\(0<=x.XF/\x.XF<=1000000)/\(0<=x.UR/\x.UR<=x.US/\x.US<=2000)/\(0<=x.QI/\x.QI<=1000)/\(0<=x.VB/\x.VB<=x.VC/\x.VC<=1000000)/\(0<=x.Vr/\x.Vr<=x.Vs/\x.Vs<=1000000)/\x.Vr<=x.VB/\x.Vs<=x.VC:=by
 simp only[Zn,YB,Rk,pJ,decide_eq_true_iff]at h;omega
theorem Q2{r:Qc}(h:Ph r=true):(1<=r.Qa.length/\r.Qa.length<=4)/\(0<=r.Qh/\r.Qh<=2000)/\(1<=r.Qb/\r.Qb<=4):=by
 simp only[Ph,YB,Rk]at h;omega
theorem Zm{r:Qc}(h:Zo r=true):Ph r=true/\∀k:Int,0<=k->k<r.Qa.length->Zn (r.Qa.getD k.toNat La)=true/\JA r.Qa.length (r.Qa.getD k.toNat La).Xw=true/\(r.Qa.getD k.toNat La).Xw≠k:=by
 simp only[Zo,YB]at h;refine⟨h.1,fun k h0 h1=> ?_⟩;have:=B7 h.2 h0 h1;simp only[ZJ,YB,Bool.not_eq_true',decide_eq_false_iff_not]at this;exact⟨this.1,this.2.1,this.2.2⟩
def gY(x:Qd):Bool:=Jq x.count 0 1000000 && (Jq x.room 0 1000000 && (Jq x.goal 0 1000000 && (Jq x.XF 0 1000000 && (WN x.UR x.US 0 2000 && (Jq x.QI 0 1000 && (WN x.VB x.VC 0 1000000 && WN x.Vr x.Vs 0 1000000))))))
def X4(r:Qc):Bool:=Ph r && (PQ 0 r.Qa.length).all fun k=>gY (r.Qa.getD k.toNat La) && (JA r.Qa.length (r.Qa.getD k.toNat La).Xw && !decide ((r.Qa.getD k.toNat La).Xw=k))
theorem Nw{x:Qd}(h:Zn x=true):gY x=true:=by
 simp only[Zn,gY,YB]at h ⊢;exact⟨h.1,h.2.1,h.2.2.1,h.2.2.2.1,h.2.2.2.2.1,h.2.2.2.2.2.1,h.2.2.2.2.2.2.1,h.2.2.2.2.2.2.2.1⟩
theorem Ys{r:Qc}(h:Zo r=true):X4 r=true:=by
 obtain⟨h1,h2⟩:=Zm h;unfold X4;rw[YB];refine⟨h1,List.all_eq_true.2 fun k hk=> ?_⟩;unfold PQ at hk;obtain⟨m,hm,rfl⟩:=List.mem_map.1 hk;have hm':=List.mem_range.1 hm;have:=h2 (0+(m:Int)) (by omega) (by omega);simp only[YB,Bool.not_eq_true',decide_eq_false_iff_not];exact⟨Nw this.1,this.2.1,this.2.2⟩
theorem Zg{x:Qd}(h:gY x=true):(0<=x.count/\x.count<=1000000)/\(0<=x.room/\x.room<=1000000)/\(0<=x.goal/\x.goal<=1000000)/\(0<=x.XF/\x.XF<=1000000)/\(0<=x.UR/\x.UR<=x.US/\x.US<=2000)/\(0<=x.QI/\x.QI<=1000)/\(0<=x.VB/\x.VB<=x.VC/\x.VC<=1000000)/\(0<=x.Vr/\x.Vr<=x.Vs/\x.Vs<=1000000)/\True:=by
 simp only[gY,YB,Rk,pJ]at h;simp only[and_true];omega
theorem Qw{r:Qc}(h:X4 r=true):Ph r=true/\∀k:Int,0<=k->k<r.Qa.length->gY (r.Qa.getD k.toNat La)=true/\JA r.Qa.length (r.Qa.getD k.toNat La).Xw=true/\(r.Qa.getD k.toNat La).Xw≠k:=by
 simp only[X4,YB]at h;refine⟨h.1,fun k h0 h1=> ?_⟩;have:=B7 h.2 h0 h1;simp only[YB,Bool.not_eq_true',decide_eq_false_iff_not]at this;exact⟨this.1,this.2.1,this.2.2⟩
instance {r:Qc}:Coe (Zo r=true) (X4 r=true):=⟨Ys⟩
section
variable (B:Lo)(x:Qd)
def iN:Array Value:=#[.agg #[YI x.VB,YI x.VC],YI 1000000]
def iM:Array Value:=#[.agg #[YI x.Vr,YI x.Vs],YI 1000000]
def iL:Array Value:=#[.agg #[YI x.UR,YI x.US],YI 2000]
def iK:Array Value:=#[YI x.XF,YI 0,YI 1000000]
def iJ:Array Value:=#[YI x.QI,YI 0,YI 1000]
def aB(B:Lo)(x:Qd):List Prop:=[Qz []/\Qv YP J0 95 #[YI x.count] (.bool true)]++([]:List Prop)
def iW(x:Qd):QA:=[(4,Qf.pure (.bool true) [])]
def aA:List Prop:=[Qz []/\Qv YP J0 95 #[YI x.room] (.bool true)]++aB B x
def iV:QA:=iW x++[(8,Qf.pure (.bool true) [])]
def a9:List Prop:=[Qz []/\Qv YP J0 95 #[YI x.goal] (.bool true)]++aA B x
def iU:QA:=iV x++[(13,Qf.pure (.bool true) [])]
def a8:List Prop:=[Qz []/\Qv YP J0 72 (iK x) (.bool true)]++a9 B x
def iT:QA:=iU x++[(18,Qf.pure (.bool true) [])]
def a6:List Prop:=[Qz []/\Qv YP J0 96 (iL x) (.bool true)]++a8 B x
def iS:QA:=iT x++[(23,Qf.pure (.bool true) [])]
def az:List Prop:=[Qz []/\Qv YP J0 72 (iJ x) (.bool true)]++a6 B x
def iR:QA:=iS x++[(28,Qf.pure (.bool true) [])]
def ay:List Prop:=[Qz []/\Qv YP J0 96 (iN x) (.bool true)]++az B x
def iQ:QA:=iR x++[(33,Qf.pure (.bool true) [])]
def ax:List Prop:=[Qz []/\Qv YP J0 96 (iM x) (.bool true)]++ay B x
def iP:QA:=iQ x++[(38,Qf.pure (.bool true) [])]
def aw:List Prop:=[(!XB x.VB x.Vr)=true]++ax B x
def iO:QA:=iP x++[(47,Wj)]
theorem vN:Xv (Qn YP (Q0 YP) J0 B 6 1 (Qu YP 73 59 (([.agg (Qt x).toArray]).map (Q4 0 4))) Zd 1
 (iO x++[(56,Wj)]) 0 [] []) []=some (.bool true,
 [(!XB x.VC x.Vs)=true]++aw B x):=by kernel_rfl
theorem vM:Xv (Qn YP (Q0 YP) J0 B 6 1 (Qu YP 73 59 (([.agg (Qt x).toArray]).map (Q4 0 4))) Zd 1
 (iO x++[(56,WC)]) 0 [] []) []=some (.bool false,
 [(!XB x.VC x.Vs)=false]++aw B x):=by kernel_rfl
theorem vL:Xv (Qn YP (Q0 YP) J0 B 6 1 (Qu YP 73 59 (([.agg (Qt x).toArray]).map (Q4 0 4))) Zd 1
 (iP x++[(47,WC)]) 0 [] []) []=some (.bool false,
 [(!XB x.VB x.Vr)=false]++ax B x):=by kernel_rfl
theorem vK:Xv (Qn YP (Q0 YP) J0 B 6 1 (Qu YP 73 59 (([.agg (Qt x).toArray]).map (Q4 0 4))) Zd 1
 (iQ x++[(38,Qf.pure (.bool false) [])]) 0 [] []) []=some (.bool false,
 [Qz []/\Qv YP J0 96 (iM x) (.bool false)]++ay B x):=by kernel_rfl
theorem vJ:Xv (Qn YP (Q0 YP) J0 B 6 1 (Qu YP 73 59 (([.agg (Qt x).toArray]).map (Q4 0 4))) Zd 1
 (iR x++[(33,Qf.pure (.bool false) [])]) 0 [] []) []=some (.bool false,
 [Qz []/\Qv YP J0 96 (iN x) (.bool false)]++az B x):=by kernel_rfl
theorem vI:Xv (Qn YP (Q0 YP) J0 B 6 1 (Qu YP 73 59 (([.agg (Qt x).toArray]).map (Q4 0 4))) Zd 1
 (iS x++[(28,Qf.pure (.bool false) [])]) 0 [] []) []=some (.bool false,
 [Qz []/\Qv YP J0 72 (iJ x) (.bool false)]++a6 B x):=by kernel_rfl
theorem vH:Xv (Qn YP (Q0 YP) J0 B 6 1 (Qu YP 73 59 (([.agg (Qt x).toArray]).map (Q4 0 4))) Zd 1
 (iT x++[(23,Qf.pure (.bool false) [])]) 0 [] []) []=some (.bool false,
 [Qz []/\Qv YP J0 96 (iL x) (.bool false)]++a8 B x):=by kernel_rfl
theorem vG:Xv (Qn YP (Q0 YP) J0 B 6 1 (Qu YP 73 59 (([.agg (Qt x).toArray]).map (Q4 0 4))) Zd 1
 (iU x++[(18,Qf.pure (.bool false) [])]) 0 [] []) []=some (.bool false,
 [Qz []/\Qv YP J0 72 (iK x) (.bool false)]++a9 B x):=by kernel_rfl
theorem vF:Xv (Qn YP (Q0 YP) J0 B 6 1 (Qu YP 73 59 (([.agg (Qt x).toArray]).map (Q4 0 4))) Zd 1
 (iV x++[(13,Qf.pure (.bool false) [])]) 0 [] []) []=some (.bool false,
 [Qz []/\Qv YP J0 95 #[YI x.goal] (.bool false)]++aA B x):=by kernel_rfl
theorem vE:Xv (Qn YP (Q0 YP) J0 B 6 1 (Qu YP 73 59 (([.agg (Qt x).toArray]).map (Q4 0 4))) Zd 1
 (iW x++[(8,Qf.pure (.bool false) [])]) 0 [] []) []=some (.bool false,
 [Qz []/\Qv YP J0 95 #[YI x.room] (.bool false)]++aB B x):=by kernel_rfl
theorem sm:Xv (Qn YP (Q0 YP) J0 B 6 1 (Qu YP 73 59 (([.agg (Qt x).toArray]).map (Q4 0 4))) Zd 1
 [(4,Qf.pure (.bool false) [])] 0 [] []) []=some (.bool false,
 [Qz []/\Qv YP J0 95 #[YI x.count] (.bool false)]):=by kernel_rfl
end
set_option maxHeartbeats 4000000 in
theorem zA(x:Qd)  {B:Lo}(hJ:∀w,B.has w->J0 w):EndsT YP B (Qu YP 73 59 (([.agg (Qt x).toArray]).map (Q4 0 4))) (.bool (Zn x)):=by
 cases q0:Jq x.count 0 1000000 with
 |true=>
  have VO:Qz (aB B x):=by
   exact⟨⟨trivial,(dB (St x.count) q0)⟩,trivial⟩
  cases q1:Jq x.room 0 1000000 with
  |true=>
   have hp1:Qz (aA B x):=by
    exact⟨⟨trivial,(dB (St x.room) q1)⟩,VO⟩
   cases q2:Jq x.goal 0 1000000 with
   |true=>
    have YF:Qz (a9 B x):=by
     exact⟨⟨trivial,(dB (St x.goal) q2)⟩,hp1⟩
    cases q3:Jq x.XF 0 1000000 with
    |true=>
     have hp3:Qz (a8 B x):=by
      exact⟨⟨trivial,(dB (Bk x.XF (0) (1000000)) q3)⟩,YF⟩
     cases q4:WN x.UR x.US 0 2000 with
     |true=>
      have hp4:Qz (a6 B x):=by
       exact⟨⟨trivial,(dB (bT x.UR x.US (2000)) q4)⟩,hp3⟩
      cases q5:Jq x.QI 0 1000 with
      |true=>
       have hp5:Qz (az B x):=by
        exact⟨⟨trivial,(dB (Bk x.QI (0) (1000)) q5)⟩,hp4⟩
       cases q6:WN x.VB x.VC 0 1000000 with
       |true=>
        have hp6:Qz (ay B x):=by
         exact⟨⟨trivial,(dB (bT x.VB x.VC (1000000)) q6)⟩,hp5⟩
        cases q7:WN x.Vr x.Vs 0 1000000 with
        |true=>
         have hp7:Qz (ax B x):=by
          exact⟨⟨trivial,(dB (bT x.Vr x.Vs (1000000)) q7)⟩,hp6⟩
         by_cases q8:(x.Vr:Int)<=x.VB
         ·have hp8:Qz (aw B x):=by
           exact⟨(VZ q8),hp7⟩
          by_cases q9:(x.Vs:Int)<=x.VC
          ·exact(GoE.eT GoE.start (vN B x)
            ⟨(VZ q9),hp8⟩).cast (by(simp[Zn, *];done))
          ·exact(GoE.eT GoE.start (vM B x)
            ⟨(Ua (Int.not_le.1 q9)),hp8⟩).cast (by(simp[Zn, *];done))
         ·exact(GoE.eT GoE.start (vL B x)
           ⟨(Ua (Int.not_le.1 q8)),hp7⟩).cast (by(simp[Zn, *];done))
        |false=>
         exact(GoE.eT GoE.start (vK B x)
          ⟨⟨trivial,(dB (bT x.Vr x.Vs (1000000)) q7)⟩,hp6⟩).cast (by(simp[Zn, *];done))
       |false=>
        exact(GoE.eT GoE.start (vJ B x)
         ⟨⟨trivial,(dB (bT x.VB x.VC (1000000)) q6)⟩,hp5⟩).cast (by(simp[Zn, *];done))
      |false=>
       exact(GoE.eT GoE.start (vI B x)
        ⟨⟨trivial,(dB (Bk x.QI (0) (1000)) q5)⟩,hp4⟩).cast (by(simp[Zn, *];done))
     |false=>
      exact(GoE.eT GoE.start (vH B x)
       ⟨⟨trivial,(dB (bT x.UR x.US (2000)) q4)⟩,hp3⟩).cast (by(simp[Zn, *];done))
    |false=>
     exact(GoE.eT GoE.start (vG B x)
      ⟨⟨trivial,(dB (Bk x.XF (0) (1000000)) q3)⟩,YF⟩).cast (by(simp[Zn, *];done))
   |false=>
    exact(GoE.eT GoE.start (vF B x)
     ⟨⟨trivial,(dB (St x.goal) q2)⟩,hp1⟩).cast (by(simp[Zn, *];done))
  |false=>
   exact(GoE.eT GoE.start (vE B x)
    ⟨⟨trivial,(dB (St x.room) q1)⟩,VO⟩).cast (by(simp[Zn, *];done))
 |false=>
  exact(GoE.eT GoE.start (sm B x)
   ⟨⟨trivial,(dB (St x.count) q0)⟩,trivial⟩).cast (by(simp[Zn, *];done))
theorem vO(x:Qd)  :Qv YP J0 73 #[.agg (Qt x).toArray] (.bool (Zn x)):=
 Xd (ts:=[.agg (Qt x).toArray]) Zc (c0:=Qu YP 73 59 (([.agg (Qt x).toArray]).map (Q4 0 4))) (by kernel_rfl) (by kernel_rfl) fun B hJ=>zA x  hJ
def eF(r:Qc)(k:Int):Array Value:=#[YI k,YI 0,YI ((↑r.Qa.length:Int)-1)]
def Tp(B:Lo)(r:Qc)(k:Int):List Prop:=[wq ((↑r.Qa.length:Int)-1)=(↑r.Qa.length:Int)-1]++([]:List Prop)
def eG(r:Qc)(k:Int):QA:=[(6,Zu ((↑r.Qa.length:Int)-1))]
theorem sq(B:Lo)(r:Qc)(k:Int):Xv (Qn YP (Q0 YP) J0 B 6 1 (Qu YP 70 11 (([.agg (Q1 r).toArray,YI k]).map (Q4 0 4))) Zd 1
 (eG r k++[(7,Qf.pure (.bool true) [])]) 0 [] []) []=some (.bool true,
 [Qz []/\Qv YP J0 72 (eF r k) (.bool true)]++Tp B r k):=by kernel_rfl
theorem so(B:Lo)(r:Qc)(k:Int):Xv (Qn YP (Q0 YP) J0 B 6 1 (Qu YP 70 11 (([.agg (Q1 r).toArray,YI k]).map (Q4 0 4))) Zd 1
 (eG r k++[(7,Qf.pure (.bool false) [])]) 0 [] []) []=some (.bool false,
 [Qz []/\Qv YP J0 72 (eF r k) (.bool false)]++Tp B r k):=by kernel_rfl
set_option maxHeartbeats 4000000 in
theorem vP(r:Qc)(k:Int)  (WH:r.Qa.length<=9223372036854775807){B:Lo}(hJ:∀w,B.has w->J0 w):EndsT YP B (Qu YP 70 11 (([.agg (Q1 r).toArray,YI k]).map (Q4 0 4))) (.bool (Jq k 0 (r.Qa.length-1))):=by
 have VO:Qz (Tp B r k):=by
  exact⟨wI,trivial⟩
 cases q0:Jq k 0 ((↑r.Qa.length:Int)-1)with
 |true=>
  exact(GoE.eT GoE.start (sq B r k)
   ⟨⟨trivial,(dB (Bk (k) (0) ((↑r.Qa.length:Int)-1)) q0)⟩,VO⟩).cR
 |false=>
  exact(GoE.eT GoE.start (so B r k)
   ⟨⟨trivial,(dB (Bk (k) (0) ((↑r.Qa.length:Int)-1)) q0)⟩,VO⟩).cR
theorem qA(r:Qc)(k:Int)  :Qv YP J0 70 #[.agg (Q1 r).toArray,YI k] (.bool (Jq k 0 (r.Qa.length-1))):=
 Sf (ts:=[.agg (Q1 r).toArray,YI k]) (r.Qa.length<=9223372036854775807) (fun _ _ ht=>ht.ln2 (i:=0) (j:=0) rfl rfl) Zc (c0:=Qu YP 70 11 (([.agg (Q1 r).toArray,YI k]).map (Q4 0 4))) (by kernel_rfl) (by kernel_rfl) fun WH B hJ=>vP r k  WH hJ
section
variable (x_:Qd)(B:Lo)(c0:CF)(r:Qc)(i:Int)(Ql:Nat->Value)
def To:Array Value:=#[YI x_.count,YI x_.room,YI x_.UR,YI x_.US,YI x_.QI,YI x_.Xw,YI x_.VB,YI x_.VC,YI x_.Vr,YI x_.Vs,YI x_.goal,YI x_.XF]
def lS:Array Value:=#[.agg #[Xo r.Qa.length (Qe Qt r.Qa),YI r.Qh,YI r.Qb],YI (Qd.Xw (r.Qa.getD i.toNat La))]
def lR:Array Value:=#[YI (↑r.Qa.length:Int),YI 1,YI 4]
def lQ:Array Value:=#[YI r.Qh,YI 0,YI 2000]
def lP:Array Value:=#[YI r.Qb,YI 1,YI 4]
def W6:List Value:=[pA 2 0,Qk 1 (Xo r.Qa.length (Qe Qt r.Qa)),YI (↑r.Qa.length:Int),YI i]
def XS(i:Int):List Obj:=[Obj.cells #[Qk 1 (Xo r.Qa.length (Qe Qt r.Qa)),YI r.Qh,YI r.Qb] 24]
def W8:List Item:=([.code [1,1,0,1,0,0],.inLoop [1,1,0,1,0,0],.inBlock 0,.code [1,1,1]]).map (it (Q8 YP 50))
def z9:Prop:=∃dJ:Nat->Value,(∀t,Xh (dJ t))/\GoE YP B c0 Zd 1 (QC 50 52 (([1,23,24,25]:List Nat).zip (W6 r i)) dJ W8) (Q9 (XS r i)) (2+(XS r i).length) []
def cU(B:Lo)(r:Qc)(i:Int)(Ql:Nat->Value):List Prop:=[VN i r.Qa.length (Qe Qt r.Qa) Try.t54.size (To (r.Qa.getD i.toNat La)),XB i (↑r.Qa.length:Int)=true]++([]:List Prop)
def ma(Ql:Nat->Value):QA:=[(0,Wj),(2,Qf.tidx i.toNat (To (r.Qa.getD i.toNat La)))]
def cQ:List Prop:=[Qz []/\Qv YP J0 73 #[.agg (To (r.Qa.getD i.toNat La))] (.bool true)]++cU B r i Ql
def lZ:QA:=ma r i Ql++[(8,Qf.pure (.bool true) [])]
def cO:List Prop:=[(!TO (Qd.Xw (r.Qa.getD i.toNat La)) (-1))=true]++cQ B r i Ql
def lY:QA:=lZ r i Ql++[(13,Wj)]
def cN:List Prop:=[Qz []/\Qv YP J0 70 (lS r i) (.bool true)]++cO B r i Ql
def lW:QA:=lY r i Ql++[(18,Qf.pure (.bool true) [])]
theorem z7:Xv (Qn YP (Q0 YP) J0 B 16 1 (QC 50 52 (([1,23,24,25]:List Nat).zip (W6 r i)) Ql W8) (Q9 (XS r i)) (2+(XS r i).length)
 (lW r i Ql++[(26,Wj)]) 0 [] []) []=some (.bool false,
 [TO (Qd.Xw (r.Qa.getD i.toNat La)) i=true]++cN B r i Ql):=by kernel_rfl
theorem z6:landM (Qn YP (Q0 YP) J0 B 16 1 (QC 50 52 (([1,23,24,25]:List Nat).zip (W6 r i)) Ql W8) (Q9 (XS r i)) (2+(XS r i).length)
 (lW r i Ql++[(26,WC),(28,Zu (i+1))]) 0 [] []) [1,23,24,25] [(2,KS.auto)] []=some ⟨50,52,W8,[],.run,none,W6 r (i+1),XS r (i+1),
 [wq (i+1)=i+1,TO (Qd.Xw (r.Qa.getD i.toNat La)) i=false]++cN B r i Ql⟩:=by kernel_rfl
theorem z5:Xv (Qn YP (Q0 YP) J0 B 16 1 (QC 50 52 (([1,23,24,25]:List Nat).zip (W6 r i)) Ql W8) (Q9 (XS r i)) (2+(XS r i).length)
 (lY r i Ql++[(18,Qf.pure (.bool false) [])]) 0 [] []) []=some (.bool false,
 [Qz []/\Qv YP J0 70 (lS r i) (.bool false)]++cO B r i Ql):=by kernel_rfl
def cM:List Prop:=[(!TO (Qd.Xw (r.Qa.getD i.toNat La)) (-1))=false]++cQ B r i Ql
def lV:QA:=lZ r i Ql++[(13,WC)]
theorem z4:Xv (Qn YP (Q0 YP) J0 B 16 1 (QC 50 52 (([1,23,24,25]:List Nat).zip (W6 r i)) Ql W8) (Q9 (XS r i)) (2+(XS r i).length)
 (lV r i Ql++[(26,Wj)]) 0 [] []) []=some (.bool false,
 [TO (Qd.Xw (r.Qa.getD i.toNat La)) i=true]++cM B r i Ql):=by kernel_rfl
theorem z3:landM (Qn YP (Q0 YP) J0 B 16 1 (QC 50 52 (([1,23,24,25]:List Nat).zip (W6 r i)) Ql W8) (Q9 (XS r i)) (2+(XS r i).length)
 (lV r i Ql++[(26,WC),(28,Zu (i+1))]) 0 [] []) [1,23,24,25] [(2,KS.auto)] []=some ⟨50,52,W8,[],.run,none,W6 r (i+1),XS r (i+1),
 [wq (i+1)=i+1,TO (Qd.Xw (r.Qa.getD i.toNat La)) i=false]++cM B r i Ql⟩:=by kernel_rfl
theorem z2:Xv (Qn YP (Q0 YP) J0 B 16 1 (QC 50 52 (([1,23,24,25]:List Nat).zip (W6 r i)) Ql W8) (Q9 (XS r i)) (2+(XS r i).length)
 (ma r i Ql++[(8,Qf.pure (.bool false) [])]) 0 [] []) []=some (.bool false,
 [Qz []/\Qv YP J0 73 #[.agg (To (r.Qa.getD i.toNat La))] (.bool false)]++cU B r i Ql):=by kernel_rfl
theorem z1:Xv (Qn YP (Q0 YP) J0 B 9 1 (QC 50 52 (([1,23,24,25]:List Nat).zip (W6 r i)) Ql W8) (Q9 (XS r i)) (2+(XS r i).length)
 [(0,WC)] 0 [] []) []=some (.bool true,
 [XB i (↑r.Qa.length:Int)=false]):=by kernel_rfl
def cL(B:Lo)(r:Qc):List Prop:=[Qz []/\Qv YP J0 72 (lR r) (.bool true)]++([]:List Prop)
def lU(r:Qc):QA:=[(5,Qf.pure (.bool true) [])]
def cK:List Prop:=[Qz []/\Qv YP J0 72 (lQ r) (.bool true)]++cL B r
def lT:QA:=lU r++[(10,Qf.pure (.bool true) [])]
theorem z0:landM (Qn YP (Q0 YP) J0 B 12 1 (Qu YP 50 52 (([.agg (Q1 r).toArray]).map (Q4 0 4))) Zd 1
 (lT r++[(16,Qf.pure (.bool true) [])]) 0 [] []) [1,23,24,25] [(1,KS.auto)] []=some ⟨50,52,W8,[],.run,none,W6 r (0),XS r (0),
 [Qz []/\Qv YP J0 72 (lP r) (.bool true)]++cK B r⟩:=by kernel_rfl
theorem zz:Xv (Qn YP (Q0 YP) J0 B 10 1 (Qu YP 50 52 (([.agg (Q1 r).toArray]).map (Q4 0 4))) Zd 1
 (lT r++[(16,Qf.pure (.bool false) [])]) 0 [] []) []=some (.bool false,
 [Qz []/\Qv YP J0 72 (lP r) (.bool false)]++cK B r):=by kernel_rfl
theorem zy:Xv (Qn YP (Q0 YP) J0 B 10 1 (Qu YP 50 52 (([.agg (Q1 r).toArray]).map (Q4 0 4))) Zd 1
 (lU r++[(10,Qf.pure (.bool false) [])]) 0 [] []) []=some (.bool false,
 [Qz []/\Qv YP J0 72 (lQ r) (.bool false)]++cL B r):=by kernel_rfl
theorem vD:Xv (Qn YP (Q0 YP) J0 B 10 1 (Qu YP 50 52 (([.agg (Q1 r).toArray]).map (Q4 0 4))) Zd 1
 [(5,Qf.pure (.bool false) [])] 0 [] []) []=some (.bool false,
 [Qz []/\Qv YP J0 72 (lR r) (.bool false)]):=by kernel_rfl
end
set_option maxHeartbeats 4000000 in
theorem z8(r:Qc)  (WH:r.Qa.length<=9223372036854775807){B:Lo}(hJ:∀w,B.has w->J0 w){c0:CF}:∀m:Nat,(∀(i:Int),r.Qa.length-i.toNat=m->∀(h0:0<=i),z9 B c0 r i->EndsT YP B c0 (.bool (Rh r.Qa i))):=by
 intro m0;induction m0 using LB with
 |_ m0 ih0=>
  intro i Jw h0 ⟨Ql,Wl,X0⟩;by_cases q0:(i:Int)<((↑r.Qa.length:Int))
  ·have VO:Qz (cU B r i Ql):=by
    exact⟨(iX (lX 12)),⟨(Xs q0),trivial⟩⟩
   cases q1:Zn (r.Qa.getD i.toNat La)with
   |true=>
    have hp1:Qz (cQ B r i Ql):=by
     exact⟨⟨trivial,(dB (vO (r.Qa.getD i.toNat La)) q1)⟩,VO⟩
    by_cases q2:(Qd.Xw (r.Qa.getD i.toNat La):Int)≠(-1)
    ·have YF:Qz (cO B r i Ql):=by
      exact⟨(QaS q2),hp1⟩
     cases q3:Jq (Qd.Xw (r.Qa.getD i.toNat La)) 0 ((↑r.Qa.length:Int)-1)with
     |true=>
      have hp3:Qz (cN B r i Ql):=by
       exact⟨⟨trivial,(dB (qA (r) (Qd.Xw (r.Qa.getD i.toNat La))) q3)⟩,YF⟩
      by_cases q4:(Qd.Xw (r.Qa.getD i.toNat La):Int)=(i)
      ·have s2:=XG (ps:=r.Qa) q0;exact(GoE.eT X0 (z7 B r i Ql)
        ⟨(TI q4),hp3⟩).cast (by(rw[s2];simp_all[ZJ,JA];done))
      ·have s2:=XG (ps:=r.Qa) q0;exact((ih0 _ (by omega)) (i+1) rfl (by omega)
        (X0.lM (z6 B r i Ql)
        ⟨wI,⟨(TJ q4),hp3⟩⟩)).cast (by(rw[s2];simp_all[ZJ,JA];done))
     |false=>
      have s2:=XG (ps:=r.Qa) q0;exact(GoE.eT X0 (z5 B r i Ql)
       ⟨⟨trivial,(dB (qA (r) (Qd.Xw (r.Qa.getD i.toNat La))) q3)⟩,YF⟩).cast (by(rw[s2];simp_all[ZJ,JA];done))
    ·have hp4:Qz (cM B r i Ql):=by
      exact⟨(zP (Decidable.of_not_not q2)),hp1⟩
     by_cases q3:(Qd.Xw (r.Qa.getD i.toNat La):Int)=(i)
     ·have s2:=XG (ps:=r.Qa) q0;have s2:=Yy (ps:=r.Qa) (i:=i) (by omega);exact(GoE.eT X0 (z4 B r i Ql)
       ⟨(TI q3),hp4⟩).cast (by(rw[s2];simp_all[ZJ,JA];done))
     ·have s2:=XG (ps:=r.Qa) q0;exact((ih0 _ (by omega)) (i+1) rfl (by omega)
       (X0.lM (z3 B r i Ql)
       ⟨wI,⟨(TJ q3),hp4⟩⟩)).cast (by(rw[s2];simp_all[ZJ,JA];done))
   |false=>
    have s2:=XG (ps:=r.Qa) q0;exact(GoE.eT X0 (z2 B r i Ql)
     ⟨⟨trivial,(dB (vO (r.Qa.getD i.toNat La)) q1)⟩,VO⟩).cast (by(rw[s2];simp_all[ZJ,JA];done))
  ·have s2:=Yy (ps:=r.Qa) (i:=i) (by omega);exact(GoE.eT X0 (z1 B r i Ql)
    ⟨(nL q0),trivial⟩).cast (by(rw[s2];done))
set_option maxHeartbeats 4000000 in
theorem CV(r:Qc)  (WH:r.Qa.length<=9223372036854775807){B:Lo}(hJ:∀w,B.has w->J0 w):EndsT YP B (Qu YP 50 52 (([.agg (Q1 r).toArray]).map (Q4 0 4))) (.bool (Zo r)):=by
 cases q0:Jq (↑r.Qa.length:Int) 1 4 with
 |true=>
  have hp5:Qz (cL B r):=by
   exact⟨⟨trivial,(dB (Bk ((↑r.Qa.length:Int)) (1) (4)) q0)⟩,trivial⟩
  cases q1:Jq r.Qh 0 2000 with
  |true=>
   have hp6:Qz (cK B r):=by
    exact⟨⟨trivial,(dB (Bk r.Qh (0) (2000)) q1)⟩,hp5⟩
   cases q2:Jq r.Qb 1 4 with
   |true=>
    exact((z8 r WH hJ _) (0) rfl (by omega)
     (GoE.start.lM (z0 B r)
     ⟨⟨trivial,(dB (Bk r.Qb (1) (4)) q2)⟩,hp6⟩)).cast (by(simp only[Zo,Ph];simp[*];done))
   |false=>
    exact(GoE.eT GoE.start (zz B r)
     ⟨⟨trivial,(dB (Bk r.Qb (1) (4)) q2)⟩,hp6⟩).cast (by(simp only[Zo,Ph];simp[*];done))
  |false=>
   exact(GoE.eT GoE.start (zy B r)
    ⟨⟨trivial,(dB (Bk r.Qh (0) (2000)) q1)⟩,hp5⟩).cast (by(simp only[Zo,Ph];simp[*];done))
 |false=>
  exact(GoE.eT GoE.start (vD B r)
   ⟨⟨trivial,(dB (Bk ((↑r.Qa.length:Int)) (1) (4)) q0)⟩,trivial⟩).cast (by(simp only[Zo,Ph];simp[*];done))
theorem sk(r:Qc)  :Qv YP J0 50 #[.agg (Q1 r).toArray] (.bool (Zo r)):=
 Sf (ts:=[.agg (Q1 r).toArray]) (r.Qa.length<=9223372036854775807) (fun _ _ ht=>ht.ln2 (i:=0) (j:=0) rfl rfl) Zc (c0:=Qu YP 50 52 (([.agg (Q1 r).toArray]).map (Q4 0 4))) (by kernel_rfl) (by kernel_rfl) fun WH B hJ=>CV r  WH hJ
section
variable (B:Lo)(c0:CF)(r:Qc)(i:Int)(Ql:Nat->Value)
def Zz(r:Qc)(i:Int):List Value:=[pA 2 0,YI i]
def Xq(i:Int):List Obj:=[Obj.cells #[Qk 1 (Xo r.Qa.length (Qe Qt r.Qa)),YI r.Qh,YI r.Qb] 24]
def Z0:List Item:=([.code [1,0,1,0,0],.inLoop [1,0,1,0,0],.inBlock 0,.code [1,1]]).map (it (Q8 YP 20))
def FD:Prop:=∃dJ:Nat->Value,(∀t,Xh (dJ t))/\GoE YP B c0 Zd 1 (QC 20 111 (([1,3]:List Nat).zip (Zz r i)) dJ Z0) (Q9 (Xq r i)) (2+(Xq r i).length) []
def JR:=(r.Qa.getD i.toNat La)
def Pu:=(JR r i)
def F0:=(Pu r i)
def uO:Array Value:=let a:=F0 r i;#[YI a.count,YI a.room,YI a.UR,YI a.US,YI a.QI,YI a.Xw,YI a.VB,YI a.VC,YI a.Vr,YI a.Vs,YI a.goal,YI a.XF]
def uN:Array Value:=#[.agg #[YI (Qd.VB (Pu r i)),YI (Qd.VC (Pu r i))],YI 1000000]
def uM:Array Value:=#[.agg #[YI (Qd.Vr (Pu r i)),YI (Qd.Vs (Pu r i))],YI 1000000]
def uL:Array Value:=#[.agg #[YI (Qd.UR (Pu r i)),YI (Qd.US (Pu r i))],YI 2000]
def uK:Array Value:=#[YI (Qd.Xw (JR r i)),YI (-1),YI ((↑r.Qa.length:Int)-1)]
def uJ:Array Value:=#[YI (Qd.count (JR r i)),YI 0,YI 1000000]
def uI:Array Value:=#[YI (Qd.XF (JR r i)),YI 0,YI 1000000]
def uH:Array Value:=#[YI (Qd.room (JR r i)),YI 0,YI 1000000]
def pU:Array Value:=#[YI (Qd.goal (JR r i)),YI 0,YI 1000000]
def pT:Array Value:=#[YI (Qd.QI (r.Qa.getD i.toNat La)),YI 0,YI 1000]
def pS:Array Value:=#[YI (↑r.Qa.length:Int),YI 1,YI 4]
def pR:Array Value:=#[YI r.Qh,YI 0,YI 2000]
def pQ:Array Value:=#[YI r.Qb,YI 1,YI 4]
def lv(B:Lo)(r:Qc)(i:Int)(Ql:Nat->Value):List Prop:=[VN i r.Qa.length (Qe Qt r.Qa) Try.t54.size (uO r i),XB i (↑r.Qa.length:Int)=true]++([]:List Prop)
def uY(Ql:Nat->Value):QA:=[(4,Wj),(8,Qf.tidx i.toNat (uO r i))]
def lu:List Prop:=[Qz []/\Qv YP J0 55 (uJ r i) (.bool true)]++lv B r i Ql
def uX:QA:=uY r i Ql++[(14,Qf.pure (.bool true) [])]
def lr:List Prop:=[Qz []/\Qv YP J0 55 (uH r i) (.bool true)]++lu B r i Ql
def uW:QA:=uX r i Ql++[(19,Qf.pure (.bool true) [])]
def lq:List Prop:=[Qz []/\Qv YP J0 55 (pU r i) (.bool true)]++lr B r i Ql
def uV:QA:=uW r i Ql++[(25,Qf.pure (.bool true) [])]
def lp:List Prop:=[Qz []/\Qv YP J0 56 (uL r i) (.bool true)]++lq B r i Ql
def uU:QA:=uV r i Ql++[(31,Qf.pure (.bool true) [])]
def ll:List Prop:=[wq ((↑r.Qa.length:Int)-1)=(↑r.Qa.length:Int)-1,Qz []/\Qv YP J0 55 (pT r i) (.bool true)]++lp B r i Ql
def uT:QA:=uU r i Ql++[(37,Qf.pure (.bool true) []),(46,Zu ((↑r.Qa.length:Int)-1))]
def lk:List Prop:=[Qz []/\Qv YP J0 55 (uK r i) (.bool true)]++ll B r i Ql
def uS:QA:=uT r i Ql++[(47,Qf.pure (.bool true) [])]
theorem FB:Xv (Qn YP (Q0 YP) J0 B 16 1 (QC 20 111 (([1,3]:List Nat).zip (Zz r i)) Ql Z0) (Q9 (Xq r i)) (2+(Xq r i).length)
 (uS r i Ql++[(54,Wj)]) 0 [] []) []=some (.bool false,
 [TO (Qd.Xw (r.Qa.getD i.toNat La)) i=true]++lk B r i Ql):=by kernel_rfl
def lj:List Prop:=[TO (Qd.Xw (r.Qa.getD i.toNat La)) i=false]++lk B r i Ql
def uR:QA:=uS r i Ql++[(54,WC)]
def lh:List Prop:=[Qz []/\Qv YP J0 56 (uN r i) (.bool true)]++lj B r i Ql
def uQ:QA:=uR r i Ql++[(59,Qf.pure (.bool true) [])]
def kZ:List Prop:=[Qz []/\Qv YP J0 56 (uM r i) (.bool true)]++lh B r i Ql
def uP:QA:=uQ r i Ql++[(65,Qf.pure (.bool true) [])]
theorem FA(B:Lo)(r:Qc)(i:Int)(Ql:Nat->Value):let a:=r.Qa.getD i.toNat La;Xv (Qn YP (Q0 YP) J0 B 16 1 (QC 20 111 (([1,3]:List Nat).zip (Zz r i)) Ql Z0) (Q9 (Xq r i)) (2+(Xq r i).length)
 (uP r i Ql++[(75,Wj)]) 0 [] []) []=some (.bool false,
 [XB a.VB a.Vr=true]++kZ B r i Ql):=by intro a;kernel_rfl
def gN:List Prop:=[XB (Qd.VB (r.Qa.getD i.toNat La)) (Qd.Vr (r.Qa.getD i.toNat La))=false]++kZ B r i Ql
def pZ:QA:=uP r i Ql++[(75,WC)]
theorem F9(B:Lo)(r:Qc)(i:Int)(Ql:Nat->Value):let a:=r.Qa.getD i.toNat La;Xv (Qn YP (Q0 YP) J0 B 16 1 (QC 20 111 (([1,3]:List Nat).zip (Zz r i)) Ql Z0) (Q9 (Xq r i)) (2+(Xq r i).length)
 (pZ r i Ql++[(84,Wj)]) 0 [] []) []=some (.bool false,
 [XB a.VC a.Vs=true]++gN B r i Ql):=by intro a;kernel_rfl
def gM:List Prop:=[XB (Qd.VC (r.Qa.getD i.toNat La)) (Qd.Vs (r.Qa.getD i.toNat La))=false]++gN B r i Ql
def pY:QA:=pZ r i Ql++[(84,WC)]
theorem F8:landM (Qn YP (Q0 YP) J0 B 16 1 (QC 20 111 (([1,3]:List Nat).zip (Zz r i)) Ql Z0) (Q9 (Xq r i)) (2+(Xq r i).length)
 (pY r i Ql++[(89,Qf.pure (.bool true) []),(93,Zu (i+1))]) 0 [] []) [1,3] [(2,KS.auto)] []=some ⟨20,111,Z0,[],.run,none,Zz r (i+1),Xq r (i+1),
 [wq (i+1)=i+1,Qz []/\Qv YP J0 55 (uI r i) (.bool true)]++gM B r i Ql⟩:=by kernel_rfl
theorem F7:Xv (Qn YP (Q0 YP) J0 B 16 1 (QC 20 111 (([1,3]:List Nat).zip (Zz r i)) Ql Z0) (Q9 (Xq r i)) (2+(Xq r i).length)
 (pY r i Ql++[(89,Qf.pure (.bool false) [])]) 0 [] []) []=some (.bool false,
 [Qz []/\Qv YP J0 55 (uI r i) (.bool false)]++gM B r i Ql):=by kernel_rfl
theorem F6:Xv (Qn YP (Q0 YP) J0 B 16 1 (QC 20 111 (([1,3]:List Nat).zip (Zz r i)) Ql Z0) (Q9 (Xq r i)) (2+(Xq r i).length)
 (uQ r i Ql++[(65,Qf.pure (.bool false) [])]) 0 [] []) []=some (.bool false,
 [Qz []/\Qv YP J0 56 (uM r i) (.bool false)]++lh B r i Ql):=by kernel_rfl
theorem F5:Xv (Qn YP (Q0 YP) J0 B 16 1 (QC 20 111 (([1,3]:List Nat).zip (Zz r i)) Ql Z0) (Q9 (Xq r i)) (2+(Xq r i).length)
 (uR r i Ql++[(59,Qf.pure (.bool false) [])]) 0 [] []) []=some (.bool false,
 [Qz []/\Qv YP J0 56 (uN r i) (.bool false)]++lj B r i Ql):=by kernel_rfl
theorem F3:Xv (Qn YP (Q0 YP) J0 B 16 1 (QC 20 111 (([1,3]:List Nat).zip (Zz r i)) Ql Z0) (Q9 (Xq r i)) (2+(Xq r i).length)
 (uT r i Ql++[(47,Qf.pure (.bool false) [])]) 0 [] []) []=some (.bool false,
 [Qz []/\Qv YP J0 55 (uK r i) (.bool false)]++ll B r i Ql):=by kernel_rfl
theorem F2:Xv (Qn YP (Q0 YP) J0 B 16 1 (QC 20 111 (([1,3]:List Nat).zip (Zz r i)) Ql Z0) (Q9 (Xq r i)) (2+(Xq r i).length)
 (uU r i Ql++[(37,Qf.pure (.bool false) [])]) 0 [] []) []=some (.bool false,
 [Qz []/\Qv YP J0 55 (pT r i) (.bool false)]++lp B r i Ql):=by kernel_rfl
theorem F1:Xv (Qn YP (Q0 YP) J0 B 16 1 (QC 20 111 (([1,3]:List Nat).zip (Zz r i)) Ql Z0) (Q9 (Xq r i)) (2+(Xq r i).length)
 (uV r i Ql++[(31,Qf.pure (.bool false) [])]) 0 [] []) []=some (.bool false,
 [Qz []/\Qv YP J0 56 (uL r i) (.bool false)]++lq B r i Ql):=by kernel_rfl
theorem Cn:Xv (Qn YP (Q0 YP) J0 B 16 1 (QC 20 111 (([1,3]:List Nat).zip (Zz r i)) Ql Z0) (Q9 (Xq r i)) (2+(Xq r i).length)
 (uW r i Ql++[(25,Qf.pure (.bool false) [])]) 0 [] []) []=some (.bool false,
 [Qz []/\Qv YP J0 55 (pU r i) (.bool false)]++lr B r i Ql):=by kernel_rfl
theorem Cm:Xv (Qn YP (Q0 YP) J0 B 16 1 (QC 20 111 (([1,3]:List Nat).zip (Zz r i)) Ql Z0) (Q9 (Xq r i)) (2+(Xq r i).length)
 (uX r i Ql++[(19,Qf.pure (.bool false) [])]) 0 [] []) []=some (.bool false,
 [Qz []/\Qv YP J0 55 (uH r i) (.bool false)]++lu B r i Ql):=by kernel_rfl
theorem Cl:Xv (Qn YP (Q0 YP) J0 B 16 1 (QC 20 111 (([1,3]:List Nat).zip (Zz r i)) Ql Z0) (Q9 (Xq r i)) (2+(Xq r i).length)
 (uY r i Ql++[(14,Qf.pure (.bool false) [])]) 0 [] []) []=some (.bool false,
 [Qz []/\Qv YP J0 55 (uJ r i) (.bool false)]++lv B r i Ql):=by kernel_rfl
def gL(B:Lo)(r:Qc)(i:Int)(Ql:Nat->Value):List Prop:=[XB i (↑r.Qa.length:Int)=false]++([]:List Prop)
def pX(r:Qc)(i:Int)(Ql:Nat->Value):QA:=[(4,WC)]
def gK:List Prop:=[Qz []/\Qv YP J0 55 (pS r) (.bool true)]++gL B r i Ql
def pW:QA:=pX r i Ql++[(8,Qf.pure (.bool true) [])]
def gJ:List Prop:=[Qz []/\Qv YP J0 55 (pR r) (.bool true)]++gK B r i Ql
def pV:QA:=pW r i Ql++[(12,Qf.pure (.bool true) [])]
theorem Ck:Xv (Qn YP (Q0 YP) J0 B 9 1 (QC 20 111 (([1,3]:List Nat).zip (Zz r i)) Ql Z0) (Q9 (Xq r i)) (2+(Xq r i).length)
 (pV r i Ql++[(17,Qf.pure (.bool true) [])]) 0 [] []) []=some (.bool true,
 [Qz []/\Qv YP J0 55 (pQ r) (.bool true)]++gJ B r i Ql):=by kernel_rfl
theorem Cj:Xv (Qn YP (Q0 YP) J0 B 9 1 (QC 20 111 (([1,3]:List Nat).zip (Zz r i)) Ql Z0) (Q9 (Xq r i)) (2+(Xq r i).length)
 (pV r i Ql++[(17,Qf.pure (.bool false) [])]) 0 [] []) []=some (.bool false,
 [Qz []/\Qv YP J0 55 (pQ r) (.bool false)]++gJ B r i Ql):=by kernel_rfl
theorem Ci:Xv (Qn YP (Q0 YP) J0 B 9 1 (QC 20 111 (([1,3]:List Nat).zip (Zz r i)) Ql Z0) (Q9 (Xq r i)) (2+(Xq r i).length)
 (pW r i Ql++[(12,Qf.pure (.bool false) [])]) 0 [] []) []=some (.bool false,
 [Qz []/\Qv YP J0 55 (pR r) (.bool false)]++gK B r i Ql):=by kernel_rfl
theorem Ch:Xv (Qn YP (Q0 YP) J0 B 9 1 (QC 20 111 (([1,3]:List Nat).zip (Zz r i)) Ql Z0) (Q9 (Xq r i)) (2+(Xq r i).length)
 (pX r i Ql++[(8,Qf.pure (.bool false) [])]) 0 [] []) []=some (.bool false,
 [Qz []/\Qv YP J0 55 (pS r) (.bool false)]++gL B r i Ql):=by kernel_rfl
theorem Cg:landM (Qn YP (Q0 YP) J0 B 7 1 (Qu YP 20 111 (([.agg (Q1 r).toArray]).map (Q4 0 4))) Zd 1
 [] 0 [] []) [1,3] [(1,KS.auto)] []=some ⟨20,111,Z0,[],.run,none,Zz r (0),Xq r (0),
 []⟩:=by kernel_rfl
end
set_option maxHeartbeats 4000000 in
theorem FC(r:Qc)  (WH:r.Qa.length<=9223372036854775807){B:Lo}(hJ:∀w,B.has w->J0 w){c0:CF}:∀m:Nat,(∀(i:Int),r.Qa.length-i.toNat=m->∀(h0:0<=i),FD B c0 r i->EndsT YP B c0 (.bool (Rh r.Qa i && Ph r))):=by
 intro m0;induction m0 using LB with
 |_ m0 ih0=>
  intro i Jw h0 ⟨Ql,Wl,X0⟩;have s3:=Oi (n:=r.Qa.length) (v:=(r.Qa.getD i.toNat La).Xw) (by omega);by_cases q0:(i:Int)<((↑r.Qa.length:Int))
  ·have VO:Qz (lv B r i Ql):=by
    exact⟨(iX (lX 12)),⟨(Xs q0),trivial⟩⟩
   cases q1:Jq (Qd.count (r.Qa.getD i.toNat La)) 0 1000000 with
   |true=>
    have hp1:Qz (lu B r i Ql):=by
     exact⟨⟨trivial,(dB (ua (Qd.count (r.Qa.getD i.toNat La)) (0) (1000000)) q1)⟩,VO⟩
    cases q2:Jq (Qd.room (r.Qa.getD i.toNat La)) 0 1000000 with
    |true=>
     have YF:Qz (lr B r i Ql):=by
      exact⟨⟨trivial,(dB (ua (Qd.room (r.Qa.getD i.toNat La)) (0) (1000000)) q2)⟩,hp1⟩
     cases q3:Jq (Qd.goal (r.Qa.getD i.toNat La)) 0 1000000 with
     |true=>
      have hp3:Qz (lq B r i Ql):=by
       exact⟨⟨trivial,(dB (ua (Qd.goal (r.Qa.getD i.toNat La)) (0) (1000000)) q3)⟩,YF⟩
      cases q4:WN (Qd.UR (r.Qa.getD i.toNat La)) (Qd.US (r.Qa.getD i.toNat La)) 0 2000 with
      |true=>
       have hp4:Qz (lp B r i Ql):=by
        exact⟨⟨trivial,(dB (pO (Qd.UR (r.Qa.getD i.toNat La)) (Qd.US (r.Qa.getD i.toNat La)) (2000)) q4)⟩,hp3⟩
       cases q5:Jq (Qd.QI (r.Qa.getD i.toNat La)) 0 1000 with
       |true=>
        have hp5:Qz (ll B r i Ql):=by
         exact⟨wI,⟨⟨trivial,(dB (ua (Qd.QI (r.Qa.getD i.toNat La)) (0) (1000)) q5)⟩,hp4⟩⟩
        cases q6:Jq (Qd.Xw (r.Qa.getD i.toNat La)) (-1) ((↑r.Qa.length:Int)-1)with
        |true=>
         have hp6:Qz (lk B r i Ql):=by
          exact⟨⟨trivial,(dB (ua (Qd.Xw (r.Qa.getD i.toNat La)) (-1) ((↑r.Qa.length:Int)-1)) q6)⟩,hp5⟩
         by_cases q7:(Qd.Xw (r.Qa.getD i.toNat La):Int)=(i)
         ·have s2:=XG (ps:=r.Qa) q0;exact(GoE.eT X0 (FB B r i Ql)
           ⟨(TI q7),hp6⟩).cast (by(rw[s2];rw[s3]at *;simp_all[ZJ,Zn];done))
         ·have hp7:Qz (lj B r i Ql):=by
           exact⟨(TJ q7),hp6⟩
          cases q8:WN (Qd.VB (r.Qa.getD i.toNat La)) (Qd.VC (r.Qa.getD i.toNat La)) 0 1000000 with
          |true=>
           have hp8:Qz (lh B r i Ql):=by
            exact⟨⟨trivial,(dB (pO (Qd.VB (r.Qa.getD i.toNat La)) (Qd.VC (r.Qa.getD i.toNat La)) (1000000)) q8)⟩,hp7⟩
           cases q9:WN (Qd.Vr (r.Qa.getD i.toNat La)) (Qd.Vs (r.Qa.getD i.toNat La)) 0 1000000 with
           |true=>
            have hp9:Qz (kZ B r i Ql):=by
             exact⟨⟨trivial,(dB (pO (Qd.Vr (r.Qa.getD i.toNat La)) (Qd.Vs (r.Qa.getD i.toNat La)) (1000000)) q9)⟩,hp8⟩
            by_cases q10:(Qd.VB (r.Qa.getD i.toNat La):Int)<(Qd.Vr (r.Qa.getD i.toNat La))
            ·have s2:=XG (ps:=r.Qa) q0;exact(GoE.eT X0 (FA B r i Ql)
              ⟨(Xs q10),hp9⟩).cast (by(rw[s2];rw[s3]at *;simp_all[ZJ,Zn];omega))
            ·have hp10:Qz (gN B r i Ql):=by
              exact⟨(nL q10),hp9⟩
             by_cases q11:(Qd.VC (r.Qa.getD i.toNat La):Int)<(Qd.Vs (r.Qa.getD i.toNat La))
             ·have s2:=XG (ps:=r.Qa) q0;exact(GoE.eT X0 (F9 B r i Ql)
               ⟨(Xs q11),hp10⟩).cast (by(rw[s2];rw[s3]at *;simp_all[ZJ,Zn];omega))
             ·have hp11:Qz (gM B r i Ql):=by
               exact⟨(nL q11),hp10⟩
              cases q12:Jq (Qd.XF (r.Qa.getD i.toNat La)) 0 1000000 with
              |true=>
               have s2:=XG (ps:=r.Qa) q0;exact((ih0 _ (by omega)) (i+1) rfl (by omega)
                (X0.lM (F8 B r i Ql)
                ⟨wI,⟨⟨trivial,(dB (ua (Qd.XF (r.Qa.getD i.toNat La)) (0) (1000000)) q12)⟩,hp11⟩⟩)).cast (by(rw[s2];rw[s3]at *;simp_all[ZJ,Zn];done))
              |false=>
               have s2:=XG (ps:=r.Qa) q0;exact(GoE.eT X0 (F7 B r i Ql)
                ⟨⟨trivial,(dB (ua (Qd.XF (r.Qa.getD i.toNat La)) (0) (1000000)) q12)⟩,hp11⟩).cast (by(rw[s2];rw[s3]at *;simp_all[ZJ,Zn];done))
           |false=>
            have s2:=XG (ps:=r.Qa) q0;exact(GoE.eT X0 (F6 B r i Ql)
             ⟨⟨trivial,(dB (pO (Qd.Vr (r.Qa.getD i.toNat La)) (Qd.Vs (r.Qa.getD i.toNat La)) (1000000)) q9)⟩,hp8⟩).cast (by(rw[s2];rw[s3]at *;simp_all[ZJ,Zn];done))
          |false=>
           have s2:=XG (ps:=r.Qa) q0;exact(GoE.eT X0 (F5 B r i Ql)
            ⟨⟨trivial,(dB (pO (Qd.VB (r.Qa.getD i.toNat La)) (Qd.VC (r.Qa.getD i.toNat La)) (1000000)) q8)⟩,hp7⟩).cast (by(rw[s2];rw[s3]at *;simp_all[ZJ,Zn];done))
        |false=>
         have s2:=XG (ps:=r.Qa) q0;exact(GoE.eT X0 (F3 B r i Ql)
          ⟨⟨trivial,(dB (ua (Qd.Xw (r.Qa.getD i.toNat La)) (-1) ((↑r.Qa.length:Int)-1)) q6)⟩,hp5⟩).cast (by(rw[s2];rw[s3]at *;simp_all[ZJ,Zn];done))
       |false=>
        have s2:=XG (ps:=r.Qa) q0;exact(GoE.eT X0 (F2 B r i Ql)
         ⟨⟨trivial,(dB (ua (Qd.QI (r.Qa.getD i.toNat La)) (0) (1000)) q5)⟩,hp4⟩).cast (by(rw[s2];rw[s3]at *;simp_all[ZJ,Zn];done))
      |false=>
       have s2:=XG (ps:=r.Qa) q0;exact(GoE.eT X0 (F1 B r i Ql)
        ⟨⟨trivial,(dB (pO (Qd.UR (r.Qa.getD i.toNat La)) (Qd.US (r.Qa.getD i.toNat La)) (2000)) q4)⟩,hp3⟩).cast (by(rw[s2];rw[s3]at *;simp_all[ZJ,Zn];done))
     |false=>
      have s2:=XG (ps:=r.Qa) q0;exact(GoE.eT X0 (Cn B r i Ql)
       ⟨⟨trivial,(dB (ua (Qd.goal (r.Qa.getD i.toNat La)) (0) (1000000)) q3)⟩,YF⟩).cast (by(rw[s2];rw[s3]at *;simp_all[ZJ,Zn];done))
    |false=>
     have s2:=XG (ps:=r.Qa) q0;exact(GoE.eT X0 (Cm B r i Ql)
      ⟨⟨trivial,(dB (ua (Qd.room (r.Qa.getD i.toNat La)) (0) (1000000)) q2)⟩,hp1⟩).cast (by(rw[s2];rw[s3]at *;simp_all[ZJ,Zn];done))
   |false=>
    have s2:=XG (ps:=r.Qa) q0;exact(GoE.eT X0 (Cl B r i Ql)
     ⟨⟨trivial,(dB (ua (Qd.count (r.Qa.getD i.toNat La)) (0) (1000000)) q1)⟩,VO⟩).cast (by(rw[s2];rw[s3]at *;simp_all[ZJ,Zn];done))
  ·have hp12:Qz (gL B r i Ql):=by
    exact⟨(nL q0),trivial⟩
   cases q1:Jq (↑r.Qa.length:Int) 1 4 with
   |true=>
    have hp13:Qz (gK B r i Ql):=by
     exact⟨⟨trivial,(dB (ua ((↑r.Qa.length:Int)) (1) (4)) q1)⟩,hp12⟩
    cases q2:Jq r.Qh 0 2000 with
    |true=>
     have hp14:Qz (gJ B r i Ql):=by
      exact⟨⟨trivial,(dB (ua r.Qh (0) (2000)) q2)⟩,hp13⟩
     cases q3:Jq r.Qb 1 4 with
     |true=>
      have s2:=Yy (ps:=r.Qa) (i:=i) (by omega);exact(GoE.eT X0 (Ck B r i Ql)
       ⟨⟨trivial,(dB (ua r.Qb (1) (4)) q3)⟩,hp14⟩).cast (by(rw[s2];simp_all[Ph];done))
     |false=>
      have s2:=Yy (ps:=r.Qa) (i:=i) (by omega);exact(GoE.eT X0 (Cj B r i Ql)
       ⟨⟨trivial,(dB (ua r.Qb (1) (4)) q3)⟩,hp14⟩).cast (by(rw[s2];simp_all[Ph];done))
    |false=>
     have s2:=Yy (ps:=r.Qa) (i:=i) (by omega);exact(GoE.eT X0 (Ci B r i Ql)
      ⟨⟨trivial,(dB (ua r.Qh (0) (2000)) q2)⟩,hp13⟩).cast (by(rw[s2];simp_all[Ph];done))
   |false=>
    have s2:=Yy (ps:=r.Qa) (i:=i) (by omega);exact(GoE.eT X0 (Ch B r i Ql)
     ⟨⟨trivial,(dB (ua ((↑r.Qa.length:Int)) (1) (4)) q1)⟩,hp12⟩).cast (by(rw[s2];simp_all[Ph];done))
set_option maxHeartbeats 4000000 in
theorem Na(r:Qc)  (WH:r.Qa.length<=9223372036854775807){B:Lo}(hJ:∀w,B.has w->J0 w):EndsT YP B (Qu YP 20 111 (([.agg (Q1 r).toArray]).map (Q4 0 4))) (.bool (Zo r)):=by
 exact((FC r WH hJ _) (0) rfl (by omega)
  (GoE.start.lM (Cg B r)
  trivial)).cast (by(simp only[Zo];rw[Bool.and_comm];done))
theorem uZ(r:Qc)  :Qv YP J0 20 #[.agg (Q1 r).toArray] (.bool (Zo r)):=
 Sf (ts:=[.agg (Q1 r).toArray]) (r.Qa.length<=9223372036854775807) (fun _ _ ht=>ht.ln2 (i:=0) (j:=0) rfl rfl) Zc (c0:=Qu YP 20 111 (([.agg (Q1 r).toArray]).map (Q4 0 4))) (by kernel_rfl) (by kernel_rfl) fun WH B hJ=>Na r  WH hJ
end
end Go.Proofs.Ytncjjangllkokaa

