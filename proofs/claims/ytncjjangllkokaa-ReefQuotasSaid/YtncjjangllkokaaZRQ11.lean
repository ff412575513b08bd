/- TX 2: frames Y2 defer a function Y2 recovers. -/
import Derived.Test.YtncjjangllkokaaZRQ10
import Derived.Test.YtncjjangllkokaaZRQ07
import Derived.Test.YtncjjangllkokaaProg
set_option linter.all false
open List renaming range->NI,getD_eq_getElem?_getD->NJ,getElem?_map->NX,length->NG,getElem?_append_right->NL,range'->Oa,mem_append_left->NK,mem_append->OD,getElem?_eq_getElem->OF,mem_cons_of_mem->NS,flatMap_cons->OC,replicate->Of,mem_of_getElem? ->NN,getElem?_take_of_lt->OE,getElem?_eq_none->Oc,getElem?_append_left->NU,getElem?_toArray->Oy,length_set->Ow,length_replicate->Ou
open Array renaming getElem?_eq_none->OG,getElem?_toList->NM,mem_of_getElem? ->Om,getElem?_extract->Oz
open Nat renaming ble->Oo,le_refl->NZ,zero_add->Ob,lt_or_ge->Oe,blt->NO,ble_eq_true_of_le->Od,beq->NH,min->OA,strongRecOn->Oi
open Option renaming map_some->Oh
open Int renaming le_refl->Ol,tdiv->NF,tdiv_eq_ediv_of_nonneg->Ov
open Inhabited renaming default->NC
namespace Go.CE
open Go Go.RowKit

def wz:OO->CM
 | .ret _=>.ret
 | .ZH v=>.ZH v
def MB:OO->Value
 | .ret _=>.nilIface
 | .ZH v=>v
def MJ:CM->Option OO
 | .run=>none
 | .ret=>some (.ret (.tuple #[]))
 | .ZH v=>some (.ZH v)
theorem HH{m:CM}{o:OO}(h:MJ m=some o):m=wz o:=by
 cases m with
 |run=>cases h
 |ret=>cases h;rfl
 |ZH v=>cases h;rfl
def EY(T:Tm):Tm:=ofList T.len ((NI T.len).map (XB T))
theorem EX{μ:Mu}{T:Tm}{A:Array Value}(hl:T.len<=16000)(h:TR μ T A):TR μ (EY T) A:=by
 refine⟨h.1,fun t=> ?_⟩;simp only[EY,XB,ofList];rw[aA _ _ _ _ (by simp;omega)];split
 ·rename_i ht;have ht:t<T.len:=by simpa using ht
  have:=h.2 t;simp only[XB]at this;rw[Nat.sub_zero,NJ,NX,List.getElem?_range ht];exact this
 ·rename_i ht;have ht:T.len<=t:=by simpa using ht
  rw[Tri.get_lf];have hA:A.getD t undef=undef:=by
   rw[Array.getD_eq_getD_getElem?,OG (by rw[<-h.1];exact ht)];rfl
  rw[hA];exact VR.undef
structure N2 where
 c:CF
 H:Qp
 n:Nat
 g:FuncId
 args:Array Value
 R:List Nat
 W:List Nat
noncomputable def C8(P:Program)(F:FuncId->Bool)(c1:CF)(H:Qp)(n:Nat):Option N2:=
 match c1.mode,c1.todo,c1.defers,c1.roundOf with
 | .run,.code (.region _ ops false)::todo,[],none=>match sm P F Xw 0 ops c1 H n with
   |some s=>match s.o.op,s.post with
    | .defer c,[]=>match c.callee with
      | .value x=>match Zd s.T x with
        |some (.func (.func g) xs ys)=>bif c.args.isEmpty && F g && Oo s.T.len 16000 then some ⟨⟨c1.fn,EY (Vy s.T s.o.dst undef),todo,[],.run,none⟩,s.H,s.n,g,xs++ys,K7 s.Qy,VU s.Qy⟩else none
        |_=>none
      |_=>none
    |_,_=>none
   |none=>none
 |_,_,_,_=>none
def UJ(P:Program)(B:Lo)(c:CF)(H:Qp)(n:Nat)(out:OO)(live:List (Nat×Value))(H':Qp)(n':Nat)(R W:List Nat):Prop:=
 ∃(d:Nat->Value) (td:List Item),GoJ P B c H n ⟨c.fn,Gw c.tmps.len live d,td,[],wz out,c.roundOf⟩ H' n' R W
noncomputable def sk(P:Program)(F:FuncId->Bool)(J:World->Prop)(B:Lo)(k b:Nat)(c:CF)(H:Qp)(n:Nat)(out:OO)(live:List (Nat×Value))(Ut:Qp)(n':Nat)(Wk:List Nat)(res:Value)(resR:List Nat):Option ST:=
 match Qv P F J B k b c H n [] 0 [] []with
 |some ⟨.at c1 H1 n1,W1,L1⟩=>match C8 P F c1 H1 n1 with
  |some s=>match ez P F Xw 0 b s.g s.args (MB out) (Ut++s.H) n' [] (ZT b Wk (ZT b s.W W1))with
   |some m3=>some ⟨.fin (.ret res) m3.H m3.n,m3.W,UJ P B s.c s.H s.n out live (Ut++s.H) n' (NI s.n) Wk::(∀d,j4 P s.c.fn m3.H (Gw s.c.tmps.len live d)=some (res,resR))::L1⟩
   |none=>none
  |none=>none
 |_=>none
def Ld(P:Program)(B:Lo)(b:Nat)(c:CF)(H:Qp)(n:Nat)(s:Option ST):Prop:=
 ∀out H' n' W' L',s=some ⟨.fin out H' n',W',L'⟩->Q7 L'->∃R W2,FJ P B c H n out H' n' R W2/\∀i,i<b->(i∈W'<->i∈W2)
section
variable {P:Program} {F:FuncId->Bool} {J:World->Prop} {B:Lo} {c0 c:CF} {Hb H:Qp} {a n:Nat} {W Wf:List Nat}
theorem so(hF:∀g,F g=true->QA P g=true)(XS:P.follows .mixedOrders=true){c1:CF}{H1:Qp}{n1:Nat}{s:N2}(hu:Under H1 n1)(h:C8 P F c1 H1 n1=some s):
 Shape H1 n1 s.H s.n s.R s.W/\Under s.H s.n/\F s.g=true/\s.c.fn=c1.fn/\s.c.roundOf=none/\s.c.defers=[]/\s.c.mode=.run/\
 ∀(S:Nat->Prop) (n N:Nat) (W:List Nat) (μ0 μ:Mu) (H0:Qp) (w0 w:World),Sofar B S n N W μ0 μ H0 H1 n1 w0 w->(∀i,S i->i<n)->s.n<=N->(∀i∈s.R,i<n->S i)->∀(Up:Frame) (cs:List Frame),FrR Bot.no μ c1 Up->
  ∃(xs' ys':Array Value) (fr2:Frame) (w':World) (μ':Mu),Sofar B S n N (W++s.W) μ0 μ' H0 s.H s.n w0 w'/\Ext μ μ'/\FrR ⟨[{target:=.fn (.func s.g) ys',args:=xs'}],.normal⟩ μ' s.c fr2/\fr2.fn=Up.fn/\VRs μ' s.args (xs'++ys')/\Steps P (lone Up cs w) (lone fr2 cs w'):=by
 unfold C8 at h;split at h
 ·rename_i id ops todo hmode1 htodo1 hds1 KM;split at h
  ·rename_i q hs;obtain⟨pre,e1,e2,e3,e4,e5,e6,e7,e8⟩:=SQ (B:=B) hF XS (QL P B) hu hs;split at h
   ·rename_i c Zi XF;split at h
    ·rename_i x hcal;split at h
     ·rename_i g xs ys hx;cases hca:(c.args.isEmpty && F g && Oo q.T.len 16000)with
      |false=>rw[hca]at h;cases h
      |true=>
       rw[hca]at h;simp only[cond_true,YO]at h;subst h;simp only[YB]at hca;have hlenT:=YL hca.2;have sh2:=ZN q.Qy _ _ _ _ _ _ e4 e2;refine⟨sh2,e6,hca.1.2,rfl,rfl,rfl,rfl,fun S n N W μ0 μ H0 w0 w s1 hS hN hR Up cs U4=> ?_⟩;simp only at hN hR ⊢;have hro1:Up.roundOf=none:=by
        have:=U4.round;rw[KM]at this;generalize Up.roundOf=z at this ⊢;cases z with
        |none=>rfl
        |some z=>cases this
       obtain⟨ha,hb,hd⟩:=U4.running hmode1;rw[htodo1]at hd;obtain⟨L',hL,hL'⟩:=hd.code;have hd1:Up.defers=[]:=by
        have:=U4.defers;rw[hds1]at this;exact this.empty
       rw[XF]at e1;have hlen:ops.size=pre.length+(0+1):=by
        have:=congrArg NG e1;simp at this;omega
       have hat:ops[pre.length]? =some q.o:=by
        rw[<-NM,e1,NL (NZ _)];simp
       have hplen:q.Qy.length=pre.length:=by have:=congrArg NG e5;simpa using this
       have hown1:∀(j:Nat) r,q.Qy[j]? =some r->ops[0+j]? =some r.o:=by
        intro j r hj;rw[Ob];exact Ud (l:=ops.toList) (l2:=[q.o]) (by rw[e5];exact e1.symm) rfl j r hj
       obtain⟨A1,w2,μ2,s2,hT2,x2,st2⟩:=s1.seq hS e4 e2 e3 0 hown1 rfl hN hR ha hb (pre.length::Oa (pre.length+1) 0) L' cs;have Y1:step P (lone Up cs w)=.next (lone (Xj Up Up.tmps ops (Oa 0 ops.size) L') cs w):=ZW ha hL;rw[range_split hlen]at Y1;rw[hplen]at st2;have Uu:Region.wanted q.o (yielded ops A1)=true:=by rw[UG hT2];exact e8
       have hvx:=mS (fr:=Xj Up A1 ops (pre.length::Oa (pre.length+1) 0) L') hT2 x _ hx;have hca':c.args=#[]:=by simpa[Array.isEmpty]using hca.1.1
       generalize hgx:(Xj Up A1 ops (pre.length::Oa (pre.length+1) 0) L').eval x=ux at hvx;cases hvx with
       |func q1 q2 q3 q4=>
        rename_i xs' ys';have hdv:(Deferred.ofValue ((Xj Up A1 ops (pre.length::Oa (pre.length+1) 0) L').eval x) (c.args.map (Xj Up A1 ops (pre.length::Oa (pre.length+1) 0) L').eval)).run P w2=.ok {target:=.fn (.func g) ys',args:=xs'} w2:=by
         rw[hgx,hca'];simp[Deferred.ofValue]
        have st3:=step_defer (cs:=cs) (w:=w2) ha hro1 hat Uu Zi hcal hdv;rw[Yx hat]at st3;have hdst:=KP e7;have hT3:TR μ2 (Vy q.T q.o.dst undef) (putA A1 undef q.o.dst):=hT2.putA hdst VR.undef;have st4:step P (lone {Xj Up (putA A1 undef q.o.dst) ops (Oa (pre.length+1) 0) L' with defers:={target:=.fn (.func g) ys',args:=xs'}::Up.defers} cs w2)=
         .next (lone {Up with tmps:=putA A1 undef q.o.dst,todo:=L',defers:={target:=.fn (.func g) ys',args:=xs'}::Up.defers} cs w2):=
         Vk (fr:={Up with defers:={target:=.fn (.func g) ys',args:=xs'}::Up.defers}) (A:=putA A1 undef q.o.dst) (ops:=ops) (k:=L') ha
        have k1:VRs μ2 xs xs':=⟨q1,q3⟩
        have k2:VRs μ2 ys ys':=⟨q2,q4⟩
        refine⟨xs',ys',{Up with tmps:=putA A1 undef q.o.dst,todo:=L',defers:={target:=.fn (.func g) ys',args:=xs'}::Up.defers},w2,μ2,s2,x2,⟨U4.fn,EX (by rw[VX];exact hlenT) hT3,fun _=>hL'.mono x2,.of_empty (by simp[hd1]), ?_,U4.kind,by rw[<-KM];exact U4.round.mono x2⟩,rfl,k1.append k2,.head Y1 (st2.trans (.head st3 (.one st4)))⟩;have:=U4.mode;rw[hmode1]at this;show MR μ2 .run Up.mode;generalize Up.mode=z at this ⊢;cases this;exact .run
     ·cases h
    ·cases h
   ·cases h
  ·cases h
 ·cases h
theorem sj(hF:∀g,F g=true->QA P g=true)(hJ:∀w,B.has w->J w)(XS:P.follows .mixedOrders=true){k b:Nat}{out:OO}{live:List (Nat×Value)}{Ut:Qp}{n':Nat}{Wk:List Nat}{res:Value}{resR:List Nat}(hu:Under H n):
 Ld P B b c H n (sk P F J B k b c H n out live Ut n' Wk res resR):=by
 intro o H' nz W' L' h ha;unfold sk at h;split at h
 ·rename_i c1 H1 n1 W1 L1 hs1;split at h
  ·rename_i s hs2;split at h
   ·rename_i m3 hm3;simp only[YO,ST.mk.injEq,SR.fin.injEq]at h;obtain⟨⟨rfl,rfl,rfl⟩,rfl,rfl⟩:=h;obtain⟨⟨d,td,hU⟩,hres,hL1⟩:=ha;have hres:=hres d;obtain⟨R1,W1',g1,a1⟩:=Wd hF hJ XS k b c H n [] 0 [] [] _ hu hs1 hL1;have g1:GoJ P B c H n c1 H1 n1 R1 W1':=g1;simp only at a1;have St:Under H1 n1:=hu.shape g1.shape;obtain⟨sh2,hu2,hFg,hfn2,hro2,hds2,hmode2,hsp⟩:=so (B:=B) hF XS St hs2;have hu3:Under (Ut++s.H) n':=hu2.shape hU.shape;obtain⟨Rr,Wr,sh3,ar,br,hsem⟩:=cc (B:=B) hF XS (QL P B) hu3 hm3;have hu4:Under m3.H m3.n:=hu3.shape sh3;have Yb:=((g1.shape.trans sh2).trans hU.shape).trans sh3;have l1:=g1.shape.le;have l2:=sh2.le;have l3:=hU.shape.le;have l4:=sh3.le;refine⟨(((R1++s.R)++NI s.n)++Rr)++resR,((W1'++s.W)++Wk)++Wr,⟨⟨Yb.le,Yb.keep,Yb.top,fun i hi=>NK _ (Yb.sub i hi),Yb.wlt⟩,fun S μ w fr cs QD hB hS hf hfr0 hR=> ?_⟩,fun i hi=> ?_⟩
    ·simp only[OD]at hR;have sf0:Sofar B S n m3.n [] μ μ H H n w w:=⟨Post.refl QD,hB,hf⟩
     obtain⟨Up,w1,μ1,s1,U4,hr1,hfn1,st1,x1⟩:=sf0.goj hS g1 (by omega) (fun i hi=>hR i (.inl (.inl (.inl (.inl hi))))) hfr0 cs;obtain⟨xs',ys',fr2,w2,μ2,s2,x2,hfr2,hfnq,hvargs,st2⟩:=hsp S n m3.n _ μ μ1 H w w1 s1 hS (by omega) (fun i hi=>hR i (.inl (.inl (.inl (.inr hi))))) Up cs U4;obtain⟨fr3,w3,μ3,s3,hfr3,hr3,hfn3,st3,x3⟩:=s2.goj hS hU (by omega) (fun i hi=>hR i (.inl (.inl (.inr hi)))) hfr2 cs;have hd3:fr3.defers=[{target:=.fn (.func s.g) ys',args:=xs'}]:=by
      have:=hfr3.defers;exact this.empty
     have hun:rC μ3 (MB out) {fr3 with defers:=[]}/\fr3.mode≠.run:=by
      have hm:=hfr3.mode;simp only at hm;generalize fr3.mode=q at hm ⊢;cases out with
      |ret v=>
       simp only[wz]at hm;cases hm;exact⟨.inl ⟨rfl,rfl⟩,fun e=>by cases e⟩
      |ZH v=>
       simp only[wz]at hm;cases hm with
       |ZH Vt=>exact⟨.inr ⟨_,Vt,rfl⟩,fun e=>by cases e⟩
     have st6:step P (lone fr3 cs w3)=.next (lone (Frame.enter P s.g (xs'++ys') .deferred) ({fr3 with defers:=[]}::cs) w3):=
      Jm hun.2 hd3 rfl (S3 (hF s.g hFg) _ w3)
     obtain⟨w4,μ4,s4,x4,st7⟩:=hsem S n m3.n _ μ μ3 H w w3 s3 hS (NZ _) (fun i hi=>hR i (.inl (.inr hi))) _ {fr3 with defers:=[]} cs (hvargs.mono x3) hun.1
     obtain⟨fn,v',hfn,hresr,Vt⟩:=j3 hu4 s4.post.ok (hfr3.tmps.mono x4) hres (fun i hi Xm=>by
      rcases Oe i n with h1|h1
      ·exact .inl (hR i (.inr hi) h1)
      ·exact .inr ⟨h1,Xm⟩)
     have hfnE:fr3.fn=fr.fn:=by rw[hfn3,hfnq,hfn1]
     have hro3:fr3.roundOf=none:=by
      have:=hfr3.round;simp only[hro2]at this;generalize fr3.roundOf=z at this ⊢;cases z with
      |none=>rfl
      |some z=>cases this
     have JK:({fr3 with defers:=[],mode:=.returning}:Frame).leaving P w4 (.returned v'):=⟨rfl,rfl,hfr3.kind,fn,by rw[<-hfn,hfr3.fn],hresr⟩
     have XZ:Steps P (lone fr cs w) (lone {fr3 with defers:=[],mode:=.returning} cs w4):=
      st1.trans (st2.trans (st3.trans (.head st6 st7)))
     refine⟨.ret v',w4,μ4,s4.post.lists (fun i hi=>by simp[List.append_assoc]),.ret Vt,fun _=>⟨_,XZ,hfnE,JK⟩,fun c1 cs' e=> ?_⟩;subst e;exact XZ.trans (.one (step_leave_returned JK))
    ·rw[br i hi,Zo hi,Zo hi,a1 i hi];simp only[OD,List.not_mem_nil,false_or]
   ·cases h
  ·cases h
 ·cases h
def landU(a:Nat)(s:Option ST)(Pb:List Nat)(wks keeps:List (Nat×KS))(fz:List Fz):Option (FuncId×Nat×Option Nat×OO×List Value×Qp×List Obj×List Prop):=match s with
 |some ⟨.at c H _,W,L⟩=>bif PF a H W wks keeps fz && c.todo.all VF then
  match MJ c.mode,c.defers with
  |some o,[]=>match oX (rp H a (bn a (keeps.map (·.1))) fz 4) o,oY (rp H a (bn a (keeps.map (·.1))) fz 4) (Pb.map (XB c.tmps)),wx H a (bn a (keeps.map (·.1))) fz wks,S1 H a (bn a (keeps.map (·.1))) fz keeps with
   |some (o1,L0),some (vs,L1),some (ws,L3),some (os,L2)=>some (c.fn,c.tmps.len,c.roundOf,o1,vs,ws,os,L0++(L1++(L3++(L2++L))))
   |_,_,_,_=>none
  |_,_=>none
   else none
 |_=>none
def FinU(P:Program)(B:Lo)(c0:CF)(Hb:Qp)(a:Nat)(out:OO)(live:List (Nat×Value))(ws:Qp)(os:List Obj)(Wf:List Nat):Prop:=
 ∃(d:Nat->Value) (td:List Item),GoE P B c0 Hb a ⟨c0.fn,Gw c0.tmps.len live d,td,[],wz out,c0.roundOf⟩ (Z9 Hb a ws os) (a+1+os.length) Wf
theorem FinU.cast{out out1:OO}{live:List (Nat×Value)}{ws ws1:Qp}{os os1:List Obj}(h:FinU P B c0 Hb a out live ws os Wf)(e1:out=out1)(e2:ws=ws1)(e3:os=os1):FinU P B c0 Hb a out1 live ws1 os1 Wf:=e1 ▸ e2 ▸ e3 ▸ h
theorem GoE.landU(hF:∀g,F g=true->QA P g=true)(hJ:∀w,B.has w->J w)(XS:P.follows .mixedOrders=true){wks:List (Nat×KS)}(hu:Under Hb a)(hw:Writable Hb a (wks.map (·.1)))(h:GoE P B c0 Hb a c H n (wks.map (·.1))){fuel:Nat}{sc:QE}{Pb:List Nat}{keeps:List (Nat×KS)}{fz:List Fz}{out:OO}{vs:List Value}{ws:Qp}{os:List Obj}{L:List Prop}
 (e:CE.landU a (Qv P F J B fuel a c H n sc 0 [] []) Pb wks keeps fz=some (c0.fn,c0.tmps.len,c0.roundOf,out,vs,ws,os,L)) (hL:Q7 L) (hlen:Oo c0.tmps.len 16000=true) (KM:c0.roundOf=none):
 FinU P B c0 Hb a out (Pb.zip vs) ws os (wks.map (·.1)):=by
 unfold CE.landU at e;split at e
 ·rename_i c' H' n' W' L' hs;cases hqq:(PF a H' W' wks keeps fz && c'.todo.all VF)with
  |false=>rw[hqq]at e;cases e
  |true=>
   rw[hqq]at e;simp only[cond_true]at e;rw[YB]at hqq;obtain⟨hq,hplain⟩:=hqq;split at e
   ·rename_i o0 hoo hdf;split at e
    ·rename_i o1 L0 vs0 L1 ws0 L3 os0 L2 ho1 hvs hws hos;simp only[YO,YR]at e;obtain⟨e1,e2,e6,rfl,rfl,rfl,rfl,rfl⟩:=e;obtain⟨hL0,hLr⟩:=Xg hL;obtain⟨hL1,hLr⟩:=Xg hLr;obtain⟨hL3,hLr⟩:=Xg hLr;obtain⟨hL2,hL4⟩:=Xg hLr;obtain⟨R,W2,JL,hiff⟩:=Wd hF hJ XS fuel a c H n sc 0 [] [] _ h.under hs hL4;have hg:=(h.step JL).widen (Wf:=wks.map (·.1)) (fun i hi hm=>by
      rcases List.mem_append.1 hm with hm|hm
      ·exact hm
      ·have hi':i∈W':=(hiff i hi).2 (.inr hm);unfold PF at hq;simp only[YB]at hq;simpa using List.all_eq_true.1 hq.1.1.1.1 i hi') hw
     have hd:∀t,∃d,X4 d/\∀μ v',VR μ (XB c'.tmps t) v'->VR μ d v':=fun t=>Kg _
     have wslt:∀i o,Qu ws0 i=some o->i<a:=fun i o ho=>by
      have hq':=hq;unfold PF at hq';simp only[YB]at hq';have Y1:i∈wks.map (·.1):=Decidable.of_not_not fun e=>by
       have:=(dX wks ws0 L3 hws i).1.2 e;rw[this]at ho;cases ho
      obtain⟨k,hk,rfl⟩:=List.mem_map.1 Y1;exact YL (List.all_eq_true.1 hq'.1.1.1.2 k hk)
     have hmo:=HH hoo;refine⟨fun t=>Classical.choose (hd t),c'.todo,SL hu wslt,by omega,fun Z μ w fr cs QD hB hf XC=> ?_⟩;obtain⟨fr',w',μ',hp,Y9,ha,hb,XZ⟩:=hg.sem Z μ w fr cs QD hB hf XC;obtain⟨μ1,im1,hco,XF,Vw,_⟩:=bA hu hw hg.under hq QD hf hp hws hos hL3 hL2;refine⟨fr',w',μ1,XF,⟨by rw[Y9.fn,e1], ?_,fun hpn=> ?_, ?_, ?_,Y9.kind, ?_⟩,ha,hb,XZ⟩
     ·refine Y9.tmps.merge e2 (YL hlen) (fun p hp v' hv=> ?_) fun t=>Classical.choose_spec (hd t)
      obtain⟨i,hi⟩:=List.getElem?_of_mem hp;rw[List.getElem?_zip_eq_some]at hi;obtain⟨hi1,hi2⟩:=hi;obtain⟨u,L',ha,hb,hc⟩:=(iR _ _ _ hvs).2 i p.2 hi2;rw[NX,hi1]at ha;simp only[Oh,YO]at ha;subst ha;exact VI hco 4 _ _ _ _ hb (hc hL1) hv
     ·refine(Y9.todo ?_).plain hplain;rw[hmo];unfold oX at ho1;split at ho1
      ·rfl
      ·split at ho1
       ·simp only[YO,YR]at ho1;obtain⟨rfl,_⟩:=ho1;cases hpn
       ·cases ho1
     ·have:=Y9.defers;rw[hdf]at this;exact .of_empty this.empty
     ·have hm:=Y9.mode;rw[hmo]at hm;show MR μ1 (wz _) fr'.mode;generalize fr'.mode=z at hm ⊢;unfold oX at ho1;split at ho1
      ·split at ho1
       ·simp only[YO,YR]at ho1;obtain⟨rfl,_⟩:=ho1;simp only[wz]at hm ⊢;cases hm;exact .ret
       ·cases ho1
      ·split at ho1
       ·rename_i hv2;simp only[YO,YR]at ho1;obtain⟨rfl,rfl⟩:=ho1;simp only[wz]at hm ⊢;cases hm with
        |ZH Vt=>exact .ZH (VI hco 4 _ _ _ _ hv2 hL0 Vt)
       ·cases ho1
     ·have:=Y9.round;rw[e6,KM]at this;show RoR μ1 c0.roundOf fr'.roundOf;rw[KM];generalize fr'.roundOf=x at this ⊢;cases x with
      |none=>trivial
      |some x=>cases this
    ·cases e
   ·cases e
 ·cases e
theorem FrR.lowZ{Z:Bot}{μ μ0:Mu}{fr:Frame}(hμ:∀b,b<a->μ0 b=μ b)(hs:∀t,P2 a 4 (XB c.tmps t)=true\/X4 (XB c.tmps t))(hp:c.todo.all VF=true)(hd:c.defers=[])(hm:c.mode=.run)(hr:c.roundOf=none)(h:FrR Z μ c fr):FrR Z μ0 c fr:=by
 have hpans:c.mode.pans=false:=by rw[hm];rfl
 refine⟨h.fn,oT hμ hs h.tmps,fun _=>(h.todo hpans).plain hp, ?_, ?_,h.kind, ?_⟩
 ·have:=h.defers;rw[hd]at this ⊢;exact .of_empty this.empty
 ·have:=h.mode;rw[hm]at this ⊢;generalize fr.mode=ds at this ⊢;cases this;exact .run
 ·have:=h.round;rw[hr]at this ⊢;generalize fr.roundOf=x at this ⊢;cases x with
  |none=>trivial
  |some x=>cases this
theorem FinU.uj{out:OO}{live:List (Nat×Value)}{ws:Qp}{os:List Obj}(h:FinU P B c0 Hb a out live ws os Wf)(hub:Under Hb a)(hws:∀i o,Qu ws i=some o->i<a/\i∈Wf)(hWf:∀i∈Wf,i<a)(hs:∀t,P2 a 4 (XB c0.tmps t)=true\/X4 (XB c0.tmps t))(hp:c0.todo.all VF=true)(hd:c0.defers=[])(hm:c0.mode=.run)(hr:c0.roundOf=none)(hob:∀i o,Qu Hb i=some o->wD a o):
 UJ P B c0 Hb a out live ((ws++((a,Xp)::Xk (a+1) os))++Hb) (a+1+os.length) (NI a) Wf:=by
 have hG:(ws++((a,Xp)::Xk (a+1) os))++Hb=Z9 Hb a ws os:=by unfold Z9;simp
 rw[hG];obtain⟨d,td,h⟩:=h;refine⟨d,td,⟨by omega,fun i hi hw=> ?_,fun i hi=> ?_,fun i hi=>List.mem_range.2 (hWf i hi),fun i hi=>by have:=hWf i hi;omega⟩,fun S μ w fr cs Z QD hB hS hf XC hR=> ?_⟩
 ·rw[Uo];cases hg:Qu ws i with
  |some o=>exact absurd (hws i o hg).2 hw
  |none=>simp only;rw[if_neg (by omega),if_neg (by omega)]
 ·rw[Uo];cases hg:Qu ws i with
  |some o=>have:=(hws i o hg).1;omega
  |none=>simp only;rw[if_neg (by omega),if_neg (by omega)]
 ·have hSeq:S=fun i=>i<a:=funext fun i=>propext ⟨hS i,fun hi=>hR i (List.mem_range.2 hi) hi⟩
  subst hSeq;let μc:Mu:=fun i=>if i<a then μ i else none
  have hμc:∀b,b<a->μc b=μ b:=fun b hb=>by show(if b<a then μ b else none)=μ b;rw[if_pos hb]
  have hokc:Ok B.B (fun i=>i<a) μc (Qu Hb) w:=by
   refine⟨fun i o hi hg hl=> ?_,fun i o im hi hg hl QI=> ?_,fun i j oi oj x y hi hj K1 hg1 hg2 l1 l2 m1 m2 r1 r2=> ?_,fun i o hi hg hr=> ?_,fun i j oi oj x y z hi hj hg1 hg2 r1 l2 m1 m2 KY=> ?_⟩
   ·obtain⟨im,QI,ZU⟩:=QD.rel i o hi hg hl;exact⟨im,(hμc i hi).trans QI,OR.low hμc (hob i o hg) ZU⟩
   ·exact QD.low i o im hi hg hl ((hμc i hi).symm.trans QI)
   ·exact QD.inj i j oi oj x y hi hj K1 hg1 hg2 l1 l2 ((hμc i hi).symm.trans m1) ((hμc j hj).symm.trans m2) r1 r2
   ·obtain⟨im,QI,hx⟩:=QD.Y0 i o hi hg hr;exact⟨im,(hμc i hi).trans QI,hx⟩
   ·exact QD.sep i j oi oj x y z hi hj hg1 hg2 r1 l2 ((hμc i hi).symm.trans m1) ((hμc j hj).symm.trans m2) KY
  have hfc:∀i,a<=i->μc i=none:=fun i hi=>by show(if i<a then μ i else none)=none;rw[if_neg (by omega)]
  obtain⟨fr',w',μ',XF,Y9,hro',hfn',XZ⟩:=h.sem Z μc w fr cs hokc hB hfc (XC.lowZ hμc hs hp hd hm hr);have Vw:∀i,a+1+os.length<=i->μ' i=none:=fun i hi=>by rw[XF.ext i (by omega)];exact hfc i (by omega)
  let μ2:Mu:=fun i=>if i<a+1+os.length then μ' i else μ i
  have hμ2:∀i,i<a+1+os.length->μ2 i=μ' i:=fun i hi=>by show(if i<a+1+os.length then μ' i else μ i)=μ' i;rw[if_pos hi]
  have ext2:Ext μ' μ2:=fun k im hk=>by
   rcases Oe k (a+1+os.length)with h1|h1
   ·rw[hμ2 k h1];exact hk
   ·rw[Vw k h1]at hk;cases hk
  have Slt:∀i,(i<a\/a<=i/\i<a+1+os.length)->i<a+1+os.length:=fun i h=>by omega
  refine⟨fr',w',μ2,⟨?_,by omega,fun i hi=> ?_,fun i hi hw=> ?_,XF.grow,fun b hb hx=>XF.frame b hb fun i hiW hi im QI=>hx i hiW hi im ((hμc i hi).symm.trans QI),fun i hiW hi=> ?_,fun i im o h1 h2 ho hl QI=> ?_,fun i im o hc ho hr QI b x hx=> ?_,XF.os,XF.tape,XF.output⟩,Y9.mono ext2,hro',hfn',XZ⟩
  ·have ok:=XF.ok;refine⟨fun i o hi hg hl=> ?_,fun i o im hi hg hl QI=> ?_,fun i j oi oj x y hi hj K1 hg1 hg2 l1 l2 m1 m2 r1 r2=> ?_,fun i o hi hg hr=> ?_,fun i j oi oj x y z hi hj hg1 hg2 r1 l2 m1 m2 KY=> ?_⟩
   ·obtain⟨im,QI,ZU⟩:=ok.rel i o hi hg hl;exact⟨im,(hμ2 i (Slt i hi)).trans QI,ZU.keep ext2 rfl⟩
   ·exact ok.low i o im hi hg hl ((hμ2 i (Slt i hi)).symm.trans QI)
   ·exact ok.inj i j oi oj x y hi hj K1 hg1 hg2 l1 l2 ((hμ2 i (Slt i hi)).symm.trans m1) ((hμ2 j (Slt j hj)).symm.trans m2) r1 r2
   ·obtain⟨im,QI,hx⟩:=ok.Y0 i o hi hg hr;exact⟨im,(hμ2 i (Slt i hi)).trans QI,hx⟩
   ·exact ok.sep i j oi oj x y z hi hj hg1 hg2 r1 l2 ((hμ2 i (Slt i hi)).symm.trans m1) ((hμ2 j (Slt j hj)).symm.trans m2) KY
  ·rcases Oe i a with h1|h1
   ·rw[hμ2 i (by omega),XF.ext i (by omega),hμc i h1]
   ·show(if i<a+1+os.length then μ' i else μ i)=μ i;rw[if_neg (by omega)]
  ·exact XF.keep i hi hw
  ·obtain⟨p,q,im,s,t⟩:=XF.wr i hiW hi;exact⟨p,q,im,(hμc i hi).symm.trans s,t⟩
  ·obtain⟨p,q⟩:=XF.fresh i im o h1 h2 ho hl ((hμ2 i h2).symm.trans QI);exact⟨p,q.imp id fun⟨k,x,y,⟨Z8,m,m2⟩,z⟩=>⟨k,x,y,⟨Z8,(hμc k y).symm.trans m,m2⟩,z⟩⟩
  ·have Xm:i<a+1+os.length:=by omega
   rcases XF.rf i im o hc ho hr ((hμ2 i Xm).symm.trans QI) b x hx with e|⟨k,VV,ko,p,q,r,s,t,u⟩|⟨k,p,q,⟨Z8,m,m2⟩,z⟩
   ·exact .inl e
   ·exact .inr (.inl ⟨k,VV,ko,p,q,r,s,(hμc k q).symm.trans t,u⟩)
   ·exact .inr (.inr ⟨k,p,q,⟨Z8,(hμc k q).symm.trans m,m2⟩,z⟩)
theorem FinU.ujB{fn:FuncId}{len:Nat}{l:List Value}{todo:List Item}{out:OO}{live:List (Nat×Value)}{ws:Qp}{os:List Obj}{ex:List Nat}(h:FinU P B ⟨fn,ofList len l,todo,[],.run,none⟩ Hb a out live ws os Wf)(e:Iv a l todo none Hb ws Wf ex=true)(hx:Gv a Hb ex):
 UJ P B ⟨fn,ofList len l,todo,[],.run,none⟩ Hb a out live ((ws++((a,Xp)::Xk (a+1) os))++Hb) (a+1+os.length) (NI a) Wf:=by
 simp only[Iv,YB]at e;obtain⟨e1,e2,e3,e4,e5,e6,e7,e8⟩:=e;have e8:=YL e8;refine h.uj (Q9 e4) (fun i o ho=> ?_) (fun i hi=>YL (List.all_eq_true.1 e7 i hi)) (fun t=> ?_) e2 rfl rfl rfl (fun i o ho=> ?_)
 ·have:=List.all_eq_true.1 e6 _ (aD ho);simp only[YB]at this;exact⟨YL this.1,by simpa using this.2⟩
 ·simp only[XB,ofList];rw[aA _ _ _ _ (by omega)];split
  ·rename_i ht;have ht:t<l.length:=by omega
   refine .inl (List.all_eq_true.1 e1 _ ?_);rw[Nat.sub_zero,NJ,OF ht];exact List.getElem_mem ht
  ·rw[Tri.get_lf];exact .inr (JI (by simp[Go.undef,af]))
 ·have:=List.all_eq_true.1 e5 _ (aD ho);simp only[Bool.or_eq_true]at this;rcases this with h1|h1
  ·exact m9 hx h1 ho
  ·exact vF h1
theorem GoE.endsTx{c0 c:CF}{H:Qp}{n:Nat}{s:Option ST}(hok0:Ld P B 1 c H n s)(h:GoE P B c0 Ze 1 c H n []){fz:List Fz}{out:Value}{L:List Prop}
 (e:Xe s fz=some (out,L)) (hL:Q7 L):EndsT P B c0 out:=by
 unfold Xe at e;split at e
 ·rename_i v H' n' W' L';cases hW:W'.isEmpty with
  |false=>rw[hW]at e;cases e
  |true=>
   rw[hW]at e;simp only[cond_true]at e;split at e
   ·rename_i t R2 L2 XZ;simp only[YO,YR]at e;obtain⟨rfl,rfl⟩:=e;obtain⟨hL2,hL1⟩:=Xg hL;have hWe:W'=[]:=by simpa using hW
    subst hWe;obtain⟨R,W2,hfj,hiff⟩:=hok0 _ _ _ _ _ rfl hL1;intro μ w fr cs im QD hB hf QI XC;obtain⟨Zf,w',μ',hp,ho,he⟩:=h.fj hfj μ w fr cs QD hB hf XC;have hnoW:∀i,i∈[]++W2->¬i<1:=fun i hi Xm=>by
     have:=(hiff i Xm).2 (by simpa using hi);simp at this
    have Sx:Below w.heap.size w w':=⟨hp.os,hp.tape,hp.output,hp.grow,fun b hb=>hp.frame b hb fun i hi hl=>absurd hl (hnoW i hi)⟩
    cases ho with
    |ret Vt=>
     rename_i v';refine⟨v',w',Sx, ?_,he⟩;have hu':Under H' n':=h.under.shape hfj.shape;have hle:=hp.le
     -- of what is looked at, all is there
     have VO:∀r,(Qu H' r).isSome->r<1\/1<=r/\r<n':=fun r hr=>by
      have:r<n':=by
       cases hg:Qu H' r with
       |none=>rw[hg]at hr;cases hr
       |some o=>exact hu'.lt hg
      omega
     have hok2:Ok B.B (fun _=>True) μ' (Qu H') w':=
      ⟨fun i o _ ho=>hp.ok.rel i o (VO i (by rw[ho];rfl)) ho,fun i o im _ ho=>hp.ok.low i o im (VO i (by rw[ho];rfl)) ho,
       fun i j oi oj a b _ _ Pr Wc Wb=>hp.ok.inj i j oi oj a b (VO i (by rw[Wc];rfl)) (VO j (by rw[Wb];rfl)) Pr Wc Wb,
       fun i o _ ho=>hp.ok.Y0 i o (VO i (by rw[ho];rfl)) ho,fun i j oi oj a b x _ _ Wc Wb=>hp.ok.sep i j oi oj a b x (VO i (by rw[Wc];rfl)) (VO j (by rw[Wb];rfl)) Wc Wb⟩
     refine(Kp hok2 3 v v' t R2 L2 XZ hL2 (fun _ _=>trivial) Vt).mono fun b x hx=> ?_
     have hw:=WR hx;unfold K8 at hx;split at hx
     ·rename_i hc;obtain⟨i,_,o,im2,hio,WA,Uv⟩:=hc;have hi:=VO i (by rw[hio];rfl);have old0:∀i,i<1->i=0:=fun i h=>by omega
      have keep0:Qu H' 0=some Xp:=by
       rw[hp.keep 0 (by omega) fun e=>hnoW 0 e (by omega)];rfl
      have mu0:μ' 0=some im:=by rw[hp.ext 0 (by omega)];exact QI
      have below:b<w.heap.size->im.fm b=some x->P8 im.fm w w' b=some x:=fun h1 h2=>by unfold P8;rw[if_pos h1];exact h2
      have above:w.heap.size<=b->P8 im.fm w w' b=some x:=fun h1=>by unfold P8;rw[if_neg (by omega)];exact hw
      have from0:im.fm b=some x->P8 im.fm w w' b=some x:=fun h=>by
       refine below ?_ h;exact Y3 QD (i:=0) (o:=Xp) (show 0<1 by omega) rfl trivial QI h
      rcases Uv with ⟨WK,K1⟩|⟨hl,hb⟩
      ·cases hfx:im2.fm b with
       |none=>exact absurd hfx K1
       |some y=>
        obtain⟨im3,him3,hf3⟩:=hp.ok.Y0 i o hi hio WK;rw[WA]at him3;cases him3;have:=hf3 b y hfx;rw[hw]at this;cases this;rcases hi with hi|hi
        ·rw[old0 i hi,mu0]at WA;cases WA;exact from0 hfx
        ·rcases hp.rf i im2 o (.inl hi) hio WK WA b x hfx with c|⟨k,VV,ko,hk,_,hko,_,Sw,hkb⟩|⟨k,hk,hkn,_⟩
         ·exact above c
         ·rw[old0 k hk,QI]at Sw;cases Sw;exact from0 hkb
         ·exact absurd hkn (hnoW k hk)
      ·rcases hi with hi|hi
       ·rw[old0 i hi,keep0]at hio;cases hio;exact hl.elim
       ·rcases(hp.fresh i im2 o hi.1 hi.2 hio hl WA).2 with c|⟨k,hk,hkn,_⟩
        ·exact above (by omega)
        ·exact absurd hkn (hnoW k hk)
     ·cases hx
   ·cases e
 ·cases e
theorem GoE.endsD{c0 c:CF}{H:Qp}{n:Nat}(hF:∀g,F g=true->QA P g=true)(hJ:∀w,B.has w->J w)(XS:P.follows .mixedOrders=true)(h:GoE P B c0 Ze 1 c H n []){k:Nat}{o:OO}{live:List (Nat×Value)}{Ut:Qp}{n':Nat}{Wk:List Nat}{res:Value}{resR:List Nat}{fz:List Fz}{out:Value}{L:List Prop}
 (e:Xe (sk P F J B k 1 c H n o live Ut n' Wk res resR) fz=some (out,L)) (hL:Q7 L):EndsT P B c0 out:=GoE.endsTx (sj hF hJ XS h.under) h e hL
end
def Vb(n:Int):Nat:=2 ^ n.toNat
def aI(a n:Int):Nat:=a.toNat >>> n.toNat
def rA(a b:Int):Nat:=a.toNat &&& b.toNat
theorem Se{n:Int}(h1:n<=62):Vb n<=4611686018427387904:=by unfold Vb;exact Nat.le_trans (Nat.pow_le_pow_right (by decide) (show n.toNat<=62 by omega)) (by decide)
theorem GA{a n:Int}:aI a n<=a.toNat:=by unfold aI;rw[Nat.shiftRight_eq_div_pow];exact Nat.div_le_self _ _
theorem Gj{n:Int}(h1:n<=62):(2:Nat) ^ n.toNat<=2 ^ 62:=Nat.pow_le_pow_right (by decide) (by omega)
theorem Gk{P:Program}{t:TypeId}{yk:IntKind}{n:Int}(h0:0<=n)(h1:n<=62):ny P .shl t (.int .i64 1) (.int yk n) (.int .i64 ((Vb n:Nat):Int)):=fun x y w=>by
 unfold Vb;have e:min n.toNat (IntKind.bits IntKind.i64)=n.toNat:=Nat.min_eq_left (by show n.toNat<=64;omega);have hp:=Gj h1;have e2:(2:Int) ^ n.toNat=((2 ^ n.toNat:Nat):Int):=by rw[Int.natCast_pow];rfl
 have e3:IntKind.wrap IntKind.i64 (1*2 ^ min n.toNat (IntKind.bits IntKind.i64))=((2 ^ n.toNat:Nat):Int):=by
  rw[e,Int.one_mul,e2];generalize 2 ^ n.toNat=z at *;exact KW (by omega) (by omega)
 have hn:¬n<0:=by omega
 simp only[eqGuard,binOp,Op.shift,hn,if_false,e3];simp
theorem I4{P:Program}{t:TypeId}{yk:IntKind}{a n:Int}(ha:0<=a)(h0:0<=n)(h1:n<=62):ny P .shr t (.int .i64 a) (.int yk n) (.int .i64 ((aI a n:Nat):Int)):=fun x y w=>by
 unfold aI;obtain⟨b,rfl⟩:∃b:Nat,a=b:=⟨a.toNat,by omega⟩
 have e:min n.toNat (IntKind.bits IntKind.i64)=n.toNat:=Nat.min_eq_left (by show n.toNat<=64;omega);have e3:Int.fdiv (b:Int) (2 ^ min n.toNat (IntKind.bits IntKind.i64))=((((b:Int)).toNat >>> n.toNat:Nat):Int):=by
  rw[e,Int.fdiv_eq_ediv_of_nonneg _ (Int.le_of_lt (Int.pow_pos (by decide))),Int.toNat_natCast,Nat.shiftRight_eq_div_pow,Int.natCast_ediv,Int.natCast_pow];rfl
 have hn:¬n<0:=by omega
 simp only[eqGuard,binOp,Op.shift,hn,if_false,e3];simp
theorem oR{a:Int}(ha:0<=a):BitVec.ofInt (IntKind.bits IntKind.i64) a=BitVec.ofNat 64 a.toNat:=by
 obtain⟨b,rfl⟩:∃b:Nat,a=b:=⟨a.toNat,by omega⟩
 rw[Int.toNat_natCast];exact BitVec.ofInt_natCast 64 b
theorem I5{P:Program}{t:TypeId}{a b:Int}(ha:0<=a)(ha2:a<=9223372036854775807)(hb:0<=b)(hb2:b<=9223372036854775807):ny P .and t (.int .i64 a) (.int .i64 b) (.int .i64 ((rA a b:Nat):Int)):=fun x y w=>by
 unfold rA;have e:IntKind.wrap IntKind.i64 ((BitVec.toNat (BitVec.ofInt (IntKind.bits IntKind.i64) a &&& BitVec.ofInt (IntKind.bits IntKind.i64) b):Nat):Int)=((a.toNat &&& b.toNat:Nat):Int):=by
  rw[oR ha,oR hb];have e3:BitVec.toNat (BitVec.ofNat 64 a.toNat &&& BitVec.ofNat 64 b.toNat)=a.toNat &&& b.toNat:=by
   rw[BitVec.toNat_and,BitVec.toNat_ofNat,BitVec.toNat_ofNat,Nat.mod_eq_of_lt (a:=a.toNat) (by omega),Nat.mod_eq_of_lt (a:=b.toNat) (by omega)]
  show IntKind.wrap IntKind.i64 ((BitVec.toNat (BitVec.ofNat 64 a.toNat &&& BitVec.ofNat 64 b.toNat):Nat):Int)=_;rw[e3];have:=Nat.and_le_left (n:=a.toNat) (m:=b.toNat);exact KW (by omega) (by omega)
 simp only[eqGuard,binOp,Op.intBits,ne_eq,not_true_eq_false,if_false,e];simp
def Xy{α:Type}(m:Nat)(e:α->List Value)(x:α):List Value:=(e x).map (ZX m)
def wC{α:Type}(e:α->List Value):Prop:=∀x,∀v∈e x,simple v=true\/WO v=true
section
variable {α:Type} {e:α->List Value} {m r j z:Nat} {rs:List (Nat×Nat)} {JW:List (Nat×Array Value)} {ow:List (Nat×Nat)} {xs:List α} {rsT:List Nat}
theorem Xo(h:∀x,(e x).all (fun v=>simple v || WO v)=true):wC e:=fun x v hv=>by
 have:=List.all_eq_true.1 (h x) v hv;simpa using this
theorem Pk(v:Value)(h:simple v=true\/WO v=true):(simple v=true/\ZX m v=v)\/(WO v=true/\ZX m v=Q6 m v):=by
 unfold ZX;cases hs:simple v with
 |true=>exact .inl ⟨rfl,rfl⟩
 |false=>rw[hs]at h;exact .inr ⟨by simpa using h,rfl⟩
theorem yZ(he:wC e)(hm:(r,j)∈rs)(x:α):AllX m rs JW ow (Xy r e x) (Xy j e x):=by
 have key:∀l:List Value,(∀v∈l,simple v=true\/WO v=true)->AllX m rs JW ow (l.map (ZX r)) (l.map (ZX j)):=by
  intro l;induction l with
  |nil=>intro _;trivial
  |cons v l ih=>
   intro h;refine⟨?_,ih fun u hu=>h u (NS _ hu)⟩;show gO m rs JW ow (ZX r v) (ZX j v);rcases Pk (m:=r) v (h v (by simp))with ⟨a,b⟩|⟨a,b⟩ <;> rcases Pk (m:=j) v (h v (by simp))with ⟨c,d⟩|⟨c,d⟩
   ·rw[b,d];exact .simple a
   ·rw[b];unfold ZX;rw[a];exact .simple a
   ·rw[d];unfold ZX;rw[c];exact .simple c
   ·rw[b,d];exact .Y0 hm a
 exact key _ (he x)
theorem yJ{e1 e2:α->List Value}(h:∀x,AllX m rs JW ow (e1 x) (e2 x)):Xv m rs JW ow (Qg e1 xs) (Qg e2 xs):=by
 unfold Xv Qg;simp only;induction xs with
 |nil=>trivial
 |cons x xs ih=>simp only[OC];exact(h x).append ih
theorem QQ(he:wC e)(hm:(r,j)∈rs):Xv m rs JW ow (Qg (Xy r e) xs) (Qg (Xy j e) xs):=yJ (yZ he hm)
theorem Kj{cs:Array Value}{vs:List Value}{x:α}(h:Xv m rs JW ow cs (Qg e xs))(hx:AllX m rs JW ow vs (e x)):Xv m rs JW ow (cs++vs.toArray) (Qg e (xs++[x])):=by
 unfold Xv at h ⊢;rw[<-XW];simp only[Array.toList_append];exact AllX.append h hx
theorem KQ{vs:List Value}{x:α}(hx:AllX m rs JW ow vs (e x)):Xv m rs JW ow vs.toArray (Qg e [x]):=by
 unfold Xv Qg;simpa using hx
theorem yK{vs:List Value}{x:α}(h:AllX m rs JW ow vs (e x)):∀k:Nat,Xv m rs JW ow (Qg (fun(_:α)=>vs) (Of k x)) (Qg e (Of k x))
 |0=>trivial
 |k+1=>by
  unfold Xv Qg;simp only[List.replicate_succ,OC];exact h.append (yK h k)
theorem Us(he:wC e)(hm:m∈rsT):XT rsT (Qg (Xy m e) xs) (Qg e xs):=by
 have key:∀l:List Value,(∀v∈l,simple v=true\/WO v=true)->∀(i:Nat) v v1,(l.map (ZX m))[i]? =some v->l[i]? =some v1->nu rsT v v1:=by
  intro l h i v v1 h1 h2;rw[NX,h2]at h1;simp only[Oh,YO]at h1;subst h1;rcases Pk (m:=m) v1 (h v1 (NN h2))with ⟨a,b⟩|⟨a,b⟩
  ·exact .inl ⟨by rw[b];exact a,b.symm⟩
  ·exact .inr ⟨m,hm,b,a⟩
 have e0:Qg (Xy m e) xs=((xs.flatMap e).map (ZX m)).toArray:=by
  unfold Qg Xy;rw[List.map_flatMap]
 refine⟨by rw[e0];simp[Qg],fun i v v1 h1 h2=> ?_⟩;rw[e0]at h1;refine key (xs.flatMap e) (fun v hv=> ?_) i v v1 (by simpa using h1) (by simpa[Qg]using h2);obtain⟨x,_,hx⟩:=List.mem_flatMap.1 hv;exact he x v hx
theorem LS{a:Nat}{t:TypeId}{fl:Nat×Nat}(he:wC e)(hm:m<a):wD a (.cells (Qg (Xy m e) xs) t fl):=fun i v hv=>by
 have:v∈Qg (Xy m e) xs:=Om hv;simp only[Qg,List.mem_toArray,List.mem_flatMap,Xy,List.mem_map]at this;obtain⟨x,_,u,hu,rfl⟩:=this;rcases Pk (m:=m) u (he x u hu)with ⟨h1,h2⟩|⟨h1,h2⟩
 ·rw[h2];exact .inl (jv h1)
 ·rw[h2];refine .inl ?_;show QG a (Q6 m u)=true;have:NO m a=true:=Od hm;unfold QG;rw[show simple (Q6 m u)=false from rfl,Bool.false_or];exact this
end
def K9(zs:List Value)(_:Unit):List Value:=zs
theorem BN{zc:Array Value}{z n:Nat}(hz:zc.size=z)(h0:0<z):madeCells zc (n*z)=Qg (K9 zc.toList) (Of n ()):=by
 have hl:∀x,(K9 zc.toList x).length=z:=fun x=>by simp[K9,hz]
 refine Array.ext_getElem? fun i=> ?_
 by_cases hi:i<n*z
 ·have hk:i / z<n:=(Nat.div_lt_iff_lt_mul h0).2 hi;have hj:i % z<z:=Nat.mod_lt _ h0;have e:i / z*z+i % z=i:=by rw[Nat.mul_comm];exact Nat.div_add_mod i z
  have:=SU (e:=K9 zc.toList) (xs:=Of n ()) hl (k:=i / z) (j:=i % z) (by simpa using hk) hj;rw[e]at this;rw[this];have hj':i % z<zc.size:=by rw[hz];exact hj
  simp only[madeCells,Array.getElem?_map,Array.getElem?_range,hi,if_true,Oh,hz,K9];simp[hj']
 ·have a:(madeCells zc (n*z)).size=n*z:=size_madeCells _ _;have b:(Qg (K9 zc.toList) (Of n ())).size=n*z:=by rw[Xi hl];simp
  rw[OG (by omega),OG (by omega)]
def ML(P:Program)(t e z bytes:Nat)(zs:List Value):Bool:=match Jl P t with
 |some (.slice e')=>NH e' e && match inf P e with
  |some i=>match i.zero with
   |some zv=>NH i.size z && (NH i.bytes bytes && (NO 0 z && (NH zv.cells.size z && (FN (Cc 2) zv.cells.toList zs && zs.all simple))))
   |none=>false
  |none=>false
 |_=>false
theorem ni{P:Program}{t e z bytes:Nat}{zs:List Value}(h:ML P t e z bytes zs=true){l:Int}{k k':IntKind}(h0:0<=l)(hb:bytes*l<=281474976710656)(hn:l<=9223372036854775807):
 S9 P t (.int k l) (.int k' l)=some (e,Qg (K9 zs) (Of l.toNat ()),l.toNat,z):=by
 unfold ML at h;split at h
 ·rename_i e' hu;split at h
  ·rename_i i hi;split at h
   ·rename_i zv hz;simp only[YB]at h;obtain⟨h1,h2,h3,h4,h5,h6,h7⟩:=h;have h1:=YE h1;have h2:=YE h2;have h3:=YE h3;have h4:0<z:=YL h4;have h5:=YE h5;have h6:=Kh (Uq 2) _ _ h6;subst h1 h2 h3;have e1:=BN (n:=l.toNat) h5 h4;rw[h6]at e1;have VO:(madeCells zv.cells (l.toNat*i.size)).all simple=true:=by
     rw[e1,Array.all_eq_true'];intro v hv;simp only[Qg,List.mem_toArray,List.mem_flatMap,K9]at hv;obtain⟨_,_,hv⟩:=hv;exact List.all_eq_true.1 h7 v hv
    simp only[S9,hu,hi,hz,decide_eq_true h0,decide_eq_true hb,decide_eq_true hn,decide_eq_true (Ol l),VO,Bool.and_self,cond_true];rw[e1]
   ·simp at h
  ·simp at h
 ·cases h
section
variable {α:Type} {e:α->List Value} {m z:Nat} {rs:List (Nat×Nat)} {JW:List (Nat×Array Value)} {ow:List (Nat×Nat)} {xs:List α}
theorem Ki{zs:List Value}{x:α}(h:AllX m rs JW ow zs (e x)):∀k:Nat,Xv m rs JW ow (Qg (K9 zs) (Of k ())) (Qg e (Of k x))
 |0=>trivial
 |k+1=>by
  unfold Xv Qg;simp only[List.replicate_succ,OC];exact AllX.append h (Ki h k)
theorem WU(h:∀x,(e x).length=z){k z':Nat}(hk:k<xs.length){x:α}{cs:Array Value}(hc:cs=(e x).toArray)(hz:z'=z):0+k*z+z'<=(Qg e xs).size/\splice (Qg e xs) (0+k*z) cs=Qg e (xs.set k x):=by
 subst hz;rw[Ob];exact zr h hk hc
end
end Go.CE

noncomputable abbrev Go.CE.YP:Go.Program:=Go.Proofs.Try.prog
namespace Go.Proofs.Ytncjjangllkokaa
open Go Go.CE Go.RowKit
abbrev pA(b o:Nat):Value:=.pointer (some ⟨b,o,none⟩)
def J0:World->Prop:=fun _=>True
theorem Zk:∀w w':World,(∀b,b<w.heap.size->w'.heap[b]? =w.heap[b]?)->J0 w->J0 w':=fun _ _ _ _=>trivial
theorem Qf:YP.follows .mixedOrders=true:=by decide+kernel
theorem okF:∀g,QA YP g=true->QA YP g=true:=fun _ h=>h
end Go.Proofs.Ytncjjangllkokaa

namespace Go.CE
open Go Go.RowKit

section
variable {P:Program} {F:FuncId->Bool} {T:Tm} {o:Oper} {H:Qp} {n:Nat}
end
section
variable {P:Program} {F:FuncId->Bool} {T:Tm} {o:Oper} {H:Qp} {n:Nat}
theorem dC{c:Call}{s x:Operand}{sv:Value}{t e:TypeId}{b off m s2 z by':Nat}{cs cs':Array Value}{te:TypeId}{f:Nat×Nat}(ho:o.op=.call c)(hc:c.callee=.builtin .append)(ha:c.args.toList=[s,x])(hat:c.argTypes.toList=[t,t])
 (hs:Zd T s=some sv) (hbn:KL sv=true) (hx:Zd T x=some (.slice (some ⟨b,off,none⟩) m s2)) (hu:Jl P t=some (.slice e)) (hi:(inf P e).map (fun i=>(i.zero.map (·.cells.size),i.size,i.bytes))=some (some (z+1),z+1,by')) (hb:Qu H b=some (.cells cs te f)) (hn:b<n)
 (hq:0<m/\m<=maxLen/\m*by'<=140737488355328/\off+m*(z+1)<=cs.size/\ones (cs.extract off (off+m*(z+1)))=true/\cs.extract off (off+m*(z+1))=cs'):
 b6 P F Xw (fun _ _ _=>none) T o H n=some ⟨.ret (.slice (some ⟨n,0,none⟩) m (z+1)),(n,.cells cs' e (0,0))::H,n+1,[b],[]⟩:=by
 obtain⟨h1,h2,h3,h4,h5,rfl⟩:=hq;cases hinf:inf P e with
 |none=>rw[hinf]at hi;cases hi
 |some i=>
  rw[hinf]at hi;simp only[Oh,YO,YR]at hi;obtain⟨i1,i2,i3⟩:=hi;cases hz:i.zero with
  |none=>rw[hz]at i1;cases i1
  |some zv=>
   rw[hz]at i1;simp only[Oh,YO]at i1;have eb:bare sv=.slice none 0 0:=by
    unfold KL at hbn;split at hbn
    ·rfl
    ·rfl
    ·cases hbn
   have e4:wA P t t H n sv (.slice (some ⟨b,off,none⟩) m s2)=some ⟨.val (.slice (some ⟨n,0,none⟩) m (z+1)),(n,.cells (cs.extract off (off+m*(z+1))) e (0,0))::H,n+1,[b],[]⟩:=by
    have q1:NH zv.cells.size (z+1)=true:=by rw[i1];simp
    have q2:Oo m maxLen=true:=Od h2;have q3:Oo (m*i.bytes) 140737488355328=true:=Od (by rw[i3];exact h3);have q4:NO 0 m=true:=Od h1;have q5:Oo (off+m*(z+1)) cs.size=true:=Od h4;simp only[wA,eb,show NH t t=true by simp,cond_true,VQ,hu,hinf,hz,i2,P6,kY,hb,q5,h5,q1,q2,q3,q4,Ob,Bool.and_self,S8,Option.toList,Array.empty_append]
   have e5:P9 P F (Zd T) o H n=some ⟨.val (.slice (some ⟨n,0,none⟩) m (z+1)),(n,.cells (cs.extract off (off+m*(z+1))) e (0,0))::H,n+1,[b],[]⟩:=by
    unfold P9 rK;simp only[ho,hc,ha,hat,hs,hx,e4,List.all_cons,List.all_nil,show NO b n=true from Od hn,Bool.and_self,cond_true]
   unfold b6;simp only[ho,e5]
end
theorem Ah{α:Type}{e:α->List Value}(h:∀x,(e x).all (·.oneCell')=true)(zs:List α)(i j:Nat):ones ((Qg e zs).extract i j)=true:=by
 unfold ones;rw[Array.all_eq_true'];intro v hv;have ZY:v∈(Qg e zs).toList:=by
  have:=Array.mem_def.1 hv;rw[Array.toList_extract,List.extract_eq_take_drop]at this;exact List.mem_of_mem_drop (List.mem_of_mem_take this)
 simp only[Qg,List.mem_flatMap]at ZY;obtain⟨x,_,hx⟩:=ZY;exact List.all_eq_true.1 (h x) v hx
theorem wY{v:Value}(h:simple v=true):v.oneCell'=true:=by
 cases v <;> first|rfl|(cases h;done)
theorem SN{α:Type}{e:α->List Value}{r:Nat}(hs:∀x,(e x).all simple=true)(xs:List α):(Qg e xs).map (ZX r)=Qg e xs/\((Qg e xs).all fun v=>simple v || WO v)=true/\ones (Qg e xs)=true:=by
 have h:∀v∈Qg e xs,simple v=true:=Q2 fun x=>List.all_eq_true.1 (hs x)
 refine⟨?_,Array.all_eq_true'.2 fun v hv=>by rw[h v hv];rfl,Array.all_eq_true'.2 fun v hv=>wY (h v hv)⟩;apply Array.ext (by simp);intro i h1 h2;have hv:=h _ (Array.getElem_mem h2);simp[ZX,hv]
theorem bZ{α:Type}{e:α->List Value}{z:Nat}(hz:∀x,(e x).length=z)(hs:∀x,(e x).all (·.oneCell')=true){xs:List α}{m:Nat}(hm:m=xs.length):0+m*z<=(Qg e xs).size/\ones ((Qg e xs).extract 0 (0+m*z))=true/\(Qg e xs).extract 0 (0+m*z)=Qg e xs:=by
 subst hm;refine⟨by rw[Xi hz];omega,Ah hs _ _ _, ?_⟩;rw[Ob,<-Xi (e:=e) (xs:=xs) hz];simp
theorem XO{α:Type}{e:α->List Value}{xs:List α}{x:α}{cs:Array Value}(h:cs=(e x).toArray):Qg e xs++cs=Qg e (xs++[x]):=by
 rw[h];exact XW
def Qm(fs:List Int)(k:Nat):Int:=fs.getD k 0
def wR(k:Nat)(x:Int):Nat->List Int->List Int
 |_,[]=>[]
 |j,f::l=>(if k=j then x else f)::wR k x (j+1) l
theorem bO(k:Nat)(x:Int):∀(l:List Int) (j:Nat),(wR k x j l).length=l.length
 |[],_=>rfl
 |_::l,j=>by simp[wR,bO k x l (j+1)]
theorem rV(k:Nat)(x:Int):∀(l:List Int) (j i:Nat),i<l.length->(wR k x j l)[i]? =some (if k=j+i then x else l.getD i 0)
 |[],_,_,h=>by simp at h
 |f::l,j,0,_=>by simp[wR]
 |f::l,j,i+1,h=>by
  have:=rV k x l (j+1) i (by simpa using h);simp only[wR,List.getElem?_cons_succ,this,List.getD_cons_succ];rw[show j+1+i=j+(i+1)by omega]
theorem yY{cs:Array Value}{fs:List Int}{off i:Nat}(h:(cs.toList.drop off).take fs.length=fs.map (Value.int .i64))(hi:i<fs.length):cs[off+i]? =some (.int .i64 (fs.getD i 0)):=by
 have e:((cs.toList.drop off).take fs.length)[i]? =(fs.map (Value.int .i64))[i]? :=by rw[h]
 rw[OE hi,List.getElem?_drop,NX,NM]at e;rw[e];simp[NJ,hi]
theorem S7{cs:Array Value}{fs:List Int}{off k:Nat}(h:(cs.toList.drop off).take fs.length=fs.map (Value.int .i64))(hk:k<fs.length):cs[off+k*1]? =some (.int .i64 (Qm fs k)):=by
 rw[Nat.mul_one];exact yY h hk
theorem Gq{cs:Array Value}{fs:List Int}{off k:Nat}(h:(cs.toList.drop off).take fs.length=fs.map (Value.int .i64))(hk:k<fs.length):cs.extract (off+k*1) (off+k*1+1)=#[.int .i64 (Qm fs k)]:=by
 have e:=S7 h hk;have hs:=(Array.getElem?_eq_some_iff.1 e).1;refine Array.ext_getElem? fun i=> ?_
 rw[Oz];by_cases hi:i=0
 ·subst hi;rw[if_pos (by omega),Nat.add_zero,e];rfl
 ·rw[if_neg (by omega),OG (by simp;omega)]
theorem My{l:List Int}{k:Nat}(h:l.length<=4):Qm [l.getD 0 0,l.getD 1 0,l.getD 2 0,l.getD 3 0] k=l.getD k 0:=by
 match k with
 |0=>rfl
 |1=>rfl
 |2=>rfl
 |3=>rfl
 |k+4=>
  have e:l.getD (k+4) 0=0:=by rw[NJ,Oc (by omega)];rfl
  rw[e];rfl
theorem np{cs cs' vc:Array Value}{fs:List Int}{off k:Nat}{x:Int}(hv:vc=#[.int .i64 x])(h:(cs.toList.drop off).take fs.length=fs.map (Value.int .i64))(hk:k<fs.length)(hc:cs'.toList=cs.toList.take off++(wR k x 0 fs).map (Value.int .i64)++cs.toList.drop (off+fs.length)):
 off+k*1+1<=cs.size/\splice cs (off+k*1) vc=cs':=by
 subst hv;have Z0:off+fs.length<=cs.size:=by
  have e:=yY h (i:=fs.length-1) (by omega);have:=(Array.getElem?_eq_some_iff.1 e).1;omega
 rw[Nat.mul_one];refine⟨by omega,Array.ext_getElem? fun i=> ?_⟩;rw[UI (by simp;omega),<-NM (xs:=cs'),hc];have l1:(cs.toList.take off).length=off:=by simp;omega
 by_cases h1:i<off
 ·rw[if_neg (by simp;omega),List.append_assoc,NU (by omega),OE h1,NM]
 ·rw[List.append_assoc,NL (by omega),l1];by_cases h2:i-off<fs.length
  ·rw[NU (by simp[bO];omega),NX,rV k x fs 0 (i-off) h2];by_cases h3:i=off+k
   ·subst h3;rw[if_pos (by simp),if_pos (by omega)];simp
   ·rw[if_neg (by simp;omega),if_neg (by omega)];have e:=yY h h2;rw[show off+(i-off)=i by omega]at e;rw[e];rfl
  ·rw[if_neg (by simp;omega),NL (by simp[bO];omega),List.getElem?_drop,List.length_map,bO,NM];congr 1;omega
theorem wv{xs:List Int}{cs cs':Array Value}{off k r m:Nat}{e:Int->List Value}(he:∀x,e x=[.int .i64 x])(hm:m=xs.length)(h0:0<m)(hk:m<=k)(h:(cs.toList.drop off).take k=Of k (Value.int .i64 0))(hz:off+k<=cs.size)
 (hc:cs'.toList=cs.toList.take off++((NI k).map fun j=>Value.int .i64 (xs.getD j NC))++cs.toList.drop (off+k)):
 0<m/\off+OA m k*1<=cs.size/\OA m k*1<=(Qg e xs).size/\((Qg e xs).all fun v=>simple v || WO v)=true/\ones (((Qg e xs).extract 0 (OA m k*1)).map (ZX r))=true/\splice cs off (((Qg e xs).extract 0 (OA m k*1)).map (ZX r))=cs':=by
 subst hm;have hmin:OA xs.length k*1=xs.length:=by rw[Nat.mul_one];exact Nat.min_eq_left hk
 have hrow:Qg e xs=(xs.map (Value.int .i64)).toArray:=by
  have:xs.flatMap e=xs.map (Value.int .i64):=by
   have:e=fun x=>[Value.int .i64 x]:=funext he
   rw[this];have h9:∀l:List Int,l.flatMap (fun x=>[Value.int .i64 x])=l.map (Value.int .i64):=fun l=>by
    induction l with
    |nil=>rfl
    |cons x l ih=>rw[OC,ih];rfl
   exact h9 xs
  unfold Qg;rw[this]
 have Z0:(Qg e xs).size=xs.length:=by rw[hrow];simp
 have hext:((Qg e xs).extract 0 (OA xs.length k*1)).map (ZX r)=(xs.map (Value.int .i64)).toArray:=by
  rw[hmin,hrow];apply Array.ext_getElem?;intro i;rw[Array.getElem?_map,Oz];by_cases hi:i<xs.length
  ·rw[if_pos (by simp;omega)];simp[hi,ZX,simple]
  ·rw[if_neg (by simp;omega)];simp[hi]
 rw[hext,hmin,Z0];refine⟨h0,by omega,NZ _, ?_, ?_,Array.ext_getElem? fun i=> ?_⟩
 ·rw[hrow];simp[simple]
 ·simp[ones,Value.oneCell']
 ·rw[UI (by simp;omega),<-NM (xs:=cs'),hc];have l1:(cs.toList.take off).length=off:=by simp;omega
  by_cases h1:i<off
  ·rw[if_neg (by simp;omega),List.append_assoc,NU (by omega),OE h1,NM]
  ·rw[List.append_assoc,NL (by omega),l1];by_cases h2:i-off<k
   ·rw[NU (by simp;omega),NX,List.getElem?_range h2];by_cases h3:i-off<xs.length
    ·rw[if_pos (by simp;omega)];simp[h3,NJ]
    ·rw[if_neg (by simp;omega)];have e2:((cs.toList.drop off).take k)[i-off]? =(Of k (Value.int .i64 0))[i-off]? :=by rw[h]
     rw[OE h2,List.getElem?_drop,show off+(i-off)=i by omega,NM,List.getElem?_replicate,if_pos h2]at e2;rw[e2];simp[NJ,Oc (show xs.length<=i-off by omega)]
   ·rw[if_neg (by simp;omega),NL (by simp;omega),List.getElem?_drop,NM];congr 1;simp;omega
theorem FinK.wri{P:Program}{J:World->Prop}{g:FuncId}{args:Array Value}{c0:CF}{Hb ws:Qp}{a:Nat}{Wf:List Nat}{bs outs news:List Obj}{out:OO}(hc:Wo P g args=some c0)(e1:Hb=gP bs)(e2:a=bs.length+1)(e3:ws=Xk 1 outs)(e4:Wf=Oa 1 bs.length)
 (h:∀B:Lo,(∀w,B.has w->J w)->FinK P B c0 Hb a out ws news Wf):WriC P J g args bs out outs news:=fun B hJ μ w args' cs QD hB hf hv=>by
 subst e1 e2 e3 e4;obtain⟨Zf,w',μ',hp,ho,_,he⟩:=h B hJ μ w _ cs QD hB hf (Ui hc hv);rw[show bs.length+1+1+news.length=bs.length+2+news.length by omega]at hp;exact⟨Zf,w',μ',hp,ho,he⟩
theorem We{α:Type}{e:α->List Value}{xs:List α}{z:Nat}[Inhabited α](h:∀x,(e x).length=z){k j:Nat}{v:Value}(hk:k<xs.length)(hv:(e (xs.getD k NC))[j]? =some v):(Qg e xs)[0+k*z+j]? =some v:=by
 rw[Ob];exact zu h hk hv
theorem s9{α:Type}[Inhabited α]{e:α->List Value}{z:Nat}{xs:List α}(h:∀x,(e x).length=z){k j z':Nat}(hk:k<xs.length){x:α}{cs:Array Value}(hx:e x=(e (xs.getD k NC)).take j++cs.toList++(e (xs.getD k NC)).drop (j+z'))(hz:z'=cs.size)(hj:j+z'<=z):0+k*z+j+z'<=(Qg e xs).size/\splice (Qg e xs) (0+k*z+j) cs=Qg e (xs.set k x):=by
 have hle:=zt (e:=e) h hk;have XZ:=zr (e:=e) h hk (x:=x) (cs:=(e x).toArray) rfl;have hX:(e x).length=z:=h _;have hE:(e (xs.getD k NC)).length=z:=h _;have hr:∀q,q<z->(Qg e xs)[k*z+q]? =(e (xs.getD k NC))[q]? :=fun q hq=>by
  have hq':q<(e (xs.getD k NC)).length:=by omega
  rw[zu (e:=e) h hk (OF hq'),OF hq']
 generalize e (xs.getD k NC)=E at *;subst hz;have hc:cs.toList.length=cs.size:=Array.length_toList ..;have ht:(E.take j).length=j:=by rw[List.length_take];omega
 have key:∀q,(e x).toArray[q]? =(E.take j++(cs.toList++E.drop (j+cs.size)))[q]? :=fun q=>by rw[Oy,hx,List.append_assoc]
 have ec:∀q,cs[q]? =cs.toList[q]? :=fun q=>(NM ..).symm
 refine⟨by omega, ?_⟩;rw[<-XZ.2];apply Array.ext_getElem?;intro i;have s2:(e x).toArray.size=z:=hX;rw[UI (by omega),UI (by omega),s2,key,ec];by_cases h1:0+k*z+j<=i/\i<0+k*z+j+cs.size
 ·rw[if_pos h1,if_pos (by omega),NL (by omega),NU (by omega)];congr 1;omega
 ·rw[if_neg h1];by_cases h2:k*z<=i/\i<k*z+z
  ·rw[if_pos h2];have h5:=hr (i-k*z) (by omega);rw[show k*z+(i-k*z)=i by omega]at h5;rw[h5];by_cases h3:i<k*z+j
   ·rw[NU (by omega),OE (by omega)]
   ·rw[NL (by omega),NL (by omega),List.getElem?_drop];congr 1;omega
  ·rw[if_neg h2]
end Go.CE

namespace Go.Proofs.Ytncjjangllkokaa
open Go Go.CE Go.RowKit
noncomputable section
def Wt(x lo hi:Int):Bool:=decide (lo<=x) && decide (x<=hi)
theorem Wa{x lo hi:Int}:Wt x lo hi=true<->lo<=x/\x<=hi:=by simp[Wt]
theorem IN{x lo hi:Int}(q:Wt x lo hi=false):¬(lo<=x/\x<=hi):=fun h=>by rw[Wa.2 h]at q;cases q
structure Span where
 lo:Int
 hi:Int
deriving Inhabited
def QW(s:Span):List Value:=[.int .i64 s.lo,.int .i64 s.hi]
abbrev P0(xs:List Span):Value:=QO xs.length (Qg QW xs)
def Za(a b lo hi:Int):Bool:=decide (lo<=a) && (decide (a<=b) && decide (b<=hi))
theorem ep{a b lo hi:Int}:Za a b lo hi=true<->lo<=a/\a<=b/\b<=hi:=by simp[Za]
theorem Rw{α:Type}[Inhabited α]{l:List α}{i:Int}{p:α->Bool}(h0:0<=i)(h:i<l.length):(l.drop i.toNat).all p=(p (l.getD i.toNat NC) && (l.drop (i+1).toNat).all p):=by
 obtain⟨k,rfl⟩:∃k:Nat,i=k:=⟨i.toNat,by omega⟩
 have hk:k<l.length:=by omega
 have e1:((k:Int)).toNat=k:=by omega
 have e2:((k:Int)+1).toNat=k+1:=by omega
 rw[e1,e2,List.drop_eq_getElem_cons hk,List.all_cons];simp[NJ,hk]
theorem Rv{α:Type}{l:List α}{i:Int}{p:α->Bool}(h:l.length<=i):(l.drop i.toNat).all p=true:=by
 rw[List.drop_eq_nil_of_le (by omega)];rfl
theorem zS{p:Int->Bool}{a b:Int}(h:(JY a b).all p=true){k:Int}(h1:a<=k)(h2:k<b):p k=true:=by
 refine List.all_eq_true.1 h k ?_;unfold JY;exact List.mem_map.2 ⟨(k-a).toNat,List.mem_range.2 (by omega),by omega⟩
def Pu{α β:Type}(f:α->β)(x0:β)(xs:List α)(i:Int):List β:=(xs.take i.toNat).map f++Of (xs.length-i.toNat) x0
theorem dW{α β:Type}{f:α->β}{x0:β}{xs:List α}:Of xs.length x0=Pu f x0 xs 0:=by simp[Pu]
theorem Ry{α β:Type}{f:α->β}{x0:β}{xs:List α}{i:Int}:(Pu f x0 xs i).length=xs.length:=by simp[Pu];omega
theorem Rx{α β:Type}[Inhabited α]{f:α->β}{x0:β}{xs:List α}{i:Int}(h0:0<=i)(h:i<xs.length):(Pu f x0 xs i).set i.toNat (f (xs.getD i.toNat NC))=Pu f x0 xs (i+1):=by
 obtain⟨k,rfl⟩:∃k:Nat,i=k:=⟨i.toNat,by omega⟩
 have hk:k<xs.length:=by omega
 have e1:((k:Int)).toNat=k:=by omega
 have e2:((k:Int)+1).toNat=k+1:=by omega
 unfold Pu;rw[e1,e2];have hl:((xs.take k).map f).length=k:=by simp;omega
 rw[List.set_append_right _ _ (by omega),hl,Nat.sub_self];have er:xs.length-k=(xs.length-(k+1))+1:=by omega
 rw[er,List.replicate_succ,List.set_cons_zero];have et:xs.take (k+1)=xs.take k++[xs[k]]:=by rw[List.take_succ_eq_append_getElem hk]
 rw[et,List.map_append,List.append_assoc];simp[NJ,hk]
theorem Rz{α β:Type}{f:α->β}{x0:β}{xs:List α}{i:Int}(h:xs.length<=i):Pu f x0 xs i=xs.map f:=by
 unfold Pu;rw[List.take_of_length_le (by omega),show xs.length-i.toNat=0 by omega];simp
theorem bY{β:Type}{e:β->List Value}{ys zs:List β}{n:Nat}(h:ys=zs)(hn:n=zs.length):QO n (Qg e ys)=QO zs.length (Qg e zs):=by subst h hn;rfl
def se:List Int->Int
 |[]=>0
 |x::l=>x+se l
def wZ(B:Lo)(x lo hi:Int):List Prop:=[(!XY x lo)=true]++([]:List Prop)
def CH(x lo hi:Int):QE:=[(3,W9)]
set_option maxRecDepth 100000 in
theorem Ls(B:Lo)(x lo hi:Int):Xe (Qv YP (QA YP) J0 B 6 1 (Qw YP 55 15 (([.int .i64 x,.int .i64 lo,.int .i64 hi]).map (Q8 0 4))) Ze 1
 (CH x lo hi++[(7,W9)]) 0 [] []) []=some (.bool true,
 [(!XY hi x)=true]++wZ B x lo hi):=by kernel_rfl
set_option maxRecDepth 100000 in
theorem Lr(B:Lo)(x lo hi:Int):Xe (Qv YP (QA YP) J0 B 6 1 (Qw YP 55 15 (([.int .i64 x,.int .i64 lo,.int .i64 hi]).map (Q8 0 4))) Ze 1
 (CH x lo hi++[(7,Vd)]) 0 [] []) []=some (.bool false,
 [(!XY hi x)=false]++wZ B x lo hi):=by kernel_rfl
set_option maxRecDepth 100000 in
theorem Lq(B:Lo)(x lo hi:Int):Xe (Qv YP (QA YP) J0 B 6 1 (Qw YP 55 15 (([.int .i64 x,.int .i64 lo,.int .i64 hi]).map (Q8 0 4))) Ze 1
 [(3,Vd)] 0 [] []) []=some (.bool false,
 [(!XY x lo)=false]):=by kernel_rfl
set_option maxHeartbeats 4000000 in
theorem M0(x lo hi:Int)  {B:Lo}(hJ:∀w,B.has w->J0 w):EndsT YP B (Qw YP 55 15 (([.int .i64 x,.int .i64 lo,.int .i64 hi]).map (Q8 0 4))) (.bool (Wt x lo hi)):=by
 by_cases q0:(lo:Int)<=(x)
 ·have Vg:Q7 (wZ B x lo hi):=by
   exact⟨(VL q0),trivial⟩
  by_cases q1:(x:Int)<=(hi)
  ·exact(GoE.endsT okF hJ Qf GoE.start (Ls B x lo hi)
    ⟨(VL q1),Vg⟩).cast (by first|rfl|(simp[Wt, *];done)|(simp_all[Wt];done)|(simp_all[Wt];omega))
  ·exact(GoE.endsT okF hJ Qf GoE.start (Lr B x lo hi)
    ⟨(VM (Int.not_le.1 q1)),Vg⟩).cast (by first|rfl|(simp[Wt, *];done)|(simp_all[Wt];done)|(simp_all[Wt];omega))
 ·exact(GoE.endsT okF hJ Qf GoE.start (Lq B x lo hi)
   ⟨(VM (Int.not_le.1 q0)),trivial⟩).cast (by first|rfl|(simp[Wt, *];done)|(simp_all[Wt];done)|(simp_all[Wt];omega))
theorem nL(x lo hi:Int)  :Q4 YP J0 55 #[.int .i64 x,.int .i64 lo,.int .i64 hi] (.bool (Wt x lo hi)):=
 Xr (ts:=[.int .i64 x,.int .i64 lo,.int .i64 hi]) Zk (c0:=Qw YP 55 15 (([.int .i64 x,.int .i64 lo,.int .i64 hi]).map (Q8 0 4))) (by kernel_rfl) (by kernel_rfl) fun B hJ=>M0 x lo hi  hJ
def j6(B:Lo)(a b most:Int):List Prop:=[(!XY a 0)=true]++([]:List Prop)
def sC(a b most:Int):QE:=[(4,W9)]
def j5(B:Lo)(a b most:Int):List Prop:=[(!XY b a)=true]++j6 B a b most
def sB(a b most:Int):QE:=sC a b most++[(10,W9)]
set_option maxRecDepth 100000 in
theorem CQ(B:Lo)(a b most:Int):Xe (Qv YP (QA YP) J0 B 6 1 (Qw YP 56 21 (([.agg #[.int .i64 a,.int .i64 b],.int .i64 most]).map (Q8 0 4))) Ze 1
 (sB a b most++[(16,W9)]) 0 [] []) []=some (.bool true,
 [(!XY most b)=true]++j5 B a b most):=by kernel_rfl
set_option maxRecDepth 100000 in
theorem CP(B:Lo)(a b most:Int):Xe (Qv YP (QA YP) J0 B 6 1 (Qw YP 56 21 (([.agg #[.int .i64 a,.int .i64 b],.int .i64 most]).map (Q8 0 4))) Ze 1
 (sB a b most++[(16,Vd)]) 0 [] []) []=some (.bool false,
 [(!XY most b)=false]++j5 B a b most):=by kernel_rfl
set_option maxRecDepth 100000 in
theorem CO(B:Lo)(a b most:Int):Xe (Qv YP (QA YP) J0 B 6 1 (Qw YP 56 21 (([.agg #[.int .i64 a,.int .i64 b],.int .i64 most]).map (Q8 0 4))) Ze 1
 (sC a b most++[(10,Vd)]) 0 [] []) []=some (.bool false,
 [(!XY b a)=false]++j6 B a b most):=by kernel_rfl
set_option maxRecDepth 100000 in
theorem CL(B:Lo)(a b most:Int):Xe (Qv YP (QA YP) J0 B 6 1 (Qw YP 56 21 (([.agg #[.int .i64 a,.int .i64 b],.int .i64 most]).map (Q8 0 4))) Ze 1
 [(4,Vd)] 0 [] []) []=some (.bool false,
 [(!XY a 0)=false]):=by kernel_rfl
set_option maxHeartbeats 4000000 in
theorem GG(a b most:Int)  {B:Lo}(hJ:∀w,B.has w->J0 w):EndsT YP B (Qw YP 56 21 (([.agg #[.int .i64 a,.int .i64 b],.int .i64 most]).map (Q8 0 4))) (.bool (Za a b 0 most)):=by
 by_cases q0:(0:Int)<=(a)
 ·have Vg:Q7 (j6 B a b most):=by
   exact⟨(VL q0),trivial⟩
  by_cases q1:(a:Int)<=(b)
  ·have hp1:Q7 (j5 B a b most):=by
    exact⟨(VL q1),Vg⟩
   by_cases q2:(b:Int)<=(most)
   ·exact(GoE.endsT okF hJ Qf GoE.start (CQ B a b most)
     ⟨(VL q2),hp1⟩).cast (by first|rfl|(simp[Za, *];done)|(simp_all[Za];done)|(simp_all[Za];omega))
   ·exact(GoE.endsT okF hJ Qf GoE.start (CP B a b most)
     ⟨(VM (Int.not_le.1 q2)),hp1⟩).cast (by first|rfl|(simp[Za, *];done)|(simp_all[Za];done)|(simp_all[Za];omega))
  ·exact(GoE.endsT okF hJ Qf GoE.start (CO B a b most)
    ⟨(VM (Int.not_le.1 q1)),Vg⟩).cast (by first|rfl|(simp[Za, *];done)|(simp_all[Za];done)|(simp_all[Za];omega))
 ·exact(GoE.endsT okF hJ Qf GoE.start (CL B a b most)
   ⟨(VM (Int.not_le.1 q0)),trivial⟩).cast (by first|rfl|(simp[Za, *];done)|(simp_all[Za];done)|(simp_all[Za];omega))
theorem nO(a b most:Int)  :Q4 YP J0 56 #[.agg #[.int .i64 a,.int .i64 b],.int .i64 most] (.bool (Za a b 0 most)):=
 Xr (ts:=[.agg #[.int .i64 a,.int .i64 b],.int .i64 most]) Zk (c0:=Qw YP 56 21 (([.agg #[.int .i64 a,.int .i64 b],.int .i64 most]).map (Q8 0 4))) (by kernel_rfl) (by kernel_rfl) fun B hJ=>GG a b most  hJ
def yb(B:Lo)(n lo hi:Int):List Prop:=[(!XY n lo)=true]++([]:List Prop)
def EJ(n lo hi:Int):QE:=[(3,W9)]
set_option maxRecDepth 100000 in
theorem LI(B:Lo)(n lo hi:Int):Xe (Qv YP (QA YP) J0 B 6 1 (Qw YP 72 15 (([.int .i64 n,.int .i64 lo,.int .i64 hi]).map (Q8 0 4))) Ze 1
 (EJ n lo hi++[(7,W9)]) 0 [] []) []=some (.bool true,
 [(!XY hi n)=true]++yb B n lo hi):=by kernel_rfl
set_option maxRecDepth 100000 in
theorem LH(B:Lo)(n lo hi:Int):Xe (Qv YP (QA YP) J0 B 6 1 (Qw YP 72 15 (([.int .i64 n,.int .i64 lo,.int .i64 hi]).map (Q8 0 4))) Ze 1
 (EJ n lo hi++[(7,Vd)]) 0 [] []) []=some (.bool false,
 [(!XY hi n)=false]++yb B n lo hi):=by kernel_rfl
set_option maxRecDepth 100000 in
theorem LG(B:Lo)(n lo hi:Int):Xe (Qv YP (QA YP) J0 B 6 1 (Qw YP 72 15 (([.int .i64 n,.int .i64 lo,.int .i64 hi]).map (Q8 0 4))) Ze 1
 [(3,Vd)] 0 [] []) []=some (.bool false,
 [(!XY n lo)=false]):=by kernel_rfl
set_option maxHeartbeats 4000000 in
theorem MG(n lo hi:Int)  {B:Lo}(hJ:∀w,B.has w->J0 w):EndsT YP B (Qw YP 72 15 (([.int .i64 n,.int .i64 lo,.int .i64 hi]).map (Q8 0 4))) (.bool (Wt n lo hi)):=by
 by_cases q0:(lo:Int)<=(n)
 ·have Vg:Q7 (yb B n lo hi):=by
   exact⟨(VL q0),trivial⟩
  by_cases q1:(n:Int)<=(hi)
  ·exact(GoE.endsT okF hJ Qf GoE.start (LI B n lo hi)
    ⟨(VL q1),Vg⟩).cast (by first|rfl|(simp[Wt, *];done)|(simp_all[Wt];done)|(simp_all[Wt];omega))
  ·exact(GoE.endsT okF hJ Qf GoE.start (LH B n lo hi)
    ⟨(VM (Int.not_le.1 q1)),Vg⟩).cast (by first|rfl|(simp[Wt, *];done)|(simp_all[Wt];done)|(simp_all[Wt];omega))
 ·exact(GoE.endsT okF hJ Qf GoE.start (LG B n lo hi)
   ⟨(VM (Int.not_le.1 q0)),trivial⟩).cast (by first|rfl|(simp[Wt, *];done)|(simp_all[Wt];done)|(simp_all[Wt];omega))
theorem wF(n lo hi:Int)  :Q4 YP J0 72 #[.int .i64 n,.int .i64 lo,.int .i64 hi] (.bool (Wt n lo hi)):=
 Xr (ts:=[.int .i64 n,.int .i64 lo,.int .i64 hi]) Zk (c0:=Qw YP 72 15 (([.int .i64 n,.int .i64 lo,.int .i64 hi]).map (Q8 0 4))) (by kernel_rfl) (by kernel_rfl) fun B hJ=>MG n lo hi  hJ
def Jg(xs:List Int)(lo hi:Int)(i:Int):List Value:=[.int .i64 lo,.int .i64 hi,Q6 1 (QO xs.length (Qg Q3 xs)),.int .i64 (↑xs.length:Int),.int .i64 i]
def VG(xs:List Int)(lo hi:Int)(i:Int):List Obj:=[]
def Jh:List Item:=([.code [1,0,1,0,0],.inLoop [1,0,1,0,0],.inBlock 0,.code [1,1]]).map (it (QX YP 74))
def BI(B:Lo)(c0:CF)(xs:List Int)(lo hi:Int)(i:Int):Prop:=∃dJ:Nat->Value,(∀t,X4 (dJ t))/\GoE YP B c0 Ze 1 (QJ 74 21 (([1,2,9,10,11]:List Nat).zip (Jg xs lo hi i)) dJ Jh) (QH (VG xs lo hi i)) (2+(VG xs lo hi i).length) []
def oK(xs:List Int)(lo hi:Int)(i:Int):Array Value:=#[.int .i64 (xs.getD i.toNat NC),.int .i64 lo,.int .i64 hi]
def eU(B:Lo)(xs:List Int)(lo hi:Int)(i:Int)(Qt:Nat->Value):List Prop:=[Vq i xs.length (Qg Q3 xs) Try.t3.size #[.int .i64 (xs.getD i.toNat NC)],XY i (↑xs.length:Int)=true]++([]:List Prop)
def oL(xs:List Int)(lo hi:Int)(i:Int)(Qt:Nat->Value):QE:=[(0,W9),(1,Qj.tidx i.toNat #[.int .i64 (xs.getD i.toNat NC)])]
set_option maxRecDepth 100000 in
theorem BG(B:Lo)(xs:List Int)(lo hi:Int)(i:Int)(Qt:Nat->Value):landM (Qv YP (QA YP) J0 B 16 1 (QJ 74 21 (([1,2,9,10,11]:List Nat).zip (Jg xs lo hi i)) Qt Jh) (QH (VG xs lo hi i)) (2+(VG xs lo hi i).length)
 (oL xs lo hi i Qt++[(7,Qj.pure (.bool true) []),(9,Wu (i+1))]) 0 [] []) [1,2,9,10,11] [] []=some ⟨74,21,Jh,[],.run,none,Jg xs lo hi (i+1),VG xs lo hi (i+1),
 [wq (i+1)=i+1,Q7 []/\Q4 YP J0 72 (oK xs lo hi i) (.bool true)]++eU B xs lo hi i Qt⟩:=by kernel_rfl
set_option maxRecDepth 100000 in
theorem BF(B:Lo)(xs:List Int)(lo hi:Int)(i:Int)(Qt:Nat->Value):Xe (Qv YP (QA YP) J0 B 16 1 (QJ 74 21 (([1,2,9,10,11]:List Nat).zip (Jg xs lo hi i)) Qt Jh) (QH (VG xs lo hi i)) (2+(VG xs lo hi i).length)
 (oL xs lo hi i Qt++[(7,Qj.pure (.bool false) [])]) 0 [] []) []=some (.bool false,
 [Q7 []/\Q4 YP J0 72 (oK xs lo hi i) (.bool false)]++eU B xs lo hi i Qt):=by kernel_rfl
set_option maxRecDepth 100000 in
theorem BE(B:Lo)(xs:List Int)(lo hi:Int)(i:Int)(Qt:Nat->Value):Xe (Qv YP (QA YP) J0 B 9 1 (QJ 74 21 (([1,2,9,10,11]:List Nat).zip (Jg xs lo hi i)) Qt Jh) (QH (VG xs lo hi i)) (2+(VG xs lo hi i).length)
 [(0,Vd)] 0 [] []) []=some (.bool true,
 [XY i (↑xs.length:Int)=false]):=by kernel_rfl
set_option maxRecDepth 100000 in
theorem BD(B:Lo)(xs:List Int)(lo hi:Int):landM (Qv YP (QA YP) J0 B 7 1 (Qw YP 74 21 (([XJ xs,.int .i64 lo,.int .i64 hi]).map (Q8 0 4))) Ze 1
 [] 0 [] []) [1,2,9,10,11] [] []=some ⟨74,21,Jh,[],.run,none,Jg xs lo hi (0),VG xs lo hi (0),
 []⟩:=by kernel_rfl
set_option maxHeartbeats 4000000 in
theorem BH(xs:List Int)(lo hi:Int)  (Zq:xs.length<=9223372036854775807){B:Lo}(hJ:∀w,B.has w->J0 w){c0:CF}:∀m:Nat,(∀(i:Int),xs.length-i.toNat=m->∀(h0:0<=i),BI B c0 xs lo hi i->EndsT YP B c0 (.bool ((xs.drop i.toNat).all (fun x=>Wt x lo hi)))):=by
 intro m0;induction m0 using Oi with
 |_ m0 ih0=>
  intro i Ru h0 ⟨Qt,Vs,XL⟩;by_cases q0:(i:Int)<((↑xs.length:Int))
  ·have Vg:Q7 (eU B xs lo hi i Qt):=by
    exact⟨⟨by omega,by omega,(Q0 (z:=1) (fun _=>rfl) (by first|omega|(rw[Ow];omega)|(rw[Ou];omega)))⟩,⟨(XD q0),trivial⟩⟩
   cases q1:Wt (xs.getD i.toNat NC) lo hi with
   |true=>
    exact((ih0 _ (by omega)) (i+1) rfl (by first|with_reducible assumption|omega|(simp_all;done))
     (XL.landM okF hJ Qf (BG B xs lo hi i Qt)
     ⟨(Xb (by omega) (by omega)),⟨⟨trivial,(by have t_:=wF (xs.getD i.toNat NC) (lo) (hi);rw[q1]at t_;exact t_)⟩,Vg⟩⟩ (by kernel_rfl) (by kernel_rfl))).cast (by first|(rw[mY (i:=i)];(· simp_all);(· omega);(· omega))|(rw[mX (i:=i)];(· simp_all);(· omega)))
   |false=>
    exact(GoE.endsT okF hJ Qf XL (BF B xs lo hi i Qt)
     ⟨⟨trivial,(by have t_:=wF (xs.getD i.toNat NC) (lo) (hi);rw[q1]at t_;exact t_)⟩,Vg⟩).cast (by first|(rw[mY (i:=i)];(· simp_all);(· omega);(· omega))|(rw[mX (i:=i)];(· simp_all);(· omega)))
  ·exact(GoE.endsT okF hJ Qf XL (BE B xs lo hi i Qt)
    ⟨(Zb (Int.not_lt.1 q0)),trivial⟩).cast (by first|(rw[mY (i:=i)];(· simp_all);(· omega);(· omega))|(rw[mX (i:=i)];(· simp_all);(· omega)))
set_option maxHeartbeats 4000000 in
theorem EP(xs:List Int)(lo hi:Int)  (Zq:xs.length<=9223372036854775807){B:Lo}(hJ:∀w,B.has w->J0 w):EndsT YP B (Qw YP 74 21 (([XJ xs,.int .i64 lo,.int .i64 hi]).map (Q8 0 4))) (.bool (xs.all (fun x=>Wt x lo hi))):=by
 exact((BH xs lo hi Zq hJ _) (0) rfl (by first|with_reducible assumption|omega|(simp_all;done))
  (GoE.start.landM okF hJ Qf (BD B xs lo hi)
  trivial (by kernel_rfl) (by kernel_rfl))).cast (by first|rfl|(simp[*];done)|(simp_all[];done)|(simp_all[];omega))
theorem ES(xs:List Int)(lo hi:Int)  :Q4 YP J0 74 #[XJ xs,.int .i64 lo,.int .i64 hi] (.bool (xs.all (fun x=>Wt x lo hi))):=
 UX (ts:=[XJ xs,.int .i64 lo,.int .i64 hi]) (xs.length<=9223372036854775807) (fun _ _ ht=>ht.ln (i:=0) rfl) Zk (c0:=Qw YP 74 21 (([XJ xs,.int .i64 lo,.int .i64 hi]).map (Q8 0 4))) (by kernel_rfl) (by kernel_rfl) fun Zq B hJ=>EP xs lo hi  Zq hJ
def So(B:Lo)(a b lo hi:Int):List Prop:=[(!XY a lo)=true]++([]:List Prop)
def da(a b lo hi:Int):QE:=[(5,W9)]
def Sn(B:Lo)(a b lo hi:Int):List Prop:=[(!XY b a)=true]++So B a b lo hi
def cZ(a b lo hi:Int):QE:=da a b lo hi++[(11,W9)]
set_option maxRecDepth 100000 in
theorem qj(B:Lo)(a b lo hi:Int):Xe (Qv YP (QA YP) J0 B 6 1 (Qw YP 114 24 (([.agg #[.int .i64 a,.int .i64 b],.int .i64 lo,.int .i64 hi]).map (Q8 0 4))) Ze 1
 (cZ a b lo hi++[(17,W9)]) 0 [] []) []=some (.bool true,
 [(!XY hi b)=true]++Sn B a b lo hi):=by kernel_rfl
set_option maxRecDepth 100000 in
theorem qi(B:Lo)(a b lo hi:Int):Xe (Qv YP (QA YP) J0 B 6 1 (Qw YP 114 24 (([.agg #[.int .i64 a,.int .i64 b],.int .i64 lo,.int .i64 hi]).map (Q8 0 4))) Ze 1
 (cZ a b lo hi++[(17,Vd)]) 0 [] []) []=some (.bool false,
 [(!XY hi b)=false]++Sn B a b lo hi):=by kernel_rfl
set_option maxRecDepth 100000 in
theorem qh(B:Lo)(a b lo hi:Int):Xe (Qv YP (QA YP) J0 B 6 1 (Qw YP 114 24 (([.agg #[.int .i64 a,.int .i64 b],.int .i64 lo,.int .i64 hi]).map (Q8 0 4))) Ze 1
 (da a b lo hi++[(11,Vd)]) 0 [] []) []=some (.bool false,
 [(!XY b a)=false]++So B a b lo hi):=by kernel_rfl
set_option maxRecDepth 100000 in
theorem qg(B:Lo)(a b lo hi:Int):Xe (Qv YP (QA YP) J0 B 6 1 (Qw YP 114 24 (([.agg #[.int .i64 a,.int .i64 b],.int .i64 lo,.int .i64 hi]).map (Q8 0 4))) Ze 1
 [(5,Vd)] 0 [] []) []=some (.bool false,
 [(!XY a lo)=false]):=by kernel_rfl
set_option maxHeartbeats 4000000 in
theorem uv(a b lo hi:Int)  {B:Lo}(hJ:∀w,B.has w->J0 w):EndsT YP B (Qw YP 114 24 (([.agg #[.int .i64 a,.int .i64 b],.int .i64 lo,.int .i64 hi]).map (Q8 0 4))) (.bool (Za a b lo hi)):=by
 by_cases q0:(lo:Int)<=(a)
 ·have Vg:Q7 (So B a b lo hi):=by
   exact⟨(VL q0),trivial⟩
  by_cases q1:(a:Int)<=(b)
  ·have hp1:Q7 (Sn B a b lo hi):=by
    exact⟨(VL q1),Vg⟩
   by_cases q2:(b:Int)<=(hi)
   ·exact(GoE.endsT okF hJ Qf GoE.start (qj B a b lo hi)
     ⟨(VL q2),hp1⟩).cast (by first|rfl|(simp[Za, *];done)|(simp_all[Za];done)|(simp_all[Za];omega))
   ·exact(GoE.endsT okF hJ Qf GoE.start (qi B a b lo hi)
     ⟨(VM (Int.not_le.1 q2)),hp1⟩).cast (by first|rfl|(simp[Za, *];done)|(simp_all[Za];done)|(simp_all[Za];omega))
  ·exact(GoE.endsT okF hJ Qf GoE.start (qh B a b lo hi)
    ⟨(VM (Int.not_le.1 q1)),Vg⟩).cast (by first|rfl|(simp[Za, *];done)|(simp_all[Za];done)|(simp_all[Za];omega))
 ·exact(GoE.endsT okF hJ Qf GoE.start (qg B a b lo hi)
   ⟨(VM (Int.not_le.1 q0)),trivial⟩).cast (by first|rfl|(simp[Za, *];done)|(simp_all[Za];done)|(simp_all[Za];omega))
theorem oF(a b lo hi:Int)  :Q4 YP J0 114 #[.agg #[.int .i64 a,.int .i64 b],.int .i64 lo,.int .i64 hi] (.bool (Za a b lo hi)):=
 Xr (ts:=[.agg #[.int .i64 a,.int .i64 b],.int .i64 lo,.int .i64 hi]) Zk (c0:=Qw YP 114 24 (([.agg #[.int .i64 a,.int .i64 b],.int .i64 lo,.int .i64 hi]).map (Q8 0 4))) (by kernel_rfl) (by kernel_rfl) fun B hJ=>uv a b lo hi  hJ
def kS(a b most:Int):Array Value:=#[.agg #[.int .i64 a,.int .i64 b],.int .i64 0,.int .i64 most]
set_option maxRecDepth 100000 in
theorem ya(B:Lo)(a b most:Int):Xe (Qv YP (QA YP) J0 B 6 1 (Qw YP 96 8 (([.agg #[.int .i64 a,.int .i64 b],.int .i64 most]).map (Q8 0 4))) Ze 1
 [(4,Qj.pure (.bool true) [])] 0 [] []) []=some (.bool true,
 [Q7 []/\Q4 YP J0 114 (kS a b most) (.bool true)]):=by kernel_rfl
set_option maxRecDepth 100000 in
theorem xZ(B:Lo)(a b most:Int):Xe (Qv YP (QA YP) J0 B 6 1 (Qw YP 96 8 (([.agg #[.int .i64 a,.int .i64 b],.int .i64 most]).map (Q8 0 4))) Ze 1
 [(4,Qj.pure (.bool false) [])] 0 [] []) []=some (.bool false,
 [Q7 []/\Q4 YP J0 114 (kS a b most) (.bool false)]):=by kernel_rfl
set_option maxHeartbeats 4000000 in
theorem Br(a b most:Int)  {B:Lo}(hJ:∀w,B.has w->J0 w):EndsT YP B (Qw YP 96 8 (([.agg #[.int .i64 a,.int .i64 b],.int .i64 most]).map (Q8 0 4))) (.bool (Za a b 0 most)):=by
 cases q0:Za a b 0 most with
 |true=>
  exact(GoE.endsT okF hJ Qf GoE.start (ya B a b most)
   ⟨⟨trivial,(by have t_:=oF (a) (b) (0) (most);rw[q0]at t_;exact t_)⟩,trivial⟩).cast (by first|rfl|(simp[Za, *];done)|(simp_all[Za];done)|(simp_all[Za];omega))
 |false=>
  exact(GoE.endsT okF hJ Qf GoE.start (xZ B a b most)
   ⟨⟨trivial,(by have t_:=oF (a) (b) (0) (most);rw[q0]at t_;exact t_)⟩,trivial⟩).cast (by first|rfl|(simp[Za, *];done)|(simp_all[Za];done)|(simp_all[Za];omega))
theorem ax(a b most:Int)  :Q4 YP J0 96 #[.agg #[.int .i64 a,.int .i64 b],.int .i64 most] (.bool (Za a b 0 most)):=
 Xr (ts:=[.agg #[.int .i64 a,.int .i64 b],.int .i64 most]) Zk (c0:=Qw YP 96 8 (([.agg #[.int .i64 a,.int .i64 b],.int .i64 most]).map (Q8 0 4))) (by kernel_rfl) (by kernel_rfl) fun B hJ=>Br a b most  hJ
set_option maxRecDepth 100000 in
theorem EK(B:Lo)(a b:Int):Xe (Qv YP (QA YP) J0 B 6 1 (Qw YP 77 5 (([.agg #[.int .i64 a,.int .i64 b]]).map (Q8 0 4))) Ze 1
 [] 0 [] []) []=some (.int .i64 b,
 []):=by kernel_rfl
set_option maxHeartbeats 4000000 in
theorem HF(a b:Int)  {B:Lo}(hJ:∀w,B.has w->J0 w):EndsT YP B (Qw YP 77 5 (([.agg #[.int .i64 a,.int .i64 b]]).map (Q8 0 4))) (.int .i64 b):=by
 exact(GoE.endsT okF hJ Qf GoE.start (EK B a b)
  trivial).cast (by first|rfl|(simp[*];done)|(simp_all[];done)|(simp_all[];omega))
theorem MH(a b:Int)  :Q4 YP J0 77 #[.agg #[.int .i64 a,.int .i64 b]] (.int .i64 b):=
 Xr (ts:=[.agg #[.int .i64 a,.int .i64 b]]) Zk (c0:=Qw YP 77 5 (([.agg #[.int .i64 a,.int .i64 b]]).map (Q8 0 4))) (by kernel_rfl) (by kernel_rfl) fun B hJ=>HF a b  hJ
set_option maxRecDepth 100000 in
theorem HE(B:Lo)(a b:Int):Xe (Qv YP (QA YP) J0 B 6 1 (Qw YP 76 5 (([.agg #[.int .i64 a,.int .i64 b]]).map (Q8 0 4))) Ze 1
 [] 0 [] []) []=some (.int .i64 a,
 []):=by kernel_rfl
set_option maxHeartbeats 4000000 in
theorem LF(a b:Int)  {B:Lo}(hJ:∀w,B.has w->J0 w):EndsT YP B (Qw YP 76 5 (([.agg #[.int .i64 a,.int .i64 b]]).map (Q8 0 4))) (.int .i64 a):=by
 exact(GoE.endsT okF hJ Qf GoE.start (HE B a b)
  trivial).cast (by first|rfl|(simp[*];done)|(simp_all[];done)|(simp_all[];omega))
theorem Nq(a b:Int)  :Q4 YP J0 76 #[.agg #[.int .i64 a,.int .i64 b]] (.int .i64 a):=
 Xr (ts:=[.agg #[.int .i64 a,.int .i64 b]]) Zk (c0:=Qw YP 76 5 (([.agg #[.int .i64 a,.int .i64 b]]).map (Q8 0 4))) (by kernel_rfl) (by kernel_rfl) fun B hJ=>LF a b  hJ
set_option maxRecDepth 100000 in
theorem EH(B:Lo)(a r:Int):let b:=NF (a*r) 1000;Xe (Qv YP (QA YP) J0 B 6 1 (Qw YP 115 9 (([.int .i64 a,.int .i64 r]).map (Q8 0 4))) Ze 1
 [(3,Wu (a*r)),(4,Wu b)] 0 [] []) []=some (.int .i64 b,
 [IntKind.wrap .i64 b=NF (a*r) 1000,wq (a*r)=a*r]):=by intro b;kernel_rfl
set_option maxHeartbeats 4000000 in
theorem HD(a r:Int)(ha:0<=a/\a<=1000000000000)(hr:0<=r/\r<=1000000){B:Lo}(hJ:∀w,B.has w->J0 w):EndsT YP B (Qw YP 115 9 (([.int .i64 a,.int .i64 r]).map (Q8 0 4))) (.int .i64 ((a*r).tdiv 1000)):=by
 have e0:0<=a*r:=Int.mul_nonneg ha.1 hr.1;have e1:a*r<=1000000000000*1000000:=Int.mul_le_mul ha.2 hr.2 hr.1 (by omega);have e2:(a*r).tdiv 1000=(a*r) / 1000:=Ov e0;exact(GoE.endsT okF hJ Qf GoE.start (EH B a r)
  ⟨(KW (by omega) (by omega)),⟨(Xb (by omega) (by omega)),trivial⟩⟩).cast (by first|rfl|(simp[*];done)|(simp_all[];done)|(simp_all[];omega))
theorem EI(a r:Int)(ha:0<=a/\a<=1000000000000)(hr:0<=r/\r<=1000000):Q4 YP J0 115 #[.int .i64 a,.int .i64 r] (.int .i64 ((a*r).tdiv 1000)):=
 Xr (ts:=[.int .i64 a,.int .i64 r]) Zk (c0:=Qw YP 115 9 (([.int .i64 a,.int .i64 r]).map (Q8 0 4))) (by kernel_rfl) (by kernel_rfl) fun B hJ=>HD a r ha hr hJ
set_option maxRecDepth 100000 in
theorem n7(B:Lo)(a r:Int):let c:=.int .i64 (NF (a*r) 1000);let b:=a+NF (a*r) 1000;Xe (Qv YP (QA YP) J0 B 6 1 (Qw YP 100 10 (([.int .i64 a,.int .i64 r]).map (Q8 0 4))) Ze 1
 [(4,Qj.pure c []),(5,Wu b)] 0 [] []) []=some (.int .i64 b,
 [wq b=a+NF (a*r) 1000,Q7 []/\Q4 YP J0 115 #[.int .i64 a,.int .i64 r] c]):=by intro c b;kernel_rfl
set_option maxHeartbeats 4000000 in
theorem pU(a r:Int)(ha:0<=a/\a<=1000000000000)(hr:0<=r/\r<=1000000){B:Lo}(hJ:∀w,B.has w->J0 w):EndsT YP B (Qw YP 100 10 (([.int .i64 a,.int .i64 r]).map (Q8 0 4))) (.int .i64 (a+(a*r).tdiv 1000)):=by
 have e0:0<=a*r:=Int.mul_nonneg ha.1 hr.1;have e1:a*r<=1000000000000*1000000:=Int.mul_le_mul ha.2 hr.2 hr.1 (by omega);have e2:(a*r).tdiv 1000=(a*r) / 1000:=Ov e0;exact(GoE.endsT okF hJ Qf GoE.start (n7 B a r)
  ⟨(Xb (by omega) (by omega)),⟨⟨trivial,EI (a) (r) (by first|with_reducible assumption|omega|simp_all) (by first|with_reducible assumption|omega|simp_all)⟩,trivial⟩⟩).cast (by first|rfl|(simp[*];done)|(simp_all[];done)|(simp_all[];omega))
theorem xB(a r:Int)(ha:0<=a/\a<=1000000000000)(hr:0<=r/\r<=1000000):Q4 YP J0 100 #[.int .i64 a,.int .i64 r] (.int .i64 (a+(a*r).tdiv 1000)):=
 Xr (ts:=[.int .i64 a,.int .i64 r]) Zk (c0:=Qw YP 100 10 (([.int .i64 a,.int .i64 r]).map (Q8 0 4))) (by kernel_rfl) (by kernel_rfl) fun B hJ=>pU a r ha hr hJ
def gx(n:Int):Array Value:=#[.int .i64 n,.int .i64 0,.int .i64 1000000]
set_option maxRecDepth 100000 in
theorem uu(B:Lo)(n:Int):Xe (Qv YP (QA YP) J0 B 6 1 (Qw YP 95 5 (([.int .i64 n]).map (Q8 0 4))) Ze 1
 [(2,Qj.pure (.bool true) [])] 0 [] []) []=some (.bool true,
 [Q7 []/\Q4 YP J0 72 (gx n) (.bool true)]):=by kernel_rfl
set_option maxRecDepth 100000 in
theorem ur(B:Lo)(n:Int):Xe (Qv YP (QA YP) J0 B 6 1 (Qw YP 95 5 (([.int .i64 n]).map (Q8 0 4))) Ze 1
 [(2,Qj.pure (.bool false) [])] 0 [] []) []=some (.bool false,
 [Q7 []/\Q4 YP J0 72 (gx n) (.bool false)]):=by kernel_rfl
set_option maxHeartbeats 4000000 in
theorem xY(n:Int)  {B:Lo}(hJ:∀w,B.has w->J0 w):EndsT YP B (Qw YP 95 5 (([.int .i64 n]).map (Q8 0 4))) (.bool (Wt n 0 1000000)):=by
 cases q0:Wt n 0 1000000 with
 |true=>
  exact(GoE.endsT okF hJ Qf GoE.start (uu B n)
   ⟨⟨trivial,(by have t_:=wF (n) (0) (1000000);rw[q0]at t_;exact t_)⟩,trivial⟩).cast (by first|rfl|(simp[*];done)|(simp_all[];done)|(simp_all[];omega))
 |false=>
  exact(GoE.endsT okF hJ Qf GoE.start (ur B n)
   ⟨⟨trivial,(by have t_:=wF (n) (0) (1000000);rw[q0]at t_;exact t_)⟩,trivial⟩).cast (by first|rfl|(simp[*];done)|(simp_all[];done)|(simp_all[];omega))
theorem Rd(n:Int)  :Q4 YP J0 95 #[.int .i64 n] (.bool (Wt n 0 1000000)):=
 Xr (ts:=[.int .i64 n]) Zk (c0:=Qw YP 95 5 (([.int .i64 n]).map (Q8 0 4))) (by kernel_rfl) (by kernel_rfl) fun B hJ=>xY n  hJ
end
end Go.Proofs.Ytncjjangllkokaa

