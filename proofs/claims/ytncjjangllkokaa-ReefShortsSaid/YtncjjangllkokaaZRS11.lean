/- TX 2: frames PD defer a function PD recovers. -/
import Derived.Test.YtncjjangllkokaaZRS10
import Derived.Test.YtncjjangllkokaaZRS07
import Derived.Test.YtncjjangllkokaaProg
set_option linter.all false
open List renaming range->Ln,getD_eq_getElem?_getD->Lu,getElem?_map->LA,length->Li,getElem?_append_right->Lt,range'->LD,mem_append_left->Ll,mem_append->L6,getElem?_eq_getElem->L9,mem_cons_of_mem->Lw,flatMap_cons->L5,replicate->Lm,mem_of_getElem? ->Lp,getElem?_take_of_lt->L8,getElem?_eq_none->LL,getElem?_append_left->LG,length_set->LS,length_replicate->LR
open Array renaming getElem?_eq_none->L7,getElem?_toList->Lq,mem_of_getElem? ->LM,getElem?_extract->LZ
open Nat renaming ble->LO,le_refl->LC,zero_add->LF,lt_or_ge->LI,blt->Ls,ble_eq_true_of_le->LH,beq->Lk,min->LU,strongRecOn->LQ
open Option renaming map_some->LJ
open Int renaming le_refl->LW,tdiv->Lh,tdiv_eq_ediv_of_nonneg->Ma
open Inhabited renaming default->Le
namespace Go.CE
open Go Go.RowKit

def uR:OO->CM
 | .ret _=>.ret
 | .ZO v=>.ZO v
def Ib:OO->Value
 | .ret _=>.nilIface
 | .ZO v=>v
def Il:CM->Option OO
 | .run=>none
 | .ret=>some (.ret (.tuple #[]))
 | .ZO v=>some (.ZO v)
theorem Fo{m:CM}{o:OO}(h:Il m=some o):m=uR o:=by
 cases m with
 |run=>cases h
 |ret=>cases h;rfl
 |ZO v=>cases h;rfl
def CP(T:Tm):Tm:=ofList T.len ((Ln T.len).map (XJ T))
theorem CO{μ:Mu}{T:Tm}{A:Array Value}(hl:T.len<=16000)(h:TR μ T A):TR μ (CP T) A:=by
 refine⟨h.1,fun t=> ?_⟩;simp only[CP,XJ,ofList];rw[ao _ _ _ _ (by simp;omega)];split
 ·rename_i ht;have ht:t<T.len:=by simpa using ht
  have:=h.2 t;simp only[XJ]at this;rw[Nat.sub_zero,Lu,LA,List.getElem?_range ht];exact this
 ·rename_i ht;have ht:T.len<=t:=by simpa using ht
  rw[Tri.get_lf];have hA:A.getD t undef=undef:=by
   rw[Array.getD_eq_getD_getElem?,L7 (by rw[<-h.1];exact ht)];rfl
  rw[hA];exact VR.undef
structure IV where
 c:CF
 H:Qr
 n:Nat
 g:FuncId
 args:Array Value
 R:List Nat
 W:List Nat
noncomputable def AD(P:Program)(F:FuncId->Bool)(c1:CF)(H:Qr)(n:Nat):Option IV:=
 match c1.mode,c1.todo,c1.defers,c1.roundOf with
 | .run,.code (.region _ ops false)::todo,[],none=>match ri P F X5 0 ops c1 H n with
   |some s=>match s.o.op,s.post with
    | .defer c,[]=>match c.callee with
      | .value x=>match Zp s.T x with
        |some (.func (.func g) xs ys)=>bif c.args.isEmpty && F g && LO s.T.len 16000 then some ⟨⟨c1.fn,CP (V3 s.T s.o.dst undef),todo,[],.run,none⟩,s.H,s.n,g,xs++ys,KE s.Qx,Ug s.Qx⟩else none
        |_=>none
      |_=>none
    |_,_=>none
   |none=>none
 |_,_,_,_=>none
def UJ(P:Program)(B:Lo)(c:CF)(H:Qr)(n:Nat)(out:OO)(live:List (Nat×Value))(H':Qr)(n':Nat)(R W:List Nat):Prop:=
 ∃(d:Nat->Value) (td:List Item),GoJ P B c H n ⟨c.fn,DX c.tmps.len live d,td,[],uR out,c.roundOf⟩ H' n' R W
noncomputable def rh(P:Program)(F:FuncId->Bool)(J:World->Prop)(B:Lo)(k b:Nat)(c:CF)(H:Qr)(n:Nat)(out:OO)(live:List (Nat×Value))(UC:Qr)(n':Nat)(Wk:List Nat)(res:Value)(resR:List Nat):Option ST:=
 match Q2 P F J B k b c H n [] 0 [] []with
 |some ⟨.at c1 H1 n1,W1,L1⟩=>match AD P F c1 H1 n1 with
  |some s=>match dG P F X5 0 b s.g s.args (Ib out) (UC++s.H) n' [] (Wd b Wk (Wd b s.W W1))with
   |some m3=>some ⟨.fin (.ret res) m3.H m3.n,m3.W,UJ P B s.c s.H s.n out live (UC++s.H) n' (Ln s.n) Wk::(∀d,iH P s.c.fn m3.H (DX s.c.tmps.len live d)=some (res,resR))::L1⟩
   |none=>none
  |none=>none
 |_=>none
def G7(P:Program)(B:Lo)(b:Nat)(c:CF)(H:Qr)(n:Nat)(s:Option ST):Prop:=
 ∀out H' n' W' L',s=some ⟨.fin out H' n',W',L'⟩->QB L'->∃R W2,FJ P B c H n out H' n' R W2/\∀i,i<b->(i∈W'<->i∈W2)
section
variable {P:Program} {F:FuncId->Bool} {J:World->Prop} {B:Lo} {c0 c:CF} {Hb H:Qr} {a n:Nat} {W Wf:List Nat}
theorem rj(hF:∀g,F g=true->QE P g=true)(Zc:P.follows .mixedOrders=true){c1:CF}{H1:Qr}{n1:Nat}{s:IV}(hu:Under H1 n1)(h:AD P F c1 H1 n1=some s):
 Shape H1 n1 s.H s.n s.R s.W/\Under s.H s.n/\F s.g=true/\s.c.fn=c1.fn/\s.c.roundOf=none/\s.c.defers=[]/\s.c.mode=.run/\
 ∀(S:Nat->Prop) (n N:Nat) (W:List Nat) (μ0 μ:Mu) (H0:Qr) (w0 w:World),Sofar B S n N W μ0 μ H0 H1 n1 w0 w->(∀i,S i->i<n)->s.n<=N->(∀i∈s.R,i<n->S i)->∀(U3:Frame) (cs:List Frame),FrR Bot.no μ c1 U3->
  ∃(xs' ys':Array Value) (fr2:Frame) (w':World) (μ':Mu),Sofar B S n N (W++s.W) μ0 μ' H0 s.H s.n w0 w'/\Ext μ μ'/\FrR ⟨[{target:=.fn (.func s.g) ys',args:=xs'}],.normal⟩ μ' s.c fr2/\fr2.fn=U3.fn/\VRs μ' s.args (xs'++ys')/\Steps P (lone U3 cs w) (lone fr2 cs w'):=by
 unfold AD at h;split at h
 ·rename_i id ops todo hmode1 htodo1 hds1 KP;split at h
  ·rename_i q hs;obtain⟨pre,e1,e2,e3,e4,e5,e6,e7,e8⟩:=SP (B:=B) hF Zc (QR P B) hu hs;split at h
   ·rename_i c Zy XO;split at h
    ·rename_i x hcal;split at h
     ·rename_i g xs ys hx;cases hca:(c.args.isEmpty && F g && LO q.T.len 16000)with
      |false=>rw[hca]at h;cases h
      |true=>
       rw[hca]at h;simp only[cond_true,YO]at h;subst h;simp only[YB]at hca;have hlenT:=YL hca.2;have sh2:=ZY q.Qx _ _ _ _ _ _ e4 e2;refine⟨sh2,e6,hca.1.2,rfl,rfl,rfl,rfl,fun S n N W μ0 μ H0 w0 w s1 hS hN hR U3 cs UP=> ?_⟩;simp only at hN hR ⊢;have hro1:U3.roundOf=none:=by
        have:=UP.round;rw[KP]at this;generalize U3.roundOf=z at this ⊢;cases z with
        |none=>rfl
        |some z=>cases this
       obtain⟨ha,hb,hd⟩:=UP.running hmode1;rw[htodo1]at hd;obtain⟨L',hL,hL'⟩:=hd.code;have hd1:U3.defers=[]:=by
        have:=UP.defers;rw[hds1]at this;exact this.empty
       rw[XO]at e1;have hlen:ops.size=pre.length+(0+1):=by
        have:=congrArg Li e1;simp at this;omega
       have hat:ops[pre.length]? =some q.o:=by
        rw[<-Lq,e1,Lt (LC _)];simp
       have hplen:q.Qx.length=pre.length:=by have:=congrArg Li e5;simpa using this
       have hown1:∀(j:Nat) r,q.Qx[j]? =some r->ops[0+j]? =some r.o:=by
        intro j r hj;rw[LF];exact Ur (l:=ops.toList) (l2:=[q.o]) (by rw[e5];exact e1.symm) rfl j r hj
       obtain⟨A1,w2,μ2,s2,hT2,x2,st2⟩:=s1.seq hS e4 e2 e3 0 hown1 rfl hN hR ha hb (pre.length::LD (pre.length+1) 0) L' cs;have Y7:step P (lone U3 cs w)=.next (lone (Xo U3 U3.tmps ops (LD 0 ops.size) L') cs w):=Wh ha hL;rw[range_split hlen]at Y7;rw[hplen]at st2;have U6:Region.wanted q.o (yielded ops A1)=true:=by rw[Kb hT2];exact e8
       have hvx:=me (fr:=Xo U3 A1 ops (pre.length::LD (pre.length+1) 0) L') hT2 x _ hx;have hca':c.args=#[]:=by simpa[Array.isEmpty]using hca.1.1
       generalize hgx:(Xo U3 A1 ops (pre.length::LD (pre.length+1) 0) L').eval x=ux at hvx;cases hvx with
       |func q1 q2 q3 q4=>
        rename_i xs' ys';have hdv:(Deferred.ofValue ((Xo U3 A1 ops (pre.length::LD (pre.length+1) 0) L').eval x) (c.args.map (Xo U3 A1 ops (pre.length::LD (pre.length+1) 0) L').eval)).run P w2=.ok {target:=.fn (.func g) ys',args:=xs'} w2:=by
         rw[hgx,hca'];simp[Deferred.ofValue]
        have st3:=step_defer (cs:=cs) (w:=w2) ha hro1 hat U6 Zy hcal hdv;rw[Y3 hat]at st3;have hdst:=KT e7;have hT3:TR μ2 (V3 q.T q.o.dst undef) (putA A1 undef q.o.dst):=hT2.putA hdst VR.undef;have st4:step P (lone {Xo U3 (putA A1 undef q.o.dst) ops (LD (pre.length+1) 0) L' with defers:={target:=.fn (.func g) ys',args:=xs'}::U3.defers} cs w2)=
         .next (lone {U3 with tmps:=putA A1 undef q.o.dst,todo:=L',defers:={target:=.fn (.func g) ys',args:=xs'}::U3.defers} cs w2):=
         Vo (fr:={U3 with defers:={target:=.fn (.func g) ys',args:=xs'}::U3.defers}) (A:=putA A1 undef q.o.dst) (ops:=ops) (k:=L') ha
        have k1:VRs μ2 xs xs':=⟨q1,q3⟩
        have k2:VRs μ2 ys ys':=⟨q2,q4⟩
        refine⟨xs',ys',{U3 with tmps:=putA A1 undef q.o.dst,todo:=L',defers:={target:=.fn (.func g) ys',args:=xs'}::U3.defers},w2,μ2,s2,x2,⟨UP.fn,CO (by rw[Uk];exact hlenT) hT3,fun _=>hL'.mono x2,.of_empty (by simp[hd1]), ?_,UP.kind,by rw[<-KP];exact UP.round.mono x2⟩,rfl,k1.append k2,.head Y7 (st2.trans (.head st3 (.one st4)))⟩;have:=UP.mode;rw[hmode1]at this;show MR μ2 .run U3.mode;generalize U3.mode=z at this ⊢;cases this;exact .run
     ·cases h
    ·cases h
   ·cases h
  ·cases h
 ·cases h
theorem re(hF:∀g,F g=true->QE P g=true)(hJ:∀w,B.has w->J w)(Zc:P.follows .mixedOrders=true){k b:Nat}{out:OO}{live:List (Nat×Value)}{UC:Qr}{n':Nat}{Wk:List Nat}{res:Value}{resR:List Nat}(hu:Under H n):
 G7 P B b c H n (rh P F J B k b c H n out live UC n' Wk res resR):=by
 intro o H' nz W' L' h ha;unfold rh at h;split at h
 ·rename_i c1 H1 n1 W1 L1 hs1;split at h
  ·rename_i s hs2;split at h
   ·rename_i m3 hm3;simp only[YO,ST.mk.injEq,SR.fin.injEq]at h;obtain⟨⟨rfl,rfl,rfl⟩,rfl,rfl⟩:=h;obtain⟨⟨d,td,hU⟩,hres,hL1⟩:=ha;have hres:=hres d;obtain⟨R1,W1',g1,a1⟩:=Wu hF hJ Zc k b c H n [] 0 [] [] _ hu hs1 hL1;have g1:GoJ P B c H n c1 H1 n1 R1 W1':=g1;simp only at a1;have Sy:Under H1 n1:=hu.shape g1.shape;obtain⟨sh2,hu2,hFg,hfn2,hro2,hds2,hmode2,hsp⟩:=rj (B:=B) hF Zc Sy hs2;have hu3:Under (UC++s.H) n':=hu2.shape hU.shape;obtain⟨Rr,Wr,sh3,ar,br,hsem⟩:=bI (B:=B) hF Zc (QR P B) hu3 hm3;have hu4:Under m3.H m3.n:=hu3.shape sh3;have Yc:=((g1.shape.trans sh2).trans hU.shape).trans sh3;have l1:=g1.shape.le;have l2:=sh2.le;have l3:=hU.shape.le;have l4:=sh3.le;refine⟨(((R1++s.R)++Ln s.n)++Rr)++resR,((W1'++s.W)++Wk)++Wr,⟨⟨Yc.le,Yc.keep,Yc.top,fun i hi=>Ll _ (Yc.sub i hi),Yc.wlt⟩,fun S μ w fr cs QH hB hS hf hfr0 hR=> ?_⟩,fun i hi=> ?_⟩
    ·simp only[L6]at hR;have sf0:Sofar B S n m3.n [] μ μ H H n w w:=⟨Post.refl QH,hB,hf⟩
     obtain⟨U3,w1,μ1,s1,UP,hr1,hfn1,st1,x1⟩:=sf0.goj hS g1 (by omega) (fun i hi=>hR i (.inl (.inl (.inl (.inl hi))))) hfr0 cs;obtain⟨xs',ys',fr2,w2,μ2,s2,x2,hfr2,hfnq,hvargs,st2⟩:=hsp S n m3.n _ μ μ1 H w w1 s1 hS (by omega) (fun i hi=>hR i (.inl (.inl (.inl (.inr hi))))) U3 cs UP;obtain⟨fr3,w3,μ3,s3,hfr3,hr3,hfn3,st3,x3⟩:=s2.goj hS hU (by omega) (fun i hi=>hR i (.inl (.inl (.inr hi)))) hfr2 cs;have hd3:fr3.defers=[{target:=.fn (.func s.g) ys',args:=xs'}]:=by
      have:=hfr3.defers;exact this.empty
     have hun:qE μ3 (Ib out) {fr3 with defers:=[]}/\fr3.mode≠.run:=by
      have hm:=hfr3.mode;simp only at hm;generalize fr3.mode=q at hm ⊢;cases out with
      |ret v=>
       simp only[uR]at hm;cases hm;exact⟨.inl ⟨rfl,rfl⟩,fun e=>by cases e⟩
      |ZO v=>
       simp only[uR]at hm;cases hm with
       |ZO Vw=>exact⟨.inr ⟨_,Vw,rfl⟩,fun e=>by cases e⟩
     have st6:step P (lone fr3 cs w3)=.next (lone (Frame.enter P s.g (xs'++ys') .deferred) ({fr3 with defers:=[]}::cs) w3):=
      Jl hun.2 hd3 rfl (S9 (hF s.g hFg) _ w3)
     obtain⟨w4,μ4,s4,x4,st7⟩:=hsem S n m3.n _ μ μ3 H w w3 s3 hS (LC _) (fun i hi=>hR i (.inl (.inr hi))) _ {fr3 with defers:=[]} cs (hvargs.mono x3) hun.1
     obtain⟨fn,v',hfn,hresr,Vw⟩:=iG hu4 s4.post.ok (hfr3.tmps.mono x4) hres (fun i hi Xu=>by
      rcases LI i n with h1|h1
      ·exact .inl (hR i (.inr hi) h1)
      ·exact .inr ⟨h1,Xu⟩)
     have hfnE:fr3.fn=fr.fn:=by rw[hfn3,hfnq,hfn1]
     have hro3:fr3.roundOf=none:=by
      have:=hfr3.round;simp only[hro2]at this;generalize fr3.roundOf=z at this ⊢;cases z with
      |none=>rfl
      |some z=>cases this
     have JE:({fr3 with defers:=[],mode:=.returning}:Frame).leaving P w4 (.returned v'):=⟨rfl,rfl,hfr3.kind,fn,by rw[<-hfn,hfr3.fn],hresr⟩
     have Zm:Steps P (lone fr cs w) (lone {fr3 with defers:=[],mode:=.returning} cs w4):=
      st1.trans (st2.trans (st3.trans (.head st6 st7)))
     refine⟨.ret v',w4,μ4,s4.post.lists (fun i hi=>by simp[List.append_assoc]),.ret Vw,fun _=>⟨_,Zm,hfnE,JE⟩,fun c1 cs' e=> ?_⟩;subst e;exact Zm.trans (.one (step_leave_returned JE))
    ·rw[br i hi,Z2 hi,Z2 hi,a1 i hi];simp only[L6,List.not_mem_nil,false_or]
   ·cases h
  ·cases h
 ·cases h
def landU(a:Nat)(s:Option ST)(JW:List Nat)(wks keeps:List (Nat×KS))(fz:List Fz):Option (FuncId×Nat×Option Nat×OO×List Value×Qr×List Obj×List Prop):=match s with
 |some ⟨.at c H _,W,L⟩=>bif PF a H W wks keeps fz && c.todo.all VS then
  match Il c.mode,c.defers with
  |some o,[]=>match oe (ql H a (aR a (keeps.map (·.1))) fz 4) o,og (ql H a (aR a (keeps.map (·.1))) fz 4) (JW.map (XJ c.tmps)),uP H a (aR a (keeps.map (·.1))) fz wks,S8 H a (aR a (keeps.map (·.1))) fz keeps with
   |some (o1,L0),some (vs,L1),some (ws,L3),some (os,L2)=>some (c.fn,c.tmps.len,c.roundOf,o1,vs,ws,os,L0++(L1++(L3++(L2++L))))
   |_,_,_,_=>none
  |_,_=>none
   else none
 |_=>none
def FinU(P:Program)(B:Lo)(c0:CF)(Hb:Qr)(a:Nat)(out:OO)(live:List (Nat×Value))(ws:Qr)(os:List Obj)(Wf:List Nat):Prop:=
 ∃(d:Nat->Value) (td:List Item),GoE P B c0 Hb a ⟨c0.fn,DX c0.tmps.len live d,td,[],uR out,c0.roundOf⟩ (Wo Hb a ws os) (a+1+os.length) Wf
theorem FinU.cast{out out1:OO}{live:List (Nat×Value)}{ws ws1:Qr}{os os1:List Obj}(h:FinU P B c0 Hb a out live ws os Wf)(e1:out=out1)(e2:ws=ws1)(e3:os=os1):FinU P B c0 Hb a out1 live ws1 os1 Wf:=e1 ▸ e2 ▸ e3 ▸ h
theorem GoE.landU(hF:∀g,F g=true->QE P g=true)(hJ:∀w,B.has w->J w)(Zc:P.follows .mixedOrders=true){wks:List (Nat×KS)}(hu:Under Hb a)(hw:Writable Hb a (wks.map (·.1)))(h:GoE P B c0 Hb a c H n (wks.map (·.1))){fuel:Nat}{sc:QO}{JW:List Nat}{keeps:List (Nat×KS)}{fz:List Fz}{out:OO}{vs:List Value}{ws:Qr}{os:List Obj}{L:List Prop}
 (e:CE.landU a (Q2 P F J B fuel a c H n sc 0 [] []) JW wks keeps fz=some (c0.fn,c0.tmps.len,c0.roundOf,out,vs,ws,os,L)) (hL:QB L) (hlen:LO c0.tmps.len 16000=true) (KP:c0.roundOf=none):
 FinU P B c0 Hb a out (JW.zip vs) ws os (wks.map (·.1)):=by
 unfold CE.landU at e;split at e
 ·rename_i c' H' n' W' L' hs;cases hqq:(PF a H' W' wks keeps fz && c'.todo.all VS)with
  |false=>rw[hqq]at e;cases e
  |true=>
   rw[hqq]at e;simp only[cond_true]at e;rw[YB]at hqq;obtain⟨hq,hplain⟩:=hqq;split at e
   ·rename_i o0 hoo hdf;split at e
    ·rename_i o1 L0 vs0 L1 ws0 L3 os0 L2 ho1 hvs hws hos;simp only[YO,YR]at e;obtain⟨e1,e2,e6,rfl,rfl,rfl,rfl,rfl⟩:=e;obtain⟨hL0,hLr⟩:=Xl hL;obtain⟨hL1,hLr⟩:=Xl hLr;obtain⟨hL3,hLr⟩:=Xl hLr;obtain⟨hL2,hL4⟩:=Xl hLr;obtain⟨R,W2,JF,hiff⟩:=Wu hF hJ Zc fuel a c H n sc 0 [] [] _ h.under hs hL4;have hg:=(h.step JF).widen (Wf:=wks.map (·.1)) (fun i hi hm=>by
      rcases List.mem_append.1 hm with hm|hm
      ·exact hm
      ·have hi':i∈W':=(hiff i hi).2 (.inr hm);unfold PF at hq;simp only[YB]at hq;simpa using List.all_eq_true.1 hq.1.1.1.1 i hi') hw
     have hd:∀t,∃d,XH d/\∀μ v',VR μ (XJ c'.tmps t) v'->VR μ d v':=fun t=>Ks _
     have wslt:∀i o,Qu ws0 i=some o->i<a:=fun i o ho=>by
      have hq':=hq;unfold PF at hq';simp only[YB]at hq';have Y7:i∈wks.map (·.1):=Decidable.of_not_not fun e=>by
       have:=(du wks ws0 L3 hws i).1.2 e;rw[this]at ho;cases ho
      obtain⟨k,hk,rfl⟩:=List.mem_map.1 Y7;exact YL (List.all_eq_true.1 hq'.1.1.1.2 k hk)
     have hmo:=Fo hoo;refine⟨fun t=>Classical.choose (hd t),c'.todo,SL hu wslt,by omega,fun Z μ w fr cs QH hB hf XM=> ?_⟩;obtain⟨fr',w',μ',hp,YF,ha,hb,Zm⟩:=hg.sem Z μ w fr cs QH hB hf XM;obtain⟨μ1,im1,hco,XO,V1,_⟩:=bg hu hw hg.under hq QH hf hp hws hos hL3 hL2;refine⟨fr',w',μ1,XO,⟨by rw[YF.fn,e1], ?_,fun hpn=> ?_, ?_, ?_,YF.kind, ?_⟩,ha,hb,Zm⟩
     ·refine YF.tmps.merge e2 (YL hlen) (fun p hp v' hv=> ?_) fun t=>Classical.choose_spec (hd t)
      obtain⟨i,hi⟩:=List.getElem?_of_mem hp;rw[List.getElem?_zip_eq_some]at hi;obtain⟨hi1,hi2⟩:=hi;obtain⟨u,L',ha,hb,hc⟩:=(hC _ _ _ hvs).2 i p.2 hi2;rw[LA,hi1]at ha;simp only[LJ,YO]at ha;subst ha;exact VW hco 4 _ _ _ _ hb (hc hL1) hv
     ·refine(YF.todo ?_).plain hplain;rw[hmo];unfold oe at ho1;split at ho1
      ·rfl
      ·split at ho1
       ·simp only[YO,YR]at ho1;obtain⟨rfl,_⟩:=ho1;cases hpn
       ·cases ho1
     ·have:=YF.defers;rw[hdf]at this;exact .of_empty this.empty
     ·have hm:=YF.mode;rw[hmo]at hm;show MR μ1 (uR _) fr'.mode;generalize fr'.mode=z at hm ⊢;unfold oe at ho1;split at ho1
      ·split at ho1
       ·simp only[YO,YR]at ho1;obtain⟨rfl,_⟩:=ho1;simp only[uR]at hm ⊢;cases hm;exact .ret
       ·cases ho1
      ·split at ho1
       ·rename_i hv2;simp only[YO,YR]at ho1;obtain⟨rfl,rfl⟩:=ho1;simp only[uR]at hm ⊢;cases hm with
        |ZO Vw=>exact .ZO (VW hco 4 _ _ _ _ hv2 hL0 Vw)
       ·cases ho1
     ·have:=YF.round;rw[e6,KP]at this;show RoR μ1 c0.roundOf fr'.roundOf;rw[KP];generalize fr'.roundOf=x at this ⊢;cases x with
      |none=>trivial
      |some x=>cases this
    ·cases e
   ·cases e
 ·cases e
theorem FrR.lowZ{Z:Bot}{μ μ0:Mu}{fr:Frame}(hμ:∀b,b<a->μ0 b=μ b)(hs:∀t,P3 a 4 (XJ c.tmps t)=true\/XH (XJ c.tmps t))(hp:c.todo.all VS=true)(hd:c.defers=[])(hm:c.mode=.run)(hr:c.roundOf=none)(h:FrR Z μ c fr):FrR Z μ0 c fr:=by
 have hpans:c.mode.pans=false:=by rw[hm];rfl
 refine⟨h.fn,nY hμ hs h.tmps,fun _=>(h.todo hpans).plain hp, ?_, ?_,h.kind, ?_⟩
 ·have:=h.defers;rw[hd]at this ⊢;exact .of_empty this.empty
 ·have:=h.mode;rw[hm]at this ⊢;generalize fr.mode=ds at this ⊢;cases this;exact .run
 ·have:=h.round;rw[hr]at this ⊢;generalize fr.roundOf=x at this ⊢;cases x with
  |none=>trivial
  |some x=>cases this
theorem FinU.uj{out:OO}{live:List (Nat×Value)}{ws:Qr}{os:List Obj}(h:FinU P B c0 Hb a out live ws os Wf)(hub:Under Hb a)(hws:∀i o,Qu ws i=some o->i<a/\i∈Wf)(hWf:∀i∈Wf,i<a)(hs:∀t,P3 a 4 (XJ c0.tmps t)=true\/XH (XJ c0.tmps t))(hp:c0.todo.all VS=true)(hd:c0.defers=[])(hm:c0.mode=.run)(hr:c0.roundOf=none)(hob:∀i o,Qu Hb i=some o->va a o):
 UJ P B c0 Hb a out live ((ws++((a,XG)::XF (a+1) os))++Hb) (a+1+os.length) (Ln a) Wf:=by
 have hG:(ws++((a,XG)::XF (a+1) os))++Hb=Wo Hb a ws os:=by unfold Wo;simp
 rw[hG];obtain⟨d,td,h⟩:=h;refine⟨d,td,⟨by omega,fun i hi hw=> ?_,fun i hi=> ?_,fun i hi=>List.mem_range.2 (hWf i hi),fun i hi=>by have:=hWf i hi;omega⟩,fun S μ w fr cs Z QH hB hS hf XM hR=> ?_⟩
 ·rw[U2];cases hg:Qu ws i with
  |some o=>exact absurd (hws i o hg).2 hw
  |none=>simp only;rw[if_neg (by omega),if_neg (by omega)]
 ·rw[U2];cases hg:Qu ws i with
  |some o=>have:=(hws i o hg).1;omega
  |none=>simp only;rw[if_neg (by omega),if_neg (by omega)]
 ·have hSeq:S=fun i=>i<a:=funext fun i=>propext ⟨hS i,fun hi=>hR i (List.mem_range.2 hi) hi⟩
  subst hSeq;let μc:Mu:=fun i=>if i<a then μ i else none
  have hμc:∀b,b<a->μc b=μ b:=fun b hb=>by show(if b<a then μ b else none)=μ b;rw[if_pos hb]
  have hokc:Ok B.B (fun i=>i<a) μc (Qu Hb) w:=by
   refine⟨fun i o hi hg hl=> ?_,fun i o im hi hg hl QP=> ?_,fun i j oi oj x y hi hj KC hg1 hg2 l1 l2 m1 m2 r1 r2=> ?_,fun i o hi hg hr=> ?_,fun i j oi oj x y z hi hj hg1 hg2 r1 l2 m1 m2 Pp=> ?_⟩
   ·obtain⟨im,QP,We⟩:=QH.rel i o hi hg hl;exact⟨im,(hμc i hi).trans QP,OR.low hμc (hob i o hg) We⟩
   ·exact QH.low i o im hi hg hl ((hμc i hi).symm.trans QP)
   ·exact QH.inj i j oi oj x y hi hj KC hg1 hg2 l1 l2 ((hμc i hi).symm.trans m1) ((hμc j hj).symm.trans m2) r1 r2
   ·obtain⟨im,QP,hx⟩:=QH.Y6 i o hi hg hr;exact⟨im,(hμc i hi).trans QP,hx⟩
   ·exact QH.sep i j oi oj x y z hi hj hg1 hg2 r1 l2 ((hμc i hi).symm.trans m1) ((hμc j hj).symm.trans m2) Pp
  have hfc:∀i,a<=i->μc i=none:=fun i hi=>by show(if i<a then μ i else none)=none;rw[if_neg (by omega)]
  obtain⟨fr',w',μ',XO,YF,hro',hfn',Zm⟩:=h.sem Z μc w fr cs hokc hB hfc (XM.lowZ hμc hs hp hd hm hr);have V1:∀i,a+1+os.length<=i->μ' i=none:=fun i hi=>by rw[XO.ext i (by omega)];exact hfc i (by omega)
  let μ2:Mu:=fun i=>if i<a+1+os.length then μ' i else μ i
  have hμ2:∀i,i<a+1+os.length->μ2 i=μ' i:=fun i hi=>by show(if i<a+1+os.length then μ' i else μ i)=μ' i;rw[if_pos hi]
  have ext2:Ext μ' μ2:=fun k im hk=>by
   rcases LI k (a+1+os.length)with h1|h1
   ·rw[hμ2 k h1];exact hk
   ·rw[V1 k h1]at hk;cases hk
  have Slt:∀i,(i<a\/a<=i/\i<a+1+os.length)->i<a+1+os.length:=fun i h=>by omega
  refine⟨fr',w',μ2,⟨?_,by omega,fun i hi=> ?_,fun i hi hw=> ?_,XO.grow,fun b hb hx=>XO.frame b hb fun i hiW hi im QP=>hx i hiW hi im ((hμc i hi).symm.trans QP),fun i hiW hi=> ?_,fun i im o h1 h2 ho hl QP=> ?_,fun i im o hc ho hr QP b x hx=> ?_,XO.os,XO.tape,XO.output⟩,YF.mono ext2,hro',hfn',Zm⟩
  ·have ok:=XO.ok;refine⟨fun i o hi hg hl=> ?_,fun i o im hi hg hl QP=> ?_,fun i j oi oj x y hi hj KC hg1 hg2 l1 l2 m1 m2 r1 r2=> ?_,fun i o hi hg hr=> ?_,fun i j oi oj x y z hi hj hg1 hg2 r1 l2 m1 m2 Pp=> ?_⟩
   ·obtain⟨im,QP,We⟩:=ok.rel i o hi hg hl;exact⟨im,(hμ2 i (Slt i hi)).trans QP,We.keep ext2 rfl⟩
   ·exact ok.low i o im hi hg hl ((hμ2 i (Slt i hi)).symm.trans QP)
   ·exact ok.inj i j oi oj x y hi hj KC hg1 hg2 l1 l2 ((hμ2 i (Slt i hi)).symm.trans m1) ((hμ2 j (Slt j hj)).symm.trans m2) r1 r2
   ·obtain⟨im,QP,hx⟩:=ok.Y6 i o hi hg hr;exact⟨im,(hμ2 i (Slt i hi)).trans QP,hx⟩
   ·exact ok.sep i j oi oj x y z hi hj hg1 hg2 r1 l2 ((hμ2 i (Slt i hi)).symm.trans m1) ((hμ2 j (Slt j hj)).symm.trans m2) Pp
  ·rcases LI i a with h1|h1
   ·rw[hμ2 i (by omega),XO.ext i (by omega),hμc i h1]
   ·show(if i<a+1+os.length then μ' i else μ i)=μ i;rw[if_neg (by omega)]
  ·exact XO.keep i hi hw
  ·obtain⟨p,q,im,s,t⟩:=XO.wr i hiW hi;exact⟨p,q,im,(hμc i hi).symm.trans s,t⟩
  ·obtain⟨p,q⟩:=XO.fresh i im o h1 h2 ho hl ((hμ2 i h2).symm.trans QP);exact⟨p,q.imp id fun⟨k,x,y,⟨ZL,m,m2⟩,z⟩=>⟨k,x,y,⟨ZL,(hμc k y).symm.trans m,m2⟩,z⟩⟩
  ·have Xu:i<a+1+os.length:=by omega
   rcases XO.rf i im o hc ho hr ((hμ2 i Xu).symm.trans QP) b x hx with e|⟨k,Uh,ko,p,q,r,s,t,u⟩|⟨k,p,q,⟨ZL,m,m2⟩,z⟩
   ·exact .inl e
   ·exact .inr (.inl ⟨k,Uh,ko,p,q,r,s,(hμc k q).symm.trans t,u⟩)
   ·exact .inr (.inr ⟨k,p,q,⟨ZL,(hμc k q).symm.trans m,m2⟩,z⟩)
theorem FinU.ujB{fn:FuncId}{len:Nat}{l:List Value}{todo:List Item}{out:OO}{live:List (Nat×Value)}{ws:Qr}{os:List Obj}{ex:List Nat}(h:FinU P B ⟨fn,ofList len l,todo,[],.run,none⟩ Hb a out live ws os Wf)(e:FP a l todo none Hb ws Wf ex=true)(hx:DW a Hb ex):
 UJ P B ⟨fn,ofList len l,todo,[],.run,none⟩ Hb a out live ((ws++((a,XG)::XF (a+1) os))++Hb) (a+1+os.length) (Ln a) Wf:=by
 simp only[FP,YB]at e;obtain⟨e1,e2,e3,e4,e5,e6,e7,e8⟩:=e;have e8:=YL e8;refine h.uj (QF e4) (fun i o ho=> ?_) (fun i hi=>YL (List.all_eq_true.1 e7 i hi)) (fun t=> ?_) e2 rfl rfl rfl (fun i o ho=> ?_)
 ·have:=List.all_eq_true.1 e6 _ (aw ho);simp only[YB]at this;exact⟨YL this.1,by simpa using this.2⟩
 ·simp only[XJ,ofList];rw[ao _ _ _ _ (by omega)];split
  ·rename_i ht;have ht:t<l.length:=by omega
   refine .inl (List.all_eq_true.1 e1 _ ?_);rw[Nat.sub_zero,Lu,L9 ht];exact List.getElem_mem ht
  ·rw[Tri.get_lf];exact .inr (JC (by simp[Go.undef,af]))
 ·have:=List.all_eq_true.1 e5 _ (aw ho);simp only[Bool.or_eq_true]at this;rcases this with h1|h1
  ·exact lJ hx h1 ho
  ·exact uo h1
theorem GoE.endsTx{c0 c:CF}{H:Qr}{n:Nat}{s:Option ST}(hok0:G7 P B 1 c H n s)(h:GoE P B c0 Z9 1 c H n []){fz:List Fz}{out:Value}{L:List Prop}
 (e:X2 s fz=some (out,L)) (hL:QB L):EndsT P B c0 out:=by
 unfold X2 at e;split at e
 ·rename_i v H' n' W' L';cases hW:W'.isEmpty with
  |false=>rw[hW]at e;cases e
  |true=>
   rw[hW]at e;simp only[cond_true]at e;split at e
   ·rename_i t R2 L2 Zm;simp only[YO,YR]at e;obtain⟨rfl,rfl⟩:=e;obtain⟨hL2,hL1⟩:=Xl hL;have hWe:W'=[]:=by simpa using hW
    subst hWe;obtain⟨R,W2,hfj,hiff⟩:=hok0 _ _ _ _ _ rfl hL1;intro μ w fr cs im QH hB hf QP XM;obtain⟨Zn,w',μ',hp,ho,he⟩:=h.fj hfj μ w fr cs QH hB hf XM;have hnoW:∀i,i∈[]++W2->¬i<1:=fun i hi Xu=>by
     have:=(hiff i Xu).2 (by simpa using hi);simp at this
    have S4:Below w.heap.size w w':=⟨hp.os,hp.tape,hp.output,hp.grow,fun b hb=>hp.frame b hb fun i hi hl=>absurd hl (hnoW i hi)⟩
    cases ho with
    |ret Vw=>
     rename_i v';refine⟨v',w',S4, ?_,he⟩;have hu':Under H' n':=h.under.shape hfj.shape;have hle:=hp.le
     -- of what is looked at, all is there
     have VZ:∀r,(Qu H' r).isSome->r<1\/1<=r/\r<n':=fun r hr=>by
      have:r<n':=by
       cases hg:Qu H' r with
       |none=>rw[hg]at hr;cases hr
       |some o=>exact hu'.lt hg
      omega
     have hok2:Ok B.B (fun _=>True) μ' (Qu H') w':=
      ⟨fun i o _ ho=>hp.ok.rel i o (VZ i (by rw[ho];rfl)) ho,fun i o im _ ho=>hp.ok.low i o im (VZ i (by rw[ho];rfl)) ho,
       fun i j oi oj a b _ _ Pq Wt Ws=>hp.ok.inj i j oi oj a b (VZ i (by rw[Wt];rfl)) (VZ j (by rw[Ws];rfl)) Pq Wt Ws,
       fun i o _ ho=>hp.ok.Y6 i o (VZ i (by rw[ho];rfl)) ho,fun i j oi oj a b x _ _ Wt Ws=>hp.ok.sep i j oi oj a b x (VZ i (by rw[Wt];rfl)) (VZ j (by rw[Ws];rfl)) Wt Ws⟩
     refine(K0 hok2 3 v v' t R2 L2 Zm hL2 (fun _ _=>trivial) Vw).mono fun b x hx=> ?_
     have hw:=WS hx;unfold KF at hx;split at hx
     ·rename_i hc;obtain⟨i,_,o,im2,hio,WJ,U7⟩:=hc;have hi:=VZ i (by rw[hio];rfl);have old0:∀i,i<1->i=0:=fun i h=>by omega
      have keep0:Qu H' 0=some XG:=by
       rw[hp.keep 0 (by omega) fun e=>hnoW 0 e (by omega)];rfl
      have mu0:μ' 0=some im:=by rw[hp.ext 0 (by omega)];exact QP
      have below:b<w.heap.size->im.fm b=some x->P9 im.fm w w' b=some x:=fun h1 h2=>by unfold P9;rw[if_pos h1];exact h2
      have above:w.heap.size<=b->P9 im.fm w w' b=some x:=fun h1=>by unfold P9;rw[if_neg (by omega)];exact hw
      have from0:im.fm b=some x->P9 im.fm w w' b=some x:=fun h=>by
       refine below ?_ h;exact Y8 QH (i:=0) (o:=XG) (show 0<1 by omega) rfl trivial QP h
      rcases U7 with ⟨WX,KC⟩|⟨hl,hb⟩
      ·cases hfx:im2.fm b with
       |none=>exact absurd hfx KC
       |some y=>
        obtain⟨im3,him3,hf3⟩:=hp.ok.Y6 i o hi hio WX;rw[WJ]at him3;cases him3;have:=hf3 b y hfx;rw[hw]at this;cases this;rcases hi with hi|hi
        ·rw[old0 i hi,mu0]at WJ;cases WJ;exact from0 hfx
        ·rcases hp.rf i im2 o (.inl hi) hio WX WJ b x hfx with c|⟨k,Uh,ko,hk,_,hko,_,S3,hkb⟩|⟨k,hk,hkn,_⟩
         ·exact above c
         ·rw[old0 k hk,QP]at S3;cases S3;exact from0 hkb
         ·exact absurd hkn (hnoW k hk)
      ·rcases hi with hi|hi
       ·rw[old0 i hi,keep0]at hio;cases hio;exact hl.elim
       ·rcases(hp.fresh i im2 o hi.1 hi.2 hio hl WJ).2 with c|⟨k,hk,hkn,_⟩
        ·exact above (by omega)
        ·exact absurd hkn (hnoW k hk)
     ·cases hx
   ·cases e
 ·cases e
theorem GoE.endsD{c0 c:CF}{H:Qr}{n:Nat}(hF:∀g,F g=true->QE P g=true)(hJ:∀w,B.has w->J w)(Zc:P.follows .mixedOrders=true)(h:GoE P B c0 Z9 1 c H n []){k:Nat}{o:OO}{live:List (Nat×Value)}{UC:Qr}{n':Nat}{Wk:List Nat}{res:Value}{resR:List Nat}{fz:List Fz}{out:Value}{L:List Prop}
 (e:X2 (rh P F J B k 1 c H n o live UC n' Wk res resR) fz=some (out,L)) (hL:QB L):EndsT P B c0 out:=GoE.endsTx (re hF hJ Zc h.under) h e hL
end
def Vd(n:Int):Nat:=2 ^ n.toNat
def a8(a n:Int):Nat:=a.toNat >>> n.toNat
def qC(a b:Int):Nat:=a.toNat &&& b.toNat
theorem Sl{n:Int}(h1:n<=62):Vd n<=4611686018427387904:=by unfold Vd;exact Nat.le_trans (Nat.pow_le_pow_right (by decide) (show n.toNat<=62 by omega)) (by decide)
theorem Ei{a n:Int}:a8 a n<=a.toNat:=by unfold a8;rw[Nat.shiftRight_eq_div_pow];exact Nat.div_le_self _ _
theorem DM{n:Int}(h1:n<=62):(2:Nat) ^ n.toNat<=2 ^ 62:=Nat.pow_le_pow_right (by decide) (by omega)
theorem DN{P:Program}{t:TypeId}{yk:IntKind}{n:Int}(h0:0<=n)(h1:n<=62):mE P .shl t (.int .i64 1) (.int yk n) (.int .i64 ((Vd n:Nat):Int)):=fun x y w=>by
 unfold Vd;have e:min n.toNat (IntKind.bits IntKind.i64)=n.toNat:=Nat.min_eq_left (by show n.toNat<=64;omega);have hp:=DM h1;have e2:(2:Int) ^ n.toNat=((2 ^ n.toNat:Nat):Int):=by rw[Int.natCast_pow];rfl
 have e3:IntKind.wrap IntKind.i64 (1*2 ^ min n.toNat (IntKind.bits IntKind.i64))=((2 ^ n.toNat:Nat):Int):=by
  rw[e,Int.one_mul,e2];generalize 2 ^ n.toNat=z at *;exact JU (by omega) (by omega)
 have hn:¬n<0:=by omega
 simp only[eqGuard,binOp,Op.shift,hn,if_false,e3];simp
theorem FY{P:Program}{t:TypeId}{yk:IntKind}{a n:Int}(ha:0<=a)(h0:0<=n)(h1:n<=62):mE P .shr t (.int .i64 a) (.int yk n) (.int .i64 ((a8 a n:Nat):Int)):=fun x y w=>by
 unfold a8;obtain⟨b,rfl⟩:∃b:Nat,a=b:=⟨a.toNat,by omega⟩
 have e:min n.toNat (IntKind.bits IntKind.i64)=n.toNat:=Nat.min_eq_left (by show n.toNat<=64;omega);have e3:Int.fdiv (b:Int) (2 ^ min n.toNat (IntKind.bits IntKind.i64))=((((b:Int)).toNat >>> n.toNat:Nat):Int):=by
  rw[e,Int.fdiv_eq_ediv_of_nonneg _ (Int.le_of_lt (Int.pow_pos (by decide))),Int.toNat_natCast,Nat.shiftRight_eq_div_pow,Int.natCast_ediv,Int.natCast_pow];rfl
 have hn:¬n<0:=by omega
 simp only[eqGuard,binOp,Op.shift,hn,if_false,e3];simp
theorem nW{a:Int}(ha:0<=a):BitVec.ofInt (IntKind.bits IntKind.i64) a=BitVec.ofNat 64 a.toNat:=by
 obtain⟨b,rfl⟩:∃b:Nat,a=b:=⟨a.toNat,by omega⟩
 rw[Int.toNat_natCast];exact BitVec.ofInt_natCast 64 b
theorem FZ{P:Program}{t:TypeId}{a b:Int}(ha:0<=a)(ha2:a<=9223372036854775807)(hb:0<=b)(hb2:b<=9223372036854775807):mE P .and t (.int .i64 a) (.int .i64 b) (.int .i64 ((qC a b:Nat):Int)):=fun x y w=>by
 unfold qC;have e:IntKind.wrap IntKind.i64 ((BitVec.toNat (BitVec.ofInt (IntKind.bits IntKind.i64) a &&& BitVec.ofInt (IntKind.bits IntKind.i64) b):Nat):Int)=((a.toNat &&& b.toNat:Nat):Int):=by
  rw[nW ha,nW hb];have e3:BitVec.toNat (BitVec.ofNat 64 a.toNat &&& BitVec.ofNat 64 b.toNat)=a.toNat &&& b.toNat:=by
   rw[BitVec.toNat_and,BitVec.toNat_ofNat,BitVec.toNat_ofNat,Nat.mod_eq_of_lt (a:=a.toNat) (by omega),Nat.mod_eq_of_lt (a:=b.toNat) (by omega)]
  show IntKind.wrap IntKind.i64 ((BitVec.toNat (BitVec.ofNat 64 a.toNat &&& BitVec.ofNat 64 b.toNat):Nat):Int)=_;rw[e3];have:=Nat.and_le_left (n:=a.toNat) (m:=b.toNat);exact JU (by omega) (by omega)
 simp only[eqGuard,binOp,Op.intBits,ne_eq,not_true_eq_false,if_false,e];simp
def QK{α:Type}(m:Nat)(e:α->List Value)(x:α):List Value:=(e x).map (Wm m)
def uZ{α:Type}(e:α->List Value):Prop:=∀x,∀v∈e x,simple v=true\/Vg v=true
section
variable {α:Type} {e:α->List Value} {m r j z:Nat} {rs:List (Nat×Nat)} {JR:List (Nat×Array Value)} {ow:List (Nat×Nat)} {xs:List α} {rsT:List Nat}
theorem Xv(h:∀x,(e x).all (fun v=>simple v || Vg v)=true):uZ e:=fun x v hv=>by
 have:=List.all_eq_true.1 (h x) v hv;simpa using this
theorem Ph(v:Value)(h:simple v=true\/Vg v=true):(simple v=true/\Wm m v=v)\/(Vg v=true/\Wm m v=Q4 m v):=by
 unfold Wm;cases hs:simple v with
 |true=>exact .inl ⟨rfl,rfl⟩
 |false=>rw[hs]at h;exact .inr ⟨by simpa using h,rfl⟩
theorem xw(he:uZ e)(hm:(r,j)∈rs)(x:α):AllX m rs JR ow (QK r e x) (QK j e x):=by
 have key:∀l:List Value,(∀v∈l,simple v=true\/Vg v=true)->AllX m rs JR ow (l.map (Wm r)) (l.map (Wm j)):=by
  intro l;induction l with
  |nil=>intro _;trivial
  |cons v l ih=>
   intro h;refine⟨?_,ih fun u hu=>h u (Lw _ hu)⟩;show fT m rs JR ow (Wm r v) (Wm j v);rcases Ph (m:=r) v (h v (by simp))with ⟨a,b⟩|⟨a,b⟩ <;> rcases Ph (m:=j) v (h v (by simp))with ⟨c,d⟩|⟨c,d⟩
   ·rw[b,d];exact .simple a
   ·rw[b];unfold Wm;rw[a];exact .simple a
   ·rw[d];unfold Wm;rw[c];exact .simple c
   ·rw[b,d];exact .Y6 hm a
 exact key _ (he x)
theorem xd{e1 e2:α->List Value}(h:∀x,AllX m rs JR ow (e1 x) (e2 x)):X3 m rs JR ow (Qf e1 xs) (Qf e2 xs):=by
 unfold X3 Qf;simp only;induction xs with
 |nil=>trivial
 |cons x xs ih=>simp only[L5];exact(h x).append ih
theorem QY(he:uZ e)(hm:(r,j)∈rs):X3 m rs JR ow (Qf (QK r e) xs) (Qf (QK j e) xs):=xd (xw he hm)
theorem Kv{cs:Array Value}{vs:List Value}{x:α}(h:X3 m rs JR ow cs (Qf e xs))(hx:AllX m rs JR ow vs (e x)):X3 m rs JR ow (cs++vs.toArray) (Qf e (xs++[x])):=by
 unfold X3 at h ⊢;rw[<-Zf];simp only[Array.toList_append];exact AllX.append h hx
theorem KW{vs:List Value}{x:α}(hx:AllX m rs JR ow vs (e x)):X3 m rs JR ow vs.toArray (Qf e [x]):=by
 unfold X3 Qf;simpa using hx
theorem xe{vs:List Value}{x:α}(h:AllX m rs JR ow vs (e x)):∀k:Nat,X3 m rs JR ow (Qf (fun(_:α)=>vs) (Lm k x)) (Qf e (Lm k x))
 |0=>trivial
 |k+1=>by
  unfold X3 Qf;simp only[List.replicate_succ,L5];exact h.append (xe h k)
theorem U5(he:uZ e)(hm:m∈rsT):Zk rsT (Qf (QK m e) xs) (Qf e xs):=by
 have key:∀l:List Value,(∀v∈l,simple v=true\/Vg v=true)->∀(i:Nat) v v1,(l.map (Wm m))[i]? =some v->l[i]? =some v1->mC rsT v v1:=by
  intro l h i v v1 h1 h2;rw[LA,h2]at h1;simp only[LJ,YO]at h1;subst h1;rcases Ph (m:=m) v1 (h v1 (Lp h2))with ⟨a,b⟩|⟨a,b⟩
  ·exact .inl ⟨by rw[b];exact a,b.symm⟩
  ·exact .inr ⟨m,hm,b,a⟩
 have e0:Qf (QK m e) xs=((xs.flatMap e).map (Wm m)).toArray:=by
  unfold Qf QK;rw[List.map_flatMap]
 refine⟨by rw[e0];simp[Qf],fun i v v1 h1 h2=> ?_⟩;rw[e0]at h1;refine key (xs.flatMap e) (fun v hv=> ?_) i v v1 (by simpa using h1) (by simpa[Qf]using h2);obtain⟨x,_,hx⟩:=List.mem_flatMap.1 hv;exact he x v hx
theorem Hv{a:Nat}{t:TypeId}{fl:Nat×Nat}(he:uZ e)(hm:m<a):va a (.cells (Qf (QK m e) xs) t fl):=fun i v hv=>by
 have:v∈Qf (QK m e) xs:=LM hv;simp only[Qf,List.mem_toArray,List.mem_flatMap,QK,List.mem_map]at this;obtain⟨x,_,u,hu,rfl⟩:=this;rcases Ph (m:=m) u (he x u hu)with ⟨h1,h2⟩|⟨h1,h2⟩
 ·rw[h2];exact .inl (iB h1)
 ·rw[h2];refine .inl ?_;show Q7 a (Q4 m u)=true;have:Ls m a=true:=LH hm;unfold Q7;rw[show simple (Q4 m u)=false from rfl,Bool.false_or];exact this
end
def Kk(zs:List Value)(_:Unit):List Value:=zs
theorem zS{zc:Array Value}{z n:Nat}(hz:zc.size=z)(h0:0<z):madeCells zc (n*z)=Qf (Kk zc.toList) (Lm n ()):=by
 have hl:∀x,(Kk zc.toList x).length=z:=fun x=>by simp[Kk,hz]
 refine Array.ext_getElem? fun i=> ?_
 by_cases hi:i<n*z
 ·have hk:i / z<n:=(Nat.div_lt_iff_lt_mul h0).2 hi;have hj:i % z<z:=Nat.mod_lt _ h0;have e:i / z*z+i % z=i:=by rw[Nat.mul_comm];exact Nat.div_add_mod i z
  have:=bE (e:=Kk zc.toList) (xs:=Lm n ()) hl (k:=i / z) (j:=i % z) (by simpa using hk) hj;rw[e]at this;rw[this];have hj':i % z<zc.size:=by rw[hz];exact hj
  simp only[madeCells,Array.getElem?_map,Array.getElem?_range,hi,if_true,LJ,hz,Kk];simp[hj']
 ·have a:(madeCells zc (n*z)).size=n*z:=size_madeCells _ _;have b:(Qf (Kk zc.toList) (Lm n ())).size=n*z:=by rw[X0 hl];simp
  rw[L7 (by omega),L7 (by omega)]
def Io(P:Program)(t e z bytes:Nat)(zs:List Value):Bool:=match JO P t with
 |some (.slice e')=>Lk e' e && match inf P e with
  |some i=>match i.zero with
   |some zv=>Lk i.size z && (Lk i.bytes bytes && (Ls 0 z && (Lk zv.cells.size z && (D3 (Ah 2) zv.cells.toList zs && zs.all simple))))
   |none=>false
  |none=>false
 |_=>false
theorem mz{P:Program}{t e z bytes:Nat}{zs:List Value}(h:Io P t e z bytes zs=true){l:Int}{k k':IntKind}(h0:0<=l)(hb:bytes*l<=281474976710656)(hn:l<=9223372036854775807):
 SG P t (.int k l) (.int k' l)=some (e,Qf (Kk zs) (Lm l.toNat ()),l.toNat,z):=by
 unfold Io at h;split at h
 ·rename_i e' hu;split at h
  ·rename_i i hi;split at h
   ·rename_i zv hz;simp only[YB]at h;obtain⟨h1,h2,h3,h4,h5,h6,h7⟩:=h;have h1:=YE h1;have h2:=YE h2;have h3:=YE h3;have h4:0<z:=YL h4;have h5:=YE h5;have h6:=Kt (U4 2) _ _ h6;subst h1 h2 h3;have e1:=zS (n:=l.toNat) h5 h4;rw[h6]at e1;have VZ:(madeCells zv.cells (l.toNat*i.size)).all simple=true:=by
     rw[e1,Array.all_eq_true'];intro v hv;simp only[Qf,List.mem_toArray,List.mem_flatMap,Kk]at hv;obtain⟨_,_,hv⟩:=hv;exact List.all_eq_true.1 h7 v hv
    simp only[SG,hu,hi,hz,decide_eq_true h0,decide_eq_true hb,decide_eq_true hn,decide_eq_true (LW l),VZ,Bool.and_self,cond_true];rw[e1]
   ·simp at h
  ·simp at h
 ·cases h
section
variable {α:Type} {e:α->List Value} {m z:Nat} {rs:List (Nat×Nat)} {JR:List (Nat×Array Value)} {ow:List (Nat×Nat)} {xs:List α}
theorem Ku{zs:List Value}{x:α}(h:AllX m rs JR ow zs (e x)):∀k:Nat,X3 m rs JR ow (Qf (Kk zs) (Lm k ())) (Qf e (Lm k x))
 |0=>trivial
 |k+1=>by
  unfold X3 Qf;simp only[List.replicate_succ,L5];exact AllX.append h (Ku h k)
theorem WV(h:∀x,(e x).length=z){k z':Nat}(hk:k<xs.length){x:α}{cs:Array Value}(hc:cs=(e x).toArray)(hz:z'=z):0+k*z+z'<=(Qf e xs).size/\splice (Qf e xs) (0+k*z) cs=Qf e (xs.set k x):=by
 subst hz;rw[LF];exact El h hk hc
end
end Go.CE

noncomputable abbrev Go.CE.YP:Go.Program:=Go.Proofs.Try.prog
namespace Go.Proofs.Ytncjjangllkokaa
open Go Go.CE Go.RowKit
abbrev pA(b o:Nat):Value:=.pointer (some ⟨b,o,none⟩)
def J0:World->Prop:=fun _=>True
theorem ZF:∀w w':World,(∀b,b<w.heap.size->w'.heap[b]? =w.heap[b]?)->J0 w->J0 w':=fun _ _ _ _=>trivial
theorem Qh:YP.follows .mixedOrders=true:=by decide+kernel
theorem okF:∀g,QE YP g=true->QE YP g=true:=fun _ h=>h
end Go.Proofs.Ytncjjangllkokaa

namespace Go.CE
open Go Go.RowKit

section
variable {P:Program} {F:FuncId->Bool} {T:Tm} {o:Oper} {H:Qr} {n:Nat}
end
section
variable {P:Program} {F:FuncId->Bool} {T:Tm} {o:Oper} {H:Qr} {n:Nat}
theorem cY{c:Call}{s x:Operand}{sv:Value}{t e:TypeId}{b off m s2 z by':Nat}{cs cs':Array Value}{te:TypeId}{f:Nat×Nat}(ho:o.op=.call c)(hc:c.callee=.builtin .append)(ha:c.args.toList=[s,x])(hat:c.argTypes.toList=[t,t])
 (hs:Zp T s=some sv) (hbn:KO sv=true) (hx:Zp T x=some (.slice (some ⟨b,off,none⟩) m s2)) (hu:JO P t=some (.slice e)) (hi:(inf P e).map (fun i=>(i.zero.map (·.cells.size),i.size,i.bytes))=some (some (z+1),z+1,by')) (hb:Qu H b=some (.cells cs te f)) (hn:b<n)
 (hq:0<m/\m<=maxLen/\m*by'<=140737488355328/\off+m*(z+1)<=cs.size/\ones (cs.extract off (off+m*(z+1)))=true/\cs.extract off (off+m*(z+1))=cs'):
 bd P F X5 (fun _ _ _=>none) T o H n=some ⟨.ret (.slice (some ⟨n,0,none⟩) m (z+1)),(n,.cells cs' e (0,0))::H,n+1,[b],[]⟩:=by
 obtain⟨h1,h2,h3,h4,h5,rfl⟩:=hq;cases hinf:inf P e with
 |none=>rw[hinf]at hi;cases hi
 |some i=>
  rw[hinf]at hi;simp only[LJ,YO,YR]at hi;obtain⟨i1,i2,i3⟩:=hi;cases hz:i.zero with
  |none=>rw[hz]at i1;cases i1
  |some zv=>
   rw[hz]at i1;simp only[LJ,YO]at i1;have eb:bare sv=.slice none 0 0:=by
    unfold KO at hbn;split at hbn
    ·rfl
    ·rfl
    ·cases hbn
   have e4:uX P t t H n sv (.slice (some ⟨b,off,none⟩) m s2)=some ⟨.val (.slice (some ⟨n,0,none⟩) m (z+1)),(n,.cells (cs.extract off (off+m*(z+1))) e (0,0))::H,n+1,[b],[]⟩:=by
    have q1:Lk zv.cells.size (z+1)=true:=by rw[i1];simp
    have q2:LO m maxLen=true:=LH h2;have q3:LO (m*i.bytes) 140737488355328=true:=LH (by rw[i3];exact h3);have q4:Ls 0 m=true:=LH h1;have q5:LO (off+m*(z+1)) cs.size=true:=LH h4;simp only[uX,eb,show Lk t t=true by simp,cond_true,Uc,hu,hinf,hz,i2,P7,jV,hb,q5,h5,q1,q2,q3,q4,LF,Bool.and_self,SF,Option.toList,Array.empty_append]
   have e5:RD P F (Zp T) o H n=some ⟨.val (.slice (some ⟨n,0,none⟩) m (z+1)),(n,.cells (cs.extract off (off+m*(z+1))) e (0,0))::H,n+1,[b],[]⟩:=by
    unfold RD qM;simp only[ho,hc,ha,hat,hs,hx,e4,List.all_cons,List.all_nil,show Ls b n=true from LH hn,Bool.and_self,cond_true]
   unfold bd;simp only[ho,e5]
end
theorem y3{α:Type}{e:α->List Value}(h:∀x,(e x).all (·.oneCell')=true)(zs:List α)(i j:Nat):ones ((Qf e zs).extract i j)=true:=by
 unfold ones;rw[Array.all_eq_true'];intro v hv;have Wn:v∈(Qf e zs).toList:=by
  have:=Array.mem_def.1 hv;rw[Array.toList_extract,List.extract_eq_take_drop]at this;exact List.mem_of_mem_drop (List.mem_of_mem_take this)
 simp only[Qf,List.mem_flatMap]at Wn;obtain⟨x,_,hx⟩:=Wn;exact List.all_eq_true.1 (h x) v hx
theorem vw{v:Value}(h:simple v=true):v.oneCell'=true:=by
 cases v <;> first|rfl|(cases h;done)
theorem qS{α:Type}{e:α->List Value}{r:Nat}(hs:∀x,(e x).all simple=true)(xs:List α):(Qf e xs).map (Wm r)=Qf e xs/\((Qf e xs).all fun v=>simple v || Vg v)=true/\ones (Qf e xs)=true:=by
 have h:∀v∈Qf e xs,simple v=true:=Q1 fun x=>List.all_eq_true.1 (hs x)
 refine⟨?_,Array.all_eq_true'.2 fun v hv=>by rw[h v hv];rfl,Array.all_eq_true'.2 fun v hv=>vw (h v hv)⟩;apply Array.ext (by simp);intro i h1 h2;have hv:=h _ (Array.getElem_mem h2);simp[Wm,hv]
theorem bF{α:Type}{e:α->List Value}{z:Nat}(hz:∀x,(e x).length=z)(hs:∀x,(e x).all (·.oneCell')=true){xs:List α}{m:Nat}(hm:m=xs.length):0+m*z<=(Qf e xs).size/\ones ((Qf e xs).extract 0 (0+m*z))=true/\(Qf e xs).extract 0 (0+m*z)=Qf e xs:=by
 subst hm;refine⟨by rw[X0 hz];omega,y3 hs _ _ _, ?_⟩;rw[LF,<-X0 (e:=e) (xs:=xs) hz];simp
theorem XV{α:Type}{e:α->List Value}{xs:List α}{x:α}{cs:Array Value}(h:cs=(e x).toArray):Qf e xs++cs=Qf e (xs++[x]):=by
 rw[h];exact Zf
def Qm(fs:List Int)(k:Nat):Int:=fs.getD k 0
def vp(k:Nat)(x:Int):Nat->List Int->List Int
 |_,[]=>[]
 |j,f::l=>(if k=j then x else f)::vp k x (j+1) l
theorem bz(k:Nat)(x:Int):∀(l:List Int) (j:Nat),(vp k x j l).length=l.length
 |[],_=>rfl
 |_::l,j=>by simp[vp,bz k x l (j+1)]
theorem qN(k:Nat)(x:Int):∀(l:List Int) (j i:Nat),i<l.length->(vp k x j l)[i]? =some (if k=j+i then x else l.getD i 0)
 |[],_,_,h=>by simp at h
 |f::l,j,0,_=>by simp[vp]
 |f::l,j,i+1,h=>by
  have:=qN k x l (j+1) i (by simpa using h);simp only[vp,List.getElem?_cons_succ,this,List.getD_cons_succ];rw[show j+1+i=j+(i+1)by omega]
theorem xu{cs:Array Value}{fs:List Int}{off i:Nat}(h:(cs.toList.drop off).take fs.length=fs.map (Value.int .i64))(hi:i<fs.length):cs[off+i]? =some (.int .i64 (fs.getD i 0)):=by
 have e:((cs.toList.drop off).take fs.length)[i]? =(fs.map (Value.int .i64))[i]? :=by rw[h]
 rw[L8 hi,List.getElem?_drop,LA,Lq]at e;rw[e];simp[Lu,hi]
theorem SD{cs:Array Value}{fs:List Int}{off k:Nat}(h:(cs.toList.drop off).take fs.length=fs.map (Value.int .i64))(hk:k<fs.length):cs[off+k*1]? =some (.int .i64 (Qm fs k)):=by
 rw[Nat.mul_one];exact xu h hk
theorem DR{cs:Array Value}{fs:List Int}{off k:Nat}(h:(cs.toList.drop off).take fs.length=fs.map (Value.int .i64))(hk:k<fs.length):cs.extract (off+k*1) (off+k*1+1)=#[.int .i64 (Qm fs k)]:=by
 have e:=SD h hk;have hs:=(Array.getElem?_eq_some_iff.1 e).1;refine Array.ext_getElem? fun i=> ?_
 rw[LZ];by_cases hi:i=0
 ·subst hi;rw[if_pos (by omega),Nat.add_zero,e];rfl
 ·rw[if_neg (by omega),L7 (by simp;omega)]
theorem HP{l:List Int}{k:Nat}(h:l.length<=4):Qm [l.getD 0 0,l.getD 1 0,l.getD 2 0,l.getD 3 0] k=l.getD k 0:=by
 match k with
 |0=>rfl
 |1=>rfl
 |2=>rfl
 |3=>rfl
 |k+4=>
  have e:l.getD (k+4) 0=0:=by rw[Lu,LL (by omega)];rfl
  rw[e];rfl
theorem m8{cs cs' vc:Array Value}{fs:List Int}{off k:Nat}{x:Int}(hv:vc=#[.int .i64 x])(h:(cs.toList.drop off).take fs.length=fs.map (Value.int .i64))(hk:k<fs.length)(hc:cs'.toList=cs.toList.take off++(vp k x 0 fs).map (Value.int .i64)++cs.toList.drop (off+fs.length)):
 off+k*1+1<=cs.size/\splice cs (off+k*1) vc=cs':=by
 subst hv;have Wx:off+fs.length<=cs.size:=by
  have e:=xu h (i:=fs.length-1) (by omega);have:=(Array.getElem?_eq_some_iff.1 e).1;omega
 rw[Nat.mul_one];refine⟨by omega,Array.ext_getElem? fun i=> ?_⟩;rw[Jm (by simp;omega),<-Lq (xs:=cs'),hc];have l1:(cs.toList.take off).length=off:=by simp;omega
 by_cases h1:i<off
 ·rw[if_neg (by simp;omega),List.append_assoc,LG (by omega),L8 h1,Lq]
 ·rw[List.append_assoc,Lt (by omega),l1];by_cases h2:i-off<fs.length
  ·rw[LG (by simp[bz];omega),LA,qN k x fs 0 (i-off) h2];by_cases h3:i=off+k
   ·subst h3;rw[if_pos (by simp),if_pos (by omega)];simp
   ·rw[if_neg (by simp;omega),if_neg (by omega)];have e:=xu h h2;rw[show off+(i-off)=i by omega]at e;rw[e];rfl
  ·rw[if_neg (by simp;omega),Lt (by simp[bz];omega),List.getElem?_drop,List.length_map,bz,Lq];congr 1;omega
theorem uO{xs:List Int}{cs cs':Array Value}{off k r m:Nat}{e:Int->List Value}(he:∀x,e x=[.int .i64 x])(hm:m=xs.length)(h0:0<m)(hk:m<=k)(h:(cs.toList.drop off).take k=Lm k (Value.int .i64 0))(hz:off+k<=cs.size)
 (hc:cs'.toList=cs.toList.take off++((Ln k).map fun j=>Value.int .i64 (xs.getD j Le))++cs.toList.drop (off+k)):
 0<m/\off+LU m k*1<=cs.size/\LU m k*1<=(Qf e xs).size/\((Qf e xs).all fun v=>simple v || Vg v)=true/\ones (((Qf e xs).extract 0 (LU m k*1)).map (Wm r))=true/\splice cs off (((Qf e xs).extract 0 (LU m k*1)).map (Wm r))=cs':=by
 subst hm;have hmin:LU xs.length k*1=xs.length:=by rw[Nat.mul_one];exact Nat.min_eq_left hk
 have hrow:Qf e xs=(xs.map (Value.int .i64)).toArray:=by
  have:xs.flatMap e=xs.map (Value.int .i64):=by
   have:e=fun x=>[Value.int .i64 x]:=funext he
   rw[this];have h9:∀l:List Int,l.flatMap (fun x=>[Value.int .i64 x])=l.map (Value.int .i64):=fun l=>by
    induction l with
    |nil=>rfl
    |cons x l ih=>rw[L5,ih];rfl
   exact h9 xs
  unfold Qf;rw[this]
 have Wx:(Qf e xs).size=xs.length:=by rw[hrow];simp
 have hext:((Qf e xs).extract 0 (LU xs.length k*1)).map (Wm r)=(xs.map (Value.int .i64)).toArray:=by
  rw[hmin,hrow];apply Array.ext_getElem?;intro i;rw[Array.getElem?_map,LZ];by_cases hi:i<xs.length
  ·rw[if_pos (by simp;omega)];simp[hi,Wm,simple]
  ·rw[if_neg (by simp;omega)];simp[hi]
 rw[hext,hmin,Wx];refine⟨h0,by omega,LC _, ?_, ?_,Array.ext_getElem? fun i=> ?_⟩
 ·rw[hrow];simp[simple]
 ·simp[ones,Value.oneCell']
 ·rw[Jm (by simp;omega),<-Lq (xs:=cs'),hc];have l1:(cs.toList.take off).length=off:=by simp;omega
  by_cases h1:i<off
  ·rw[if_neg (by simp;omega),List.append_assoc,LG (by omega),L8 h1,Lq]
  ·rw[List.append_assoc,Lt (by omega),l1];by_cases h2:i-off<k
   ·rw[LG (by simp;omega),LA,List.getElem?_range h2];by_cases h3:i-off<xs.length
    ·rw[if_pos (by simp;omega)];simp[h3,Lu]
    ·rw[if_neg (by simp;omega)];have e2:((cs.toList.drop off).take k)[i-off]? =(Lm k (Value.int .i64 0))[i-off]? :=by rw[h]
     rw[L8 h2,List.getElem?_drop,show off+(i-off)=i by omega,Lq,List.getElem?_replicate,if_pos h2]at e2;rw[e2];simp[Lu,LL (show xs.length<=i-off by omega)]
   ·rw[if_neg (by simp;omega),Lt (by simp;omega),List.getElem?_drop,Lq];congr 1;simp;omega
theorem FinK.wri{P:Program}{J:World->Prop}{g:FuncId}{args:Array Value}{c0:CF}{Hb ws:Qr}{a:Nat}{Wf:List Nat}{bs outs news:List Obj}{out:OO}(hc:Wz P g args=some c0)(e1:Hb=fU bs)(e2:a=bs.length+1)(e3:ws=XF 1 outs)(e4:Wf=LD 1 bs.length)
 (h:∀B:Lo,(∀w,B.has w->J w)->FinK P B c0 Hb a out ws news Wf):WriC P J g args bs out outs news:=fun B hJ μ w args' cs QH hB hf hv=>by
 subst e1 e2 e3 e4;obtain⟨Zn,w',μ',hp,ho,_,he⟩:=h B hJ μ w _ cs QH hB hf (Uv hc hv);rw[show bs.length+1+1+news.length=bs.length+2+news.length by omega]at hp;exact⟨Zn,w',μ',hp,ho,he⟩
theorem Wv{α:Type}{e:α->List Value}{xs:List α}{z:Nat}[Inhabited α](h:∀x,(e x).length=z){k j:Nat}{v:Value}(hk:k<xs.length)(hv:(e (xs.getD k Le))[j]? =some v):(Qf e xs)[0+k*z+j]? =some v:=by
 rw[LF];exact Em h hk hv
end Go.CE

namespace Go.Proofs.Ytncjjangllkokaa
open Go Go.CE Go.RowKit
noncomputable section
def Vv(x lo hi:Int):Bool:=decide (lo<=x) && decide (x<=hi)
theorem av{x lo hi:Int}:Vv x lo hi=true<->lo<=x/\x<=hi:=by simp[Vv]
structure Span where
 lo:Int
 hi:Int
deriving Inhabited
def QM(s:Span):List Value:=[.int .i64 s.lo,.int .i64 s.hi]
abbrev Pz(xs:List Span):Value:=QV xs.length (Qf QM xs)
def Zi(a b lo hi:Int):Bool:=decide (lo<=a) && (decide (a<=b) && decide (b<=hi))
theorem mU{a b lo hi:Int}:Zi a b lo hi=true<->lo<=a/\a<=b/\b<=hi:=by simp[Zi]
theorem R9{α:Type}[Inhabited α]{l:List α}{i:Int}{p:α->Bool}(h0:0<=i)(h:i<l.length):(l.drop i.toNat).all p=(p (l.getD i.toNat Le) && (l.drop (i+1).toNat).all p):=by
 obtain⟨k,rfl⟩:∃k:Nat,i=k:=⟨i.toNat,by omega⟩
 have hk:k<l.length:=by omega
 have e1:((k:Int)).toNat=k:=by omega
 have e2:((k:Int)+1).toNat=k+1:=by omega
 rw[e1,e2,List.drop_eq_getElem_cons hk,List.all_cons];simp[Lu,hk]
theorem R8{α:Type}{l:List α}{i:Int}{p:α->Bool}(h:l.length<=i):(l.drop i.toNat).all p=true:=by
 rw[List.drop_eq_nil_of_le (by omega)];rfl
theorem yo{p:Int->Bool}{a b:Int}(h:(JV a b).all p=true){k:Int}(h1:a<=k)(h2:k<b):p k=true:=by
 refine List.all_eq_true.1 h k ?_;unfold JV;exact List.mem_map.2 ⟨(k-a).toNat,List.mem_range.2 (by omega),by omega⟩
def Ps{α β:Type}(f:α->β)(x0:β)(xs:List α)(i:Int):List β:=(xs.take i.toNat).map f++Lm (xs.length-i.toNat) x0
theorem dt{α β:Type}{f:α->β}{x0:β}{xs:List α}:Lm xs.length x0=Ps f x0 xs 0:=by simp[Ps]
theorem RB{α β:Type}{f:α->β}{x0:β}{xs:List α}{i:Int}:(Ps f x0 xs i).length=xs.length:=by simp[Ps];omega
theorem RA{α β:Type}[Inhabited α]{f:α->β}{x0:β}{xs:List α}{i:Int}(h0:0<=i)(h:i<xs.length):(Ps f x0 xs i).set i.toNat (f (xs.getD i.toNat Le))=Ps f x0 xs (i+1):=by
 obtain⟨k,rfl⟩:∃k:Nat,i=k:=⟨i.toNat,by omega⟩
 have hk:k<xs.length:=by omega
 have e1:((k:Int)).toNat=k:=by omega
 have e2:((k:Int)+1).toNat=k+1:=by omega
 unfold Ps;rw[e1,e2];have hl:((xs.take k).map f).length=k:=by simp;omega
 rw[List.set_append_right _ _ (by omega),hl,Nat.sub_self];have er:xs.length-k=(xs.length-(k+1))+1:=by omega
 rw[er,List.replicate_succ,List.set_cons_zero];have et:xs.take (k+1)=xs.take k++[xs[k]]:=by rw[List.take_succ_eq_append_getElem hk]
 rw[et,List.map_append,List.append_assoc];simp[Lu,hk]
theorem RC{α β:Type}{f:α->β}{x0:β}{xs:List α}{i:Int}(h:xs.length<=i):Ps f x0 xs i=xs.map f:=by
 unfold Ps;rw[List.take_of_length_le (by omega),show xs.length-i.toNat=0 by omega];simp
theorem bD{β:Type}{e:β->List Value}{ys zs:List β}{n:Nat}(h:ys=zs)(hn:n=zs.length):QV n (Qf e ys)=QV zs.length (Qf e zs):=by subst h hn;rfl
def qW:List Int->Int
 |[]=>0
 |x::l=>x+qW l
def vy(B:Lo)(x lo hi:Int):List Prop:=[(!Zs x lo)=true]++([]:List Prop)
def AK(x lo hi:Int):QO:=[(3,Vh)]
set_option maxRecDepth 100000 in
theorem GN(B:Lo)(x lo hi:Int):X2 (Q2 YP (QE YP) J0 B 6 1 (Q3 YP 55 15 (([.int .i64 x,.int .i64 lo,.int .i64 hi]).map (QD 0 4))) Z9 1
 (AK x lo hi++[(7,Vh)]) 0 [] []) []=some (.bool true,
 [(!Zs hi x)=true]++vy B x lo hi):=by kernel_rfl
set_option maxRecDepth 100000 in
theorem GM(B:Lo)(x lo hi:Int):X2 (Q2 YP (QE YP) J0 B 6 1 (Q3 YP 55 15 (([.int .i64 x,.int .i64 lo,.int .i64 hi]).map (QD 0 4))) Z9 1
 (AK x lo hi++[(7,Ud)]) 0 [] []) []=some (.bool false,
 [(!Zs hi x)=false]++vy B x lo hi):=by kernel_rfl
set_option maxRecDepth 100000 in
theorem GL(B:Lo)(x lo hi:Int):X2 (Q2 YP (QE YP) J0 B 6 1 (Q3 YP 55 15 (([.int .i64 x,.int .i64 lo,.int .i64 hi]).map (QD 0 4))) Z9 1
 [(3,Ud)] 0 [] []) []=some (.bool false,
 [(!Zs x lo)=false]):=by kernel_rfl
set_option maxHeartbeats 4000000 in
theorem HR(x lo hi:Int)  {B:Lo}(hJ:∀w,B.has w->J0 w):EndsT YP B (Q3 YP 55 15 (([.int .i64 x,.int .i64 lo,.int .i64 hi]).map (QD 0 4))) (.bool (Vv x lo hi)):=by
 by_cases q0:(lo:Int)<=(x)
 ·have VF:QB (vy B x lo hi):=by
   exact⟨(U9 q0),trivial⟩
  by_cases q1:(x:Int)<=(hi)
  ·exact(GoE.endsT okF hJ Qh GoE.start (GN B x lo hi)
    ⟨(U9 q1),VF⟩).cast (by first|rfl|(simp[Vv, *];done)|(simp_all[Vv];done)|(simp_all[Vv];omega))
  ·exact(GoE.endsT okF hJ Qh GoE.start (GM B x lo hi)
    ⟨(UA (Int.not_le.1 q1)),VF⟩).cast (by first|rfl|(simp[Vv, *];done)|(simp_all[Vv];done)|(simp_all[Vv];omega))
 ·exact(GoE.endsT okF hJ Qh GoE.start (GL B x lo hi)
   ⟨(UA (Int.not_le.1 q0)),trivial⟩).cast (by first|rfl|(simp[Vv, *];done)|(simp_all[Vv];done)|(simp_all[Vv];omega))
theorem mV(x lo hi:Int)  :Q6 YP J0 55 #[.int .i64 x,.int .i64 lo,.int .i64 hi] (.bool (Vv x lo hi)):=
 XD (ts:=[.int .i64 x,.int .i64 lo,.int .i64 hi]) ZF (c0:=Q3 YP 55 15 (([.int .i64 x,.int .i64 lo,.int .i64 hi]).map (QD 0 4))) (by kernel_rfl) (by kernel_rfl) fun B hJ=>HR x lo hi  hJ
def iJ(B:Lo)(a b ZN:Int):List Prop:=[(!Zs a 0)=true]++([]:List Prop)
def r3(a b ZN:Int):QO:=[(4,Vh)]
def iI(B:Lo)(a b ZN:Int):List Prop:=[(!Zs b a)=true]++iJ B a b ZN
def rz(a b ZN:Int):QO:=r3 a b ZN++[(10,Vh)]
set_option maxRecDepth 100000 in
theorem AQ(B:Lo)(a b ZN:Int):X2 (Q2 YP (QE YP) J0 B 6 1 (Q3 YP 56 21 (([.agg #[.int .i64 a,.int .i64 b],.int .i64 ZN]).map (QD 0 4))) Z9 1
 (rz a b ZN++[(16,Vh)]) 0 [] []) []=some (.bool true,
 [(!Zs ZN b)=true]++iI B a b ZN):=by kernel_rfl
set_option maxRecDepth 100000 in
theorem AP(B:Lo)(a b ZN:Int):X2 (Q2 YP (QE YP) J0 B 6 1 (Q3 YP 56 21 (([.agg #[.int .i64 a,.int .i64 b],.int .i64 ZN]).map (QD 0 4))) Z9 1
 (rz a b ZN++[(16,Ud)]) 0 [] []) []=some (.bool false,
 [(!Zs ZN b)=false]++iI B a b ZN):=by kernel_rfl
set_option maxRecDepth 100000 in
theorem AO(B:Lo)(a b ZN:Int):X2 (Q2 YP (QE YP) J0 B 6 1 (Q3 YP 56 21 (([.agg #[.int .i64 a,.int .i64 b],.int .i64 ZN]).map (QD 0 4))) Z9 1
 (r3 a b ZN++[(10,Ud)]) 0 [] []) []=some (.bool false,
 [(!Zs b a)=false]++iJ B a b ZN):=by kernel_rfl
set_option maxRecDepth 100000 in
theorem AN(B:Lo)(a b ZN:Int):X2 (Q2 YP (QE YP) J0 B 6 1 (Q3 YP 56 21 (([.agg #[.int .i64 a,.int .i64 b],.int .i64 ZN]).map (QD 0 4))) Z9 1
 [(4,Ud)] 0 [] []) []=some (.bool false,
 [(!Zs a 0)=false]):=by kernel_rfl
set_option maxHeartbeats 4000000 in
theorem Ep(a b ZN:Int)  {B:Lo}(hJ:∀w,B.has w->J0 w):EndsT YP B (Q3 YP 56 21 (([.agg #[.int .i64 a,.int .i64 b],.int .i64 ZN]).map (QD 0 4))) (.bool (Zi a b 0 ZN)):=by
 by_cases q0:(0:Int)<=(a)
 ·have VF:QB (iJ B a b ZN):=by
   exact⟨(U9 q0),trivial⟩
  by_cases q1:(a:Int)<=(b)
  ·have hp1:QB (iI B a b ZN):=by
    exact⟨(U9 q1),VF⟩
   by_cases q2:(b:Int)<=(ZN)
   ·exact(GoE.endsT okF hJ Qh GoE.start (AQ B a b ZN)
     ⟨(U9 q2),hp1⟩).cast (by first|rfl|(simp[Zi, *];done)|(simp_all[Zi];done)|(simp_all[Zi];omega))
   ·exact(GoE.endsT okF hJ Qh GoE.start (AP B a b ZN)
     ⟨(UA (Int.not_le.1 q2)),hp1⟩).cast (by first|rfl|(simp[Zi, *];done)|(simp_all[Zi];done)|(simp_all[Zi];omega))
  ·exact(GoE.endsT okF hJ Qh GoE.start (AO B a b ZN)
    ⟨(UA (Int.not_le.1 q1)),VF⟩).cast (by first|rfl|(simp[Zi, *];done)|(simp_all[Zi];done)|(simp_all[Zi];omega))
 ·exact(GoE.endsT okF hJ Qh GoE.start (AN B a b ZN)
   ⟨(UA (Int.not_le.1 q0)),trivial⟩).cast (by first|rfl|(simp[Zi, *];done)|(simp_all[Zi];done)|(simp_all[Zi];omega))
theorem mY(a b ZN:Int)  :Q6 YP J0 56 #[.agg #[.int .i64 a,.int .i64 b],.int .i64 ZN] (.bool (Zi a b 0 ZN)):=
 XD (ts:=[.agg #[.int .i64 a,.int .i64 b],.int .i64 ZN]) ZF (c0:=Q3 YP 56 21 (([.agg #[.int .i64 a,.int .i64 b],.int .i64 ZN]).map (QD 0 4))) (by kernel_rfl) (by kernel_rfl) fun B hJ=>Ep a b ZN  hJ
def wv(B:Lo)(n lo hi:Int):List Prop:=[(!Zs n lo)=true]++([]:List Prop)
def C7(n lo hi:Int):QO:=[(3,Vh)]
set_option maxRecDepth 100000 in
theorem Hl(B:Lo)(n lo hi:Int):X2 (Q2 YP (QE YP) J0 B 6 1 (Q3 YP 72 15 (([.int .i64 n,.int .i64 lo,.int .i64 hi]).map (QD 0 4))) Z9 1
 (C7 n lo hi++[(7,Vh)]) 0 [] []) []=some (.bool true,
 [(!Zs hi n)=true]++wv B n lo hi):=by kernel_rfl
set_option maxRecDepth 100000 in
theorem Hk(B:Lo)(n lo hi:Int):X2 (Q2 YP (QE YP) J0 B 6 1 (Q3 YP 72 15 (([.int .i64 n,.int .i64 lo,.int .i64 hi]).map (QD 0 4))) Z9 1
 (C7 n lo hi++[(7,Ud)]) 0 [] []) []=some (.bool false,
 [(!Zs hi n)=false]++wv B n lo hi):=by kernel_rfl
set_option maxRecDepth 100000 in
theorem Hj(B:Lo)(n lo hi:Int):X2 (Q2 YP (QE YP) J0 B 6 1 (Q3 YP 72 15 (([.int .i64 n,.int .i64 lo,.int .i64 hi]).map (QD 0 4))) Z9 1
 [(3,Ud)] 0 [] []) []=some (.bool false,
 [(!Zs n lo)=false]):=by kernel_rfl
set_option maxHeartbeats 4000000 in
theorem Ii(n lo hi:Int)  {B:Lo}(hJ:∀w,B.has w->J0 w):EndsT YP B (Q3 YP 72 15 (([.int .i64 n,.int .i64 lo,.int .i64 hi]).map (QD 0 4))) (.bool (Vv n lo hi)):=by
 by_cases q0:(lo:Int)<=(n)
 ·have VF:QB (wv B n lo hi):=by
   exact⟨(U9 q0),trivial⟩
  by_cases q1:(n:Int)<=(hi)
  ·exact(GoE.endsT okF hJ Qh GoE.start (Hl B n lo hi)
    ⟨(U9 q1),VF⟩).cast (by first|rfl|(simp[Vv, *];done)|(simp_all[Vv];done)|(simp_all[Vv];omega))
  ·exact(GoE.endsT okF hJ Qh GoE.start (Hk B n lo hi)
    ⟨(UA (Int.not_le.1 q1)),VF⟩).cast (by first|rfl|(simp[Vv, *];done)|(simp_all[Vv];done)|(simp_all[Vv];omega))
 ·exact(GoE.endsT okF hJ Qh GoE.start (Hj B n lo hi)
   ⟨(UA (Int.not_le.1 q0)),trivial⟩).cast (by first|rfl|(simp[Vv, *];done)|(simp_all[Vv];done)|(simp_all[Vv];omega))
theorem vf(n lo hi:Int)  :Q6 YP J0 72 #[.int .i64 n,.int .i64 lo,.int .i64 hi] (.bool (Vv n lo hi)):=
 XD (ts:=[.int .i64 n,.int .i64 lo,.int .i64 hi]) ZF (c0:=Q3 YP 72 15 (([.int .i64 n,.int .i64 lo,.int .i64 hi]).map (QD 0 4))) (by kernel_rfl) (by kernel_rfl) fun B hJ=>Ii n lo hi  hJ
def Jg(xs:List Int)(lo hi:Int)(i:Int):List Value:=[.int .i64 lo,.int .i64 hi,Q4 1 (QV xs.length (Qf Qp xs)),.int .i64 (↑xs.length:Int),.int .i64 i]
def VT(xs:List Int)(lo hi:Int)(i:Int):List Obj:=[]
def Jh:List Item:=([.code [1,0,1,0,0],.inLoop [1,0,1,0,0],.inBlock 0,.code [1,1]]).map (it (Xa YP 74))
def zO(B:Lo)(c0:CF)(xs:List Int)(lo hi:Int)(i:Int):Prop:=∃dJ:Nat->Value,(∀t,XH (dJ t))/\GoE YP B c0 Z9 1 (QS 74 21 (([1,2,9,10,11]:List Nat).zip (Jg xs lo hi i)) dJ Jh) (QN (VT xs lo hi i)) (2+(VT xs lo hi i).length) []
def nP(xs:List Int)(lo hi:Int)(i:Int):Array Value:=#[.int .i64 (xs.getD i.toNat Le),.int .i64 lo,.int .i64 hi]
def ek(B:Lo)(xs:List Int)(lo hi:Int)(i:Int)(Q0:Nat->Value):List Prop:=[Vs i xs.length (Qf Qp xs) Try.t3.size #[.int .i64 (xs.getD i.toNat Le)],Zs i (↑xs.length:Int)=true]++([]:List Prop)
def nQ(xs:List Int)(lo hi:Int)(i:Int)(Q0:Nat->Value):QO:=[(0,Vh),(1,Qk.tidx i.toNat #[.int .i64 (xs.getD i.toNat Le)])]
set_option maxRecDepth 100000 in
theorem zM(B:Lo)(xs:List Int)(lo hi:Int)(i:Int)(Q0:Nat->Value):landM (Q2 YP (QE YP) J0 B 16 1 (QS 74 21 (([1,2,9,10,11]:List Nat).zip (Jg xs lo hi i)) Q0 Jh) (QN (VT xs lo hi i)) (2+(VT xs lo hi i).length)
 (nQ xs lo hi i Q0++[(7,Qk.pure (.bool true) []),(9,WL (i+1))]) 0 [] []) [1,2,9,10,11] [] []=some ⟨74,21,Jh,[],.run,none,Jg xs lo hi (i+1),VT xs lo hi (i+1),
 [wq (i+1)=i+1,QB []/\Q6 YP J0 72 (nP xs lo hi i) (.bool true)]++ek B xs lo hi i Q0⟩:=by kernel_rfl
set_option maxRecDepth 100000 in
theorem zL(B:Lo)(xs:List Int)(lo hi:Int)(i:Int)(Q0:Nat->Value):X2 (Q2 YP (QE YP) J0 B 16 1 (QS 74 21 (([1,2,9,10,11]:List Nat).zip (Jg xs lo hi i)) Q0 Jh) (QN (VT xs lo hi i)) (2+(VT xs lo hi i).length)
 (nQ xs lo hi i Q0++[(7,Qk.pure (.bool false) [])]) 0 [] []) []=some (.bool false,
 [QB []/\Q6 YP J0 72 (nP xs lo hi i) (.bool false)]++ek B xs lo hi i Q0):=by kernel_rfl
set_option maxRecDepth 100000 in
theorem zK(B:Lo)(xs:List Int)(lo hi:Int)(i:Int)(Q0:Nat->Value):X2 (Q2 YP (QE YP) J0 B 9 1 (QS 74 21 (([1,2,9,10,11]:List Nat).zip (Jg xs lo hi i)) Q0 Jh) (QN (VT xs lo hi i)) (2+(VT xs lo hi i).length)
 [(0,Ud)] 0 [] []) []=some (.bool true,
 [Zs i (↑xs.length:Int)=false]):=by kernel_rfl
set_option maxRecDepth 100000 in
theorem zJ(B:Lo)(xs:List Int)(lo hi:Int):landM (Q2 YP (QE YP) J0 B 7 1 (Q3 YP 74 21 (([Zj xs,.int .i64 lo,.int .i64 hi]).map (QD 0 4))) Z9 1
 [] 0 [] []) [1,2,9,10,11] [] []=some ⟨74,21,Jh,[],.run,none,Jg xs lo hi (0),VT xs lo hi (0),
 []⟩:=by kernel_rfl
set_option maxHeartbeats 4000000 in
theorem zN(xs:List Int)(lo hi:Int)  (Z4:xs.length<=9223372036854775807){B:Lo}(hJ:∀w,B.has w->J0 w){c0:CF}:∀m:Nat,(∀(i:Int),xs.length-i.toNat=m->∀(h0:0<=i),zO B c0 xs lo hi i->EndsT YP B c0 (.bool ((xs.drop i.toNat).all (fun x=>Vv x lo hi)))):=by
 intro m0;induction m0 using LQ with
 |_ m0 ih0=>
  intro i S1 h0 ⟨Q0,VE,Za⟩;by_cases q0:(i:Int)<((↑xs.length:Int))
  ·have VF:QB (ek B xs lo hi i Q0):=by
    exact⟨⟨by omega,by omega,(Qy (z:=1) (fun _=>rfl) (by first|omega|(rw[LS];omega)|(rw[LR];omega)))⟩,⟨(XT q0),trivial⟩⟩
   cases q1:Vv (xs.getD i.toNat Le) lo hi with
   |true=>
    exact((ih0 _ (by omega)) (i+1) rfl (by first|with_reducible assumption|omega|(simp_all;done))
     (Za.landM okF hJ Qh (zM B xs lo hi i Q0)
     ⟨(Xi (by omega) (by omega)),⟨⟨trivial,(by have t_:=vf (xs.getD i.toNat Le) (lo) (hi);rw[q1]at t_;exact t_)⟩,VF⟩⟩ (by kernel_rfl) (by kernel_rfl))).cast (by first|(rw[ml (i:=i)];(· simp_all);(· omega);(· omega))|(rw[mj (i:=i)];(· simp_all);(· omega)))
   |false=>
    exact(GoE.endsT okF hJ Qh Za (zL B xs lo hi i Q0)
     ⟨⟨trivial,(by have t_:=vf (xs.getD i.toNat Le) (lo) (hi);rw[q1]at t_;exact t_)⟩,VF⟩).cast (by first|(rw[ml (i:=i)];(· simp_all);(· omega);(· omega))|(rw[mj (i:=i)];(· simp_all);(· omega)))
  ·exact(GoE.endsT okF hJ Qh Za (zK B xs lo hi i Q0)
    ⟨(Zw (Int.not_lt.1 q0)),trivial⟩).cast (by first|(rw[ml (i:=i)];(· simp_all);(· omega);(· omega))|(rw[mj (i:=i)];(· simp_all);(· omega)))
set_option maxHeartbeats 4000000 in
theorem CD(xs:List Int)(lo hi:Int)  (Z4:xs.length<=9223372036854775807){B:Lo}(hJ:∀w,B.has w->J0 w):EndsT YP B (Q3 YP 74 21 (([Zj xs,.int .i64 lo,.int .i64 hi]).map (QD 0 4))) (.bool (xs.all (fun x=>Vv x lo hi))):=by
 exact((zN xs lo hi Z4 hJ _) (0) rfl (by first|with_reducible assumption|omega|(simp_all;done))
  (GoE.start.landM okF hJ Qh (zJ B xs lo hi)
  trivial (by kernel_rfl) (by kernel_rfl))).cast (by first|rfl|(simp[*];done)|(simp_all[];done)|(simp_all[];omega))
theorem CG(xs:List Int)(lo hi:Int)  :Q6 YP J0 74 #[Zj xs,.int .i64 lo,.int .i64 hi] (.bool (xs.all (fun x=>Vv x lo hi))):=
 Km (ts:=[Zj xs,.int .i64 lo,.int .i64 hi]) (xs.length<=9223372036854775807) (fun _ _ ht=>ht.ln (i:=0) rfl) ZF (c0:=Q3 YP 74 21 (([Zj xs,.int .i64 lo,.int .i64 hi]).map (QD 0 4))) (by kernel_rfl) (by kernel_rfl) fun Z4 B hJ=>CD xs lo hi  Z4 hJ
def Su(B:Lo)(a b lo hi:Int):List Prop:=[(!Zs a lo)=true]++([]:List Prop)
def cA(a b lo hi:Int):QO:=[(5,Vh)]
def St(B:Lo)(a b lo hi:Int):List Prop:=[(!Zs b a)=true]++Su B a b lo hi
def c9(a b lo hi:Int):QO:=cA a b lo hi++[(11,Vh)]
set_option maxRecDepth 100000 in
theorem pq(B:Lo)(a b lo hi:Int):X2 (Q2 YP (QE YP) J0 B 6 1 (Q3 YP 114 24 (([.agg #[.int .i64 a,.int .i64 b],.int .i64 lo,.int .i64 hi]).map (QD 0 4))) Z9 1
 (c9 a b lo hi++[(17,Vh)]) 0 [] []) []=some (.bool true,
 [(!Zs hi b)=true]++St B a b lo hi):=by kernel_rfl
set_option maxRecDepth 100000 in
theorem po(B:Lo)(a b lo hi:Int):X2 (Q2 YP (QE YP) J0 B 6 1 (Q3 YP 114 24 (([.agg #[.int .i64 a,.int .i64 b],.int .i64 lo,.int .i64 hi]).map (QD 0 4))) Z9 1
 (c9 a b lo hi++[(17,Ud)]) 0 [] []) []=some (.bool false,
 [(!Zs hi b)=false]++St B a b lo hi):=by kernel_rfl
set_option maxRecDepth 100000 in
theorem pn(B:Lo)(a b lo hi:Int):X2 (Q2 YP (QE YP) J0 B 6 1 (Q3 YP 114 24 (([.agg #[.int .i64 a,.int .i64 b],.int .i64 lo,.int .i64 hi]).map (QD 0 4))) Z9 1
 (cA a b lo hi++[(11,Ud)]) 0 [] []) []=some (.bool false,
 [(!Zs b a)=false]++Su B a b lo hi):=by kernel_rfl
set_option maxRecDepth 100000 in
theorem pk(B:Lo)(a b lo hi:Int):X2 (Q2 YP (QE YP) J0 B 6 1 (Q3 YP 114 24 (([.agg #[.int .i64 a,.int .i64 b],.int .i64 lo,.int .i64 hi]).map (QD 0 4))) Z9 1
 [(5,Ud)] 0 [] []) []=some (.bool false,
 [(!Zs a lo)=false]):=by kernel_rfl
set_option maxHeartbeats 4000000 in
theorem sK(a b lo hi:Int)  {B:Lo}(hJ:∀w,B.has w->J0 w):EndsT YP B (Q3 YP 114 24 (([.agg #[.int .i64 a,.int .i64 b],.int .i64 lo,.int .i64 hi]).map (QD 0 4))) (.bool (Zi a b lo hi)):=by
 by_cases q0:(lo:Int)<=(a)
 ·have VF:QB (Su B a b lo hi):=by
   exact⟨(U9 q0),trivial⟩
  by_cases q1:(a:Int)<=(b)
  ·have hp1:QB (St B a b lo hi):=by
    exact⟨(U9 q1),VF⟩
   by_cases q2:(b:Int)<=(hi)
   ·exact(GoE.endsT okF hJ Qh GoE.start (pq B a b lo hi)
     ⟨(U9 q2),hp1⟩).cast (by first|rfl|(simp[Zi, *];done)|(simp_all[Zi];done)|(simp_all[Zi];omega))
   ·exact(GoE.endsT okF hJ Qh GoE.start (po B a b lo hi)
     ⟨(UA (Int.not_le.1 q2)),hp1⟩).cast (by first|rfl|(simp[Zi, *];done)|(simp_all[Zi];done)|(simp_all[Zi];omega))
  ·exact(GoE.endsT okF hJ Qh GoE.start (pn B a b lo hi)
    ⟨(UA (Int.not_le.1 q1)),VF⟩).cast (by first|rfl|(simp[Zi, *];done)|(simp_all[Zi];done)|(simp_all[Zi];omega))
 ·exact(GoE.endsT okF hJ Qh GoE.start (pk B a b lo hi)
   ⟨(UA (Int.not_le.1 q0)),trivial⟩).cast (by first|rfl|(simp[Zi, *];done)|(simp_all[Zi];done)|(simp_all[Zi];omega))
theorem nL(a b lo hi:Int)  :Q6 YP J0 114 #[.agg #[.int .i64 a,.int .i64 b],.int .i64 lo,.int .i64 hi] (.bool (Zi a b lo hi)):=
 XD (ts:=[.agg #[.int .i64 a,.int .i64 b],.int .i64 lo,.int .i64 hi]) ZF (c0:=Q3 YP 114 24 (([.agg #[.int .i64 a,.int .i64 b],.int .i64 lo,.int .i64 hi]).map (QD 0 4))) (by kernel_rfl) (by kernel_rfl) fun B hJ=>sK a b lo hi  hJ
def jR(a b ZN:Int):Array Value:=#[.agg #[.int .i64 a,.int .i64 b],.int .i64 0,.int .i64 ZN]
set_option maxRecDepth 100000 in
theorem wu(B:Lo)(a b ZN:Int):X2 (Q2 YP (QE YP) J0 B 6 1 (Q3 YP 96 8 (([.agg #[.int .i64 a,.int .i64 b],.int .i64 ZN]).map (QD 0 4))) Z9 1
 [(4,Qk.pure (.bool true) [])] 0 [] []) []=some (.bool true,
 [QB []/\Q6 YP J0 114 (jR a b ZN) (.bool true)]):=by kernel_rfl
set_option maxRecDepth 100000 in
theorem wo(B:Lo)(a b ZN:Int):X2 (Q2 YP (QE YP) J0 B 6 1 (Q3 YP 96 8 (([.agg #[.int .i64 a,.int .i64 b],.int .i64 ZN]).map (QD 0 4))) Z9 1
 [(4,Qk.pure (.bool false) [])] 0 [] []) []=some (.bool false,
 [QB []/\Q6 YP J0 114 (jR a b ZN) (.bool false)]):=by kernel_rfl
set_option maxHeartbeats 4000000 in
theorem z1(a b ZN:Int)  {B:Lo}(hJ:∀w,B.has w->J0 w):EndsT YP B (Q3 YP 96 8 (([.agg #[.int .i64 a,.int .i64 b],.int .i64 ZN]).map (QD 0 4))) (.bool (Zi a b 0 ZN)):=by
 cases q0:Zi a b 0 ZN with
 |true=>
  exact(GoE.endsT okF hJ Qh GoE.start (wu B a b ZN)
   ⟨⟨trivial,(by have t_:=nL (a) (b) (0) (ZN);rw[q0]at t_;exact t_)⟩,trivial⟩).cast (by first|rfl|(simp[Zi, *];done)|(simp_all[Zi];done)|(simp_all[Zi];omega))
 |false=>
  exact(GoE.endsT okF hJ Qh GoE.start (wo B a b ZN)
   ⟨⟨trivial,(by have t_:=nL (a) (b) (0) (ZN);rw[q0]at t_;exact t_)⟩,trivial⟩).cast (by first|rfl|(simp[Zi, *];done)|(simp_all[Zi];done)|(simp_all[Zi];omega))
theorem ab(a b ZN:Int)  :Q6 YP J0 96 #[.agg #[.int .i64 a,.int .i64 b],.int .i64 ZN] (.bool (Zi a b 0 ZN)):=
 XD (ts:=[.agg #[.int .i64 a,.int .i64 b],.int .i64 ZN]) ZF (c0:=Q3 YP 96 8 (([.agg #[.int .i64 a,.int .i64 b],.int .i64 ZN]).map (QD 0 4))) (by kernel_rfl) (by kernel_rfl) fun B hJ=>z1 a b ZN  hJ
set_option maxRecDepth 100000 in
theorem C8(B:Lo)(a b:Int):X2 (Q2 YP (QE YP) J0 B 6 1 (Q3 YP 77 5 (([.agg #[.int .i64 a,.int .i64 b]]).map (QD 0 4))) Z9 1
 [] 0 [] []) []=some (.int .i64 b,
 []):=by kernel_rfl
set_option maxHeartbeats 4000000 in
theorem Fl(a b:Int)  {B:Lo}(hJ:∀w,B.has w->J0 w):EndsT YP B (Q3 YP 77 5 (([.agg #[.int .i64 a,.int .i64 b]]).map (QD 0 4))) (.int .i64 b):=by
 exact(GoE.endsT okF hJ Qh GoE.start (C8 B a b)
  trivial).cast (by first|rfl|(simp[*];done)|(simp_all[];done)|(simp_all[];omega))
theorem Ij(a b:Int)  :Q6 YP J0 77 #[.agg #[.int .i64 a,.int .i64 b]] (.int .i64 b):=
 XD (ts:=[.agg #[.int .i64 a,.int .i64 b]]) ZF (c0:=Q3 YP 77 5 (([.agg #[.int .i64 a,.int .i64 b]]).map (QD 0 4))) (by kernel_rfl) (by kernel_rfl) fun B hJ=>Fl a b  hJ
set_option maxRecDepth 100000 in
theorem Fk(B:Lo)(a b:Int):X2 (Q2 YP (QE YP) J0 B 6 1 (Q3 YP 76 5 (([.agg #[.int .i64 a,.int .i64 b]]).map (QD 0 4))) Z9 1
 [] 0 [] []) []=some (.int .i64 a,
 []):=by kernel_rfl
set_option maxHeartbeats 4000000 in
theorem Hi(a b:Int)  {B:Lo}(hJ:∀w,B.has w->J0 w):EndsT YP B (Q3 YP 76 5 (([.agg #[.int .i64 a,.int .i64 b]]).map (QD 0 4))) (.int .i64 a):=by
 exact(GoE.endsT okF hJ Qh GoE.start (Fk B a b)
  trivial).cast (by first|rfl|(simp[*];done)|(simp_all[];done)|(simp_all[];omega))
theorem IH(a b:Int)  :Q6 YP J0 76 #[.agg #[.int .i64 a,.int .i64 b]] (.int .i64 a):=
 XD (ts:=[.agg #[.int .i64 a,.int .i64 b]]) ZF (c0:=Q3 YP 76 5 (([.agg #[.int .i64 a,.int .i64 b]]).map (QD 0 4))) (by kernel_rfl) (by kernel_rfl) fun B hJ=>Hi a b  hJ
set_option maxRecDepth 100000 in
theorem C5(B:Lo)(a r:Int):X2 (Q2 YP (QE YP) J0 B 6 1 (Q3 YP 115 9 (([.int .i64 a,.int .i64 r]).map (QD 0 4))) Z9 1
 [(3,WL (a*r)),(4,WL (Lh (a*r) 1000))] 0 [] []) []=some (.int .i64 (Lh (a*r) 1000),
 [IntKind.wrap .i64 (Lh (a*r) 1000)=Lh (a*r) 1000,wq (a*r)=a*r]):=by kernel_rfl
set_option maxHeartbeats 4000000 in
theorem Fj(a r:Int)(ha:0<=a/\a<=1000000000000)(hr:0<=r/\r<=1000000){B:Lo}(hJ:∀w,B.has w->J0 w):EndsT YP B (Q3 YP 115 9 (([.int .i64 a,.int .i64 r]).map (QD 0 4))) (.int .i64 ((a*r).tdiv 1000)):=by
 have e0:0<=a*r:=Int.mul_nonneg ha.1 hr.1;have e1:a*r<=1000000000000*1000000:=Int.mul_le_mul ha.2 hr.2 hr.1 (by omega);have e2:(a*r).tdiv 1000=(a*r) / 1000:=Ma e0;exact(GoE.endsT okF hJ Qh GoE.start (C5 B a r)
  ⟨(JU (by omega) (by omega)),⟨(Xi (by omega) (by omega)),trivial⟩⟩).cast (by first|rfl|(simp[*];done)|(simp_all[];done)|(simp_all[];omega))
theorem C6(a r:Int)(ha:0<=a/\a<=1000000000000)(hr:0<=r/\r<=1000000):Q6 YP J0 115 #[.int .i64 a,.int .i64 r] (.int .i64 ((a*r).tdiv 1000)):=
 XD (ts:=[.int .i64 a,.int .i64 r]) ZF (c0:=Q3 YP 115 9 (([.int .i64 a,.int .i64 r]).map (QD 0 4))) (by kernel_rfl) (by kernel_rfl) fun B hJ=>Fj a r ha hr hJ
set_option maxRecDepth 100000 in
theorem mI(B:Lo)(a r:Int):X2 (Q2 YP (QE YP) J0 B 6 1 (Q3 YP 100 10 (([.int .i64 a,.int .i64 r]).map (QD 0 4))) Z9 1
 [(4,Qk.pure (.int .i64 (Lh (a*r) 1000)) []),(5,WL (a+Lh (a*r) 1000))] 0 [] []) []=some (.int .i64 (a+Lh (a*r) 1000),
 [wq (a+Lh (a*r) 1000)=a+Lh (a*r) 1000,QB []/\Q6 YP J0 115 #[.int .i64 a,.int .i64 r] (.int .i64 (Lh (a*r) 1000))]):=by kernel_rfl
set_option maxHeartbeats 4000000 in
theorem oT(a r:Int)(ha:0<=a/\a<=1000000000000)(hr:0<=r/\r<=1000000){B:Lo}(hJ:∀w,B.has w->J0 w):EndsT YP B (Q3 YP 100 10 (([.int .i64 a,.int .i64 r]).map (QD 0 4))) (.int .i64 (a+(a*r).tdiv 1000)):=by
 have e0:0<=a*r:=Int.mul_nonneg ha.1 hr.1;have e1:a*r<=1000000000000*1000000:=Int.mul_le_mul ha.2 hr.2 hr.1 (by omega);have e2:(a*r).tdiv 1000=(a*r) / 1000:=Ma e0;exact(GoE.endsT okF hJ Qh GoE.start (mI B a r)
  ⟨(Xi (by omega) (by omega)),⟨⟨trivial,C6 (a) (r) (by first|with_reducible assumption|omega|simp_all) (by first|with_reducible assumption|omega|simp_all)⟩,trivial⟩⟩).cast (by first|rfl|(simp[*];done)|(simp_all[];done)|(simp_all[];omega))
theorem vP(a r:Int)(ha:0<=a/\a<=1000000000000)(hr:0<=r/\r<=1000000):Q6 YP J0 100 #[.int .i64 a,.int .i64 r] (.int .i64 (a+(a*r).tdiv 1000)):=
 XD (ts:=[.int .i64 a,.int .i64 r]) ZF (c0:=Q3 YP 100 10 (([.int .i64 a,.int .i64 r]).map (QD 0 4))) (by kernel_rfl) (by kernel_rfl) fun B hJ=>oT a r ha hr hJ
def fB(n:Int):Array Value:=#[.int .i64 n,.int .i64 0,.int .i64 1000000]
set_option maxRecDepth 100000 in
theorem sJ(B:Lo)(n:Int):X2 (Q2 YP (QE YP) J0 B 6 1 (Q3 YP 95 5 (([.int .i64 n]).map (QD 0 4))) Z9 1
 [(2,Qk.pure (.bool true) [])] 0 [] []) []=some (.bool true,
 [QB []/\Q6 YP J0 72 (fB n) (.bool true)]):=by kernel_rfl
set_option maxRecDepth 100000 in
theorem sI(B:Lo)(n:Int):X2 (Q2 YP (QE YP) J0 B 6 1 (Q3 YP 95 5 (([.int .i64 n]).map (QD 0 4))) Z9 1
 [(2,Qk.pure (.bool false) [])] 0 [] []) []=some (.bool false,
 [QB []/\Q6 YP J0 72 (fB n) (.bool false)]):=by kernel_rfl
set_option maxHeartbeats 4000000 in
theorem wm(n:Int)  {B:Lo}(hJ:∀w,B.has w->J0 w):EndsT YP B (Q3 YP 95 5 (([.int .i64 n]).map (QD 0 4))) (.bool (Vv n 0 1000000)):=by
 cases q0:Vv n 0 1000000 with
 |true=>
  exact(GoE.endsT okF hJ Qh GoE.start (sJ B n)
   ⟨⟨trivial,(by have t_:=vf (n) (0) (1000000);rw[q0]at t_;exact t_)⟩,trivial⟩).cast (by first|rfl|(simp[*];done)|(simp_all[];done)|(simp_all[];omega))
 |false=>
  exact(GoE.endsT okF hJ Qh GoE.start (sI B n)
   ⟨⟨trivial,(by have t_:=vf (n) (0) (1000000);rw[q0]at t_;exact t_)⟩,trivial⟩).cast (by first|rfl|(simp[*];done)|(simp_all[];done)|(simp_all[];omega))
theorem Rd(n:Int)  :Q6 YP J0 95 #[.int .i64 n] (.bool (Vv n 0 1000000)):=
 XD (ts:=[.int .i64 n]) ZF (c0:=Q3 YP 95 5 (([.int .i64 n]).map (QD 0 4))) (by kernel_rfl) (by kernel_rfl) fun B hJ=>wm n  hJ
end
end Go.Proofs.Ytncjjangllkokaa

