/- TX 2: frames Yo defer a function Yo recovers. -/
import Derived.Test.YtncjjangllkokaaZRR10
import Derived.Test.YtncjjangllkokaaZRR07
import Derived.Test.YtncjjangllkokaaProg
set_option linter.all false
open List renaming range->Ld,getD_eq_getElem?_getD->Li,getElem?_map->Lu,length->Lf,getElem?_append_right->Lm,range'->Ls,mem_append_left->Lg,mem_append->LP,getElem?_eq_getElem->LU,replicate->Lq,getElem?_take_of_lt->LS,getElem?_eq_none->Lw,getElem?_append_left->Lt
open Array renaming getElem?_eq_none->LR,getElem?_toList->Lj,mem_of_getElem? ->LB,getElem?_extract->LN
open Nat renaming ble->LC,le_refl->Lr,zero_add->Lv,lt_or_ge->Ly,blt->Lk,ble_eq_true_of_le->Lx,beq->Le,min->LL,strongRecOn->LA
open Option renaming map_some->Lz
open Int renaming toNat_natCast->LK,le_refl->LJ,tdiv->Lc,mul_nonneg->LG,mul_le_mul->LH,tdiv_eq_ediv_of_nonneg->LQ
open Inhabited renaming default->La
namespace Go.CE
open Go Go.RowKit

def tV:OO->CM
 | .ret _=>.ret
 | .Zj v=>.Zj v
def He:OO->Value
 | .ret _=>.nilIface
 | .Zj v=>v
def Hn:CM->Option OO
 | .run=>none
 | .ret=>some (.ret (.tuple #[]))
 | .Zj v=>some (.Zj v)
theorem Eo{m:CM}{o:OO}(h:Hn m=some o):m=tV o:=by
 cases m with
 |run=>cases h
 |ret=>cases h;rfl
 |Zj v=>cases h;rfl
def Ce(T:Tm):Tm:=ofList T.len ((Ld T.len).map (Xm T))
theorem Cd{μ:Mu}{T:Tm}{A:Array Value}(hl:T.len<=16000)(h:TR μ T A):TR μ (Ce T) A:=by
 refine⟨h.1,fun t=> ?_⟩;simp only[Ce,Xm,ofList];rw[SQ _ _ _ _ (by simp;omega)];split
 ·rename_i ht;have ht:t<T.len:=by simpa using ht
  have:=h.2 t;simp only[Xm]at this;rw[Nat.sub_zero,Li,Lu,List.getElem?_range ht];exact this
 ·rename_i ht;have ht:T.len<=t:=by simpa using ht
  rw[Tri.get_lf];have hA:A.getD t undef=undef:=by
   rw[Array.getD_eq_getD_getElem?,LR (by rw[<-h.1];exact ht)];rfl
  rw[hA];exact VR.undef
structure HY where
 c:CF
 H:Qj
 n:Nat
 g:FuncId
 args:Array Value
 R:List Nat
 W:List Nat
noncomputable def zV(P:Program)(F:FuncId->Bool)(c1:CF)(H:Qj)(n:Nat):Option HY:=
 match c1.mode,c1.todo,c1.defers,c1.roundOf with
 | .run,.code (.region _ ops false)::todo,[],none=>match pL P F Xh 0 ops c1 H n with
   |some s=>match s.o.op,s.post with
    | .defer c,[]=>match c.callee with
      | .value x=>match X8 s.T x with
        |some (.func (.func g) xs ys)=>bif c.args.isEmpty && F g && LC s.T.len 16000 then some ⟨⟨c1.fn,Ce (W6 s.T s.o.dst undef),todo,[],.run,none⟩,s.H,s.n,g,xs++ys,Kc s.Qq,Vj s.Qq⟩else none
        |_=>none
      |_=>none
    |_,_=>none
   |none=>none
 |_,_,_,_=>none
def UJ(P:Program)(B:Lo)(c:CF)(H:Qj)(n:Nat)(out:OO)(live:List (Nat×Value))(H':Qj)(n':Nat)(R W:List Nat):Prop:=
 ∃(d:Nat->Value) (td:List Item),GoJ P B c H n ⟨c.fn,Dz c.tmps.len live d,td,[],tV out,c.roundOf⟩ H' n' R W
noncomputable def pK(P:Program)(F:FuncId->Bool)(J:World->Prop)(B:Lo)(k b:Nat)(c:CF)(H:Qj)(n:Nat)(out:OO)(live:List (Nat×Value))(VQ:Qj)(n':Nat)(Wk:List Nat)(res:Value)(resR:List Nat):Option ST:=
 match Qs P F J B k b c H n [] 0 [] []with
 |some ⟨.at c1 H1 n1,W1,L1⟩=>match zV P F c1 H1 n1 with
  |some s=>match bV P F Xh 0 b s.g s.args (He out) (VQ++s.H) n' [] (Zt b Wk (Zt b s.W W1))with
   |some m3=>some ⟨.fin (.ret res) m3.H m3.n,m3.W,UJ P B s.c s.H s.n out live (VQ++s.H) n' (Ld s.n) Wk::(∀d,ga P s.c.fn m3.H (Dz s.c.tmps.len live d)=some (res,resR))::L1⟩
   |none=>none
  |none=>none
 |_=>none
def F6(P:Program)(B:Lo)(b:Nat)(c:CF)(H:Qj)(n:Nat)(s:Option ST):Prop:=
 ∀out H' n' W' L',s=some ⟨.fin out H' n',W',L'⟩->Qw L'->∃R W2,FJ P B c H n out H' n' R W2/\∀i,i<b->(i∈W'<->i∈W2)
section
variable {P:Program} {F:FuncId->Bool} {J:World->Prop} {B:Lo} {c0 c:CF} {Hb H:Qj} {a n:Nat} {W Wf:List Nat}
theorem pM(hF:∀g,F g=true->Q0 P g=true)(X2:P.follows .mixedOrders=true){c1:CF}{H1:Qj}{n1:Nat}{s:HY}(hu:Under H1 n1)(h:zV P F c1 H1 n1=some s):
 Shape H1 n1 s.H s.n s.R s.W/\Under s.H s.n/\F s.g=true/\s.c.fn=c1.fn/\s.c.roundOf=none/\s.c.defers=[]/\s.c.mode=.run/\
 ∀(S:Nat->Prop) (n N:Nat) (W:List Nat) (μ0 μ:Mu) (H0:Qj) (w0 w:World),Sofar B S n N W μ0 μ H0 H1 n1 w0 w->(∀i,S i->i<n)->s.n<=N->(∀i∈s.R,i<n->S i)->∀(VN:Frame) (cs:List Frame),FrR Bot.no μ c1 VN->
  ∃(xs' ys':Array Value) (fr2:Frame) (w':World) (μ':Mu),Sofar B S n N (W++s.W) μ0 μ' H0 s.H s.n w0 w'/\Ext μ μ'/\FrR ⟨[{target:=.fn (.func s.g) ys',args:=xs'}],.normal⟩ μ' s.c fr2/\fr2.fn=VN.fn/\VRs μ' s.args (xs'++ys')/\Steps P (lone VN cs w) (lone fr2 cs w'):=by
 unfold zV at h;split at h
 ·rename_i id ops todo hmode1 htodo1 hds1 YQ;split at h
  ·rename_i q hs;obtain⟨pre,e1,e2,e3,e4,e5,e6,e7,e8⟩:=Rp (B:=B) hF X2 (Q7 P B) hu hs;split at h
   ·rename_i c XF Xu;split at h
    ·rename_i x hcal;split at h
     ·rename_i g xs ys hx;cases hca:(c.args.isEmpty && F g && LC q.T.len 16000)with
      |false=>rw[hca]at h;cases h
      |true=>
       rw[hca]at h;simp only[cond_true,YO]at h;subst h;simp only[YB]at hca;have hlenT:=YL hca.2;have sh2:=Zp q.Qq _ _ _ _ _ _ e4 e2;refine⟨sh2,e6,hca.1.2,rfl,rfl,rfl,rfl,fun S n N W μ0 μ H0 w0 w s1 hS hN hR VN cs Uh=> ?_⟩;simp only at hN hR ⊢;have hro1:VN.roundOf=none:=by
        have:=Uh.round;rw[YQ]at this;generalize VN.roundOf=z at this ⊢;cases z with
        |none=>rfl
        |some z=>cases this
       obtain⟨ha,hb,hd⟩:=Uh.running hmode1;rw[htodo1]at hd;obtain⟨L',hL,hL'⟩:=hd.code;have hd1:VN.defers=[]:=by
        have:=Uh.defers;rw[hds1]at this;exact this.empty
       rw[Xu]at e1;have hlen:ops.size=pre.length+(0+1):=by
        have:=congrArg Lf e1;simp at this;omega
       have hat:ops[pre.length]? =some q.o:=by
        rw[<-Lj,e1,Lm (Lr _)];simp
       have hplen:q.Qq.length=pre.length:=by have:=congrArg Lf e5;simpa using this
       have hown1:∀(j:Nat) r,q.Qq[j]? =some r->ops[0+j]? =some r.o:=by
        intro j r hj;rw[Lv];exact V8 (l:=ops.toList) (l2:=[q.o]) (by rw[e5];exact e1.symm) rfl j r hj
       obtain⟨A1,w2,μ2,s2,hT2,x2,st2⟩:=s1.seq hS e4 e2 e3 0 hown1 rfl hN hR ha hb (pre.length::Ls (pre.length+1) 0) L' cs;have Jc:step P (lone VN cs w)=.next (lone (QU VN VN.tmps ops (Ls 0 ops.size) L') cs w):=Zw ha hL;rw[range_split hlen]at Jc;rw[hplen]at st2;have VS:Region.wanted q.o (yielded ops A1)=true:=by rw[Up hT2];exact e8
       have hvx:=kI (fr:=QU VN A1 ops (pre.length::Ls (pre.length+1) 0) L') hT2 x _ hx;have hca':c.args=#[]:=by simpa[Array.isEmpty]using hca.1.1
       generalize hgx:(QU VN A1 ops (pre.length::Ls (pre.length+1) 0) L').eval x=ux at hvx;cases hvx with
       |func q1 q2 q3 q4=>
        rename_i xs' ys';have hdv:(Deferred.ofValue ((QU VN A1 ops (pre.length::Ls (pre.length+1) 0) L').eval x) (c.args.map (QU VN A1 ops (pre.length::Ls (pre.length+1) 0) L').eval)).run P w2=.ok {target:=.fn (.func g) ys',args:=xs'} w2:=by
         rw[hgx,hca'];simp[Deferred.ofValue]
        have st3:=step_defer (cs:=cs) (w:=w2) ha hro1 hat VS XF hcal hdv;rw[KG hat]at st3;have hdst:=Ko e7;have hT3:TR μ2 (W6 q.T q.o.dst undef) (putA A1 undef q.o.dst):=hT2.putA hdst VR.undef;have st4:step P (lone {QU VN (putA A1 undef q.o.dst) ops (Ls (pre.length+1) 0) L' with defers:={target:=.fn (.func g) ys',args:=xs'}::VN.defers} cs w2)=
         .next (lone {VN with tmps:=putA A1 undef q.o.dst,todo:=L',defers:={target:=.fn (.func g) ys',args:=xs'}::VN.defers} cs w2):=
         Wn (fr:={VN with defers:={target:=.fn (.func g) ys',args:=xs'}::VN.defers}) (A:=putA A1 undef q.o.dst) (ops:=ops) (k:=L') ha
        have k1:VRs μ2 xs xs':=⟨q1,q3⟩
        have k2:VRs μ2 ys ys':=⟨q2,q4⟩
        refine⟨xs',ys',{VN with tmps:=putA A1 undef q.o.dst,todo:=L',defers:={target:=.fn (.func g) ys',args:=xs'}::VN.defers},w2,μ2,s2,x2,⟨Uh.fn,Cd (by rw[Vm];exact hlenT) hT3,fun _=>hL'.mono x2,.of_empty (by simp[hd1]), ?_,Uh.kind,by rw[<-YQ];exact Uh.round.mono x2⟩,rfl,k1.append k2,.head Jc (st2.trans (.head st3 (.one st4)))⟩;have:=Uh.mode;rw[hmode1]at this;show MR μ2 .run VN.mode;generalize VN.mode=z at this ⊢;cases this;exact .run
     ·cases h
    ·cases h
   ·cases h
  ·cases h
 ·cases h
theorem pJ(hF:∀g,F g=true->Q0 P g=true)(hJ:∀w,B.has w->J w)(X2:P.follows .mixedOrders=true){k b:Nat}{out:OO}{live:List (Nat×Value)}{VQ:Qj}{n':Nat}{Wk:List Nat}{res:Value}{resR:List Nat}(hu:Under H n):
 F6 P B b c H n (pK P F J B k b c H n out live VQ n' Wk res resR):=by
 intro o H' nz W' L' h ha;unfold pK at h;split at h
 ·rename_i c1 H1 n1 W1 L1 hs1;split at h
  ·rename_i s hs2;split at h
   ·rename_i m3 hm3;simp only[YO,ST.mk.injEq,SR.fin.injEq]at h;obtain⟨⟨rfl,rfl,rfl⟩,rfl,rfl⟩:=h;obtain⟨⟨d,td,hU⟩,hres,hL1⟩:=ha;have hres:=hres d;obtain⟨R1,W1',g1,a1⟩:=Z1 hF hJ X2 k b c H n [] 0 [] [] _ hu hs1 hL1;have g1:GoJ P B c H n c1 H1 n1 R1 W1':=g1;simp only at a1;have PS:Under H1 n1:=hu.shape g1.shape;obtain⟨sh2,hu2,hFg,hfn2,hro2,hds2,hmode2,hsp⟩:=pM (B:=B) hF X2 PS hs2;have hu3:Under (VQ++s.H) n':=hu2.shape hU.shape;obtain⟨Rr,Wr,sh3,ar,br,hsem⟩:=ax (B:=B) hF X2 (Q7 P B) hu3 hm3;have hu4:Under m3.H m3.n:=hu3.shape sh3;have Kz:=((g1.shape.trans sh2).trans hU.shape).trans sh3;have l1:=g1.shape.le;have l2:=sh2.le;have l3:=hU.shape.le;have l4:=sh3.le;refine⟨(((R1++s.R)++Ld s.n)++Rr)++resR,((W1'++s.W)++Wk)++Wr,⟨⟨Kz.le,Kz.keep,Kz.top,fun i hi=>Lg _ (Kz.sub i hi),Kz.wlt⟩,fun S μ w fr cs Q5 hB hS hf hfr0 hR=> ?_⟩,fun i hi=> ?_⟩
    ·simp only[LP]at hR;have sf0:Sofar B S n m3.n [] μ μ H H n w w:=⟨Post.refl Q5,hB,hf⟩
     obtain⟨VN,w1,μ1,s1,Uh,hr1,hfn1,st1,x1⟩:=sf0.goj hS g1 (by omega) (fun i hi=>hR i (.inl (.inl (.inl (.inl hi))))) hfr0 cs;obtain⟨xs',ys',fr2,w2,μ2,s2,x2,hfr2,hfnq,hvargs,st2⟩:=hsp S n m3.n _ μ μ1 H w w1 s1 hS (by omega) (fun i hi=>hR i (.inl (.inl (.inl (.inr hi))))) VN cs Uh;obtain⟨fr3,w3,μ3,s3,hfr3,hr3,hfn3,st3,x3⟩:=s2.goj hS hU (by omega) (fun i hi=>hR i (.inl (.inl (.inr hi)))) hfr2 cs;have hd3:fr3.defers=[{target:=.fn (.func s.g) ys',args:=xs'}]:=by
      have:=hfr3.defers;exact this.empty
     have hun:pf μ3 (He out) {fr3 with defers:=[]}/\fr3.mode≠.run:=by
      have hm:=hfr3.mode;simp only at hm;generalize fr3.mode=q at hm ⊢;cases out with
      |ret v=>
       simp only[tV]at hm;cases hm;exact⟨.inl ⟨rfl,rfl⟩,fun e=>by cases e⟩
      |Zj v=>
       simp only[tV]at hm;cases hm with
       |Zj Wt=>exact⟨.inr ⟨_,Wt,rfl⟩,fun e=>by cases e⟩
     have st6:step P (lone fr3 cs w3)=.next (lone (Frame.enter P s.g (xs'++ys') .deferred) ({fr3 with defers:=[]}::cs) w3):=
      Yr hun.2 hd3 rfl (PY (hF s.g hFg) _ w3)
     obtain⟨w4,μ4,s4,x4,st7⟩:=hsem S n m3.n _ μ μ3 H w w3 s3 hS (Lr _) (fun i hi=>hR i (.inl (.inr hi))) _ {fr3 with defers:=[]} cs (hvargs.mono x3) hun.1
     obtain⟨fn,v',hfn,hresr,Wt⟩:=fZ hu4 s4.post.ok (hfr3.tmps.mono x4) hres (fun i hi QX=>by
      rcases Ly i n with h1|h1
      ·exact .inl (hR i (.inr hi) h1)
      ·exact .inr ⟨h1,QX⟩)
     have hfnE:fr3.fn=fr.fn:=by rw[hfn3,hfnq,hfn1]
     have hro3:fr3.roundOf=none:=by
      have:=hfr3.round;simp only[hro2]at this;generalize fr3.roundOf=z at this ⊢;cases z with
      |none=>rfl
      |some z=>cases this
     have YG:({fr3 with defers:=[],mode:=.returning}:Frame).leaving P w4 (.returned v'):=⟨rfl,rfl,hfr3.kind,fn,by rw[<-hfn,hfr3.fn],hresr⟩
     have ZS:Steps P (lone fr cs w) (lone {fr3 with defers:=[],mode:=.returning} cs w4):=
      st1.trans (st2.trans (st3.trans (.head st6 st7)))
     refine⟨.ret v',w4,μ4,s4.post.lists (fun i hi=>by simp[List.append_assoc]),.ret Wt,fun _=>⟨_,ZS,hfnE,YG⟩,fun c1 cs' e=> ?_⟩;subst e;exact ZS.trans (.one (step_leave_returned YG))
    ·rw[br i hi,XI hi,XI hi,a1 i hi];simp only[LP,List.not_mem_nil,false_or]
   ·cases h
  ·cases h
 ·cases h
def landU(a:Nat)(s:Option ST)(YU:List Nat)(wks keeps:List (Nat×KS))(fz:List Fz):Option (FuncId×Nat×Option Nat×OO×List Value×Qj×List Obj×List Prop):=match s with
 |some ⟨.at c H _,W,L⟩=>bif J5 a H W wks keeps fz && c.todo.all WU then
  match Hn c.mode,c.defers with
  |some o,[]=>match mH (oL H a (TC a (keeps.map (·.1))) fz 4) o,mI (oL H a (TC a (keeps.map (·.1))) fz 4) (YU.map (Xm c.tmps)),tT H a (TC a (keeps.map (·.1))) fz wks,PX H a (TC a (keeps.map (·.1))) fz keeps with
   |some (o1,L0),some (vs,L1),some (ws,L3),some (os,L2)=>some (c.fn,c.tmps.len,c.roundOf,o1,vs,ws,os,L0++(L1++(L3++(L2++L))))
   |_,_,_,_=>none
  |_,_=>none
   else none
 |_=>none
def FinU(P:Program)(B:Lo)(c0:CF)(Hb:Qj)(a:Nat)(out:OO)(live:List (Nat×Value))(ws:Qj)(os:List Obj)(Wf:List Nat):Prop:=
 ∃(d:Nat->Value) (td:List Item),GoE P B c0 Hb a ⟨c0.fn,Dz c0.tmps.len live d,td,[],tV out,c0.roundOf⟩ (Xs Hb a ws os) (a+1+os.length) Wf
theorem FinU.cast{out out1:OO}{live:List (Nat×Value)}{ws ws1:Qj}{os os1:List Obj}(h:FinU P B c0 Hb a out live ws os Wf)(e1:out=out1)(e2:ws=ws1)(e3:os=os1):FinU P B c0 Hb a out1 live ws1 os1 Wf:=e1 ▸ e2 ▸ e3 ▸ h
theorem GoE.landU(hF:∀g,F g=true->Q0 P g=true)(hJ:∀w,B.has w->J w)(X2:P.follows .mixedOrders=true){wks:List (Nat×KS)}(hu:Under Hb a)(hw:Writable Hb a (wks.map (·.1)))(h:GoE P B c0 Hb a c H n (wks.map (·.1))){fuel:Nat}{sc:Q2}{YU:List Nat}{keeps:List (Nat×KS)}{fz:List Fz}{out:OO}{vs:List Value}{ws:Qj}{os:List Obj}{L:List Prop}
 (e:CE.landU a (Qs P F J B fuel a c H n sc 0 [] []) YU wks keeps fz=some (c0.fn,c0.tmps.len,c0.roundOf,out,vs,ws,os,L)) (hL:Qw L) (hlen:LC c0.tmps.len 16000=true) (YQ:c0.roundOf=none):
 FinU P B c0 Hb a out (YU.zip vs) ws os (wks.map (·.1)):=by
 unfold CE.landU at e;split at e
 ·rename_i c' H' n' W' L' hs;cases hqq:(J5 a H' W' wks keeps fz && c'.todo.all WU)with
  |false=>rw[hqq]at e;cases e
  |true=>
   rw[hqq]at e;simp only[cond_true]at e;rw[YB]at hqq;obtain⟨hq,hplain⟩:=hqq;split at e
   ·rename_i o0 hoo hdf;split at e
    ·rename_i o1 L0 vs0 L1 ws0 L3 os0 L2 ho1 hvs hws hos;simp only[YO,YR]at e;obtain⟨e1,e2,e6,rfl,rfl,rfl,rfl,rfl⟩:=e;obtain⟨hL0,hLr⟩:=QS hL;obtain⟨hL1,hLr⟩:=QS hLr;obtain⟨hL3,hLr⟩:=QS hLr;obtain⟨hL2,hL4⟩:=QS hLr;obtain⟨R,W2,J2,hiff⟩:=Z1 hF hJ X2 fuel a c H n sc 0 [] [] _ h.under hs hL4;have hg:=(h.step J2).widen (Wf:=wks.map (·.1)) (fun i hi hm=>by
      rcases List.mem_append.1 hm with hm|hm
      ·exact hm
      ·have hi':i∈W':=(hiff i hi).2 (.inr hm);unfold J5 at hq;simp only[YB]at hq;simpa using List.all_eq_true.1 hq.1.1.1.1 i hi') hw
     have hd:∀t,∃d,X0 d/\∀μ v',VR μ (Xm c'.tmps t) v'->VR μ d v':=fun t=>UD _
     have wslt:∀i o,Qo ws0 i=some o->i<a:=fun i o ho=>by
      have hq':=hq;unfold J5 at hq';simp only[YB]at hq';have Jc:i∈wks.map (·.1):=Decidable.of_not_not fun e=>by
       have:=(bM wks ws0 L3 hws i).1.2 e;rw[this]at ho;cases ho
      obtain⟨k,hk,rfl⟩:=List.mem_map.1 Jc;exact YL (List.all_eq_true.1 hq'.1.1.1.2 k hk)
     have hmo:=Eo hoo;refine⟨fun t=>Classical.choose (hd t),c'.todo,Rm hu wslt,by omega,fun Z μ w fr cs Q5 hB hf Xr=> ?_⟩;obtain⟨fr',w',μ',hp,KM,ha,hb,ZS⟩:=hg.sem Z μ w fr cs Q5 hB hf Xr;obtain⟨μ1,im1,hco,Xu,W4,_⟩:=TN hu hw hg.under hq Q5 hf hp hws hos hL3 hL2;refine⟨fr',w',μ1,Xu,⟨by rw[KM.fn,e1], ?_,fun hpn=> ?_, ?_, ?_,KM.kind, ?_⟩,ha,hb,ZS⟩
     ·refine KM.tmps.merge e2 (YL hlen) (fun p hp v' hv=> ?_) fun t=>Classical.choose_spec (hd t)
      obtain⟨i,hi⟩:=List.getElem?_of_mem hp;rw[List.getElem?_zip_eq_some]at hi;obtain⟨hi1,hi2⟩:=hi;obtain⟨u,L',ha,hb,hc⟩:=(fo _ _ _ hvs).2 i p.2 hi2;rw[Lu,hi1]at ha;simp only[Lz,YO]at ha;subst ha;exact WY hco 4 _ _ _ _ hb (hc hL1) hv
     ·refine(KM.todo ?_).plain hplain;rw[hmo];unfold mH at ho1;split at ho1
      ·rfl
      ·split at ho1
       ·simp only[YO,YR]at ho1;obtain⟨rfl,_⟩:=ho1;cases hpn
       ·cases ho1
     ·have:=KM.defers;rw[hdf]at this;exact .of_empty this.empty
     ·have hm:=KM.mode;rw[hmo]at hm;show MR μ1 (tV _) fr'.mode;generalize fr'.mode=z at hm ⊢;unfold mH at ho1;split at ho1
      ·split at ho1
       ·simp only[YO,YR]at ho1;obtain⟨rfl,_⟩:=ho1;simp only[tV]at hm ⊢;cases hm;exact .ret
       ·cases ho1
      ·split at ho1
       ·rename_i hv2;simp only[YO,YR]at ho1;obtain⟨rfl,rfl⟩:=ho1;simp only[tV]at hm ⊢;cases hm with
        |Zj Wt=>exact .Zj (WY hco 4 _ _ _ _ hv2 hL0 Wt)
       ·cases ho1
     ·have:=KM.round;rw[e6,YQ]at this;show RoR μ1 c0.roundOf fr'.roundOf;rw[YQ];generalize fr'.roundOf=x at this ⊢;cases x with
      |none=>trivial
      |some x=>cases this
    ·cases e
   ·cases e
 ·cases e
theorem FrR.lowZ{Z:Bot}{μ μ0:Mu}{fr:Frame}(hμ:∀b,b<a->μ0 b=μ b)(hs:∀t,Jo a 4 (Xm c.tmps t)=true\/X0 (Xm c.tmps t))(hp:c.todo.all WU=true)(hd:c.defers=[])(hm:c.mode=.run)(hr:c.roundOf=none)(h:FrR Z μ c fr):FrR Z μ0 c fr:=by
 have hpans:c.mode.pans=false:=by rw[hm];rfl
 refine⟨h.fn,mB hμ hs h.tmps,fun _=>(h.todo hpans).plain hp, ?_, ?_,h.kind, ?_⟩
 ·have:=h.defers;rw[hd]at this ⊢;exact .of_empty this.empty
 ·have:=h.mode;rw[hm]at this ⊢;generalize fr.mode=ds at this ⊢;cases this;exact .run
 ·have:=h.round;rw[hr]at this ⊢;generalize fr.roundOf=x at this ⊢;cases x with
  |none=>trivial
  |some x=>cases this
theorem FinU.uj{out:OO}{live:List (Nat×Value)}{ws:Qj}{os:List Obj}(h:FinU P B c0 Hb a out live ws os Wf)(hub:Under Hb a)(hws:∀i o,Qo ws i=some o->i<a/\i∈Wf)(hWf:∀i∈Wf,i<a)(hs:∀t,Jo a 4 (Xm c0.tmps t)=true\/X0 (Xm c0.tmps t))(hp:c0.todo.all WU=true)(hd:c0.defers=[])(hm:c0.mode=.run)(hr:c0.roundOf=none)(hob:∀i o,Qo Hb i=some o->ui a o):
 UJ P B c0 Hb a out live ((ws++((a,QM)::QD (a+1) os))++Hb) (a+1+os.length) (Ld a) Wf:=by
 have hG:(ws++((a,QM)::QD (a+1) os))++Hb=Xs Hb a ws os:=by unfold Xs;simp
 rw[hG];obtain⟨d,td,h⟩:=h;refine⟨d,td,⟨by omega,fun i hi hw=> ?_,fun i hi=> ?_,fun i hi=>List.mem_range.2 (hWf i hi),fun i hi=>by have:=hWf i hi;omega⟩,fun S μ w fr cs Z Q5 hB hS hf Xr hR=> ?_⟩
 ·rw[VM];cases hg:Qo ws i with
  |some o=>exact absurd (hws i o hg).2 hw
  |none=>simp only;rw[if_neg (by omega),if_neg (by omega)]
 ·rw[VM];cases hg:Qo ws i with
  |some o=>have:=(hws i o hg).1;omega
  |none=>simp only;rw[if_neg (by omega),if_neg (by omega)]
 ·have hSeq:S=fun i=>i<a:=funext fun i=>propext ⟨hS i,fun hi=>hR i (List.mem_range.2 hi) hi⟩
  subst hSeq;let μc:Mu:=fun i=>if i<a then μ i else none
  have hμc:∀b,b<a->μc b=μ b:=fun b hb=>by show(if b<a then μ b else none)=μ b;rw[if_pos hb]
  have hokc:Ok B.B (fun i=>i<a) μc (Qo Hb) w:=by
   refine⟨fun i o hi hg hl=> ?_,fun i o im hi hg hl Q3=> ?_,fun i j oi oj x y hi hj UZ hg1 hg2 l1 l2 m1 m2 r1 r2=> ?_,fun i o hi hg hr=> ?_,fun i j oi oj x y z hi hj hg1 hg2 r1 l2 m1 m2 UH=> ?_⟩
   ·obtain⟨im,Q3,Zu⟩:=Q5.rel i o hi hg hl;exact⟨im,(hμc i hi).trans Q3,OR.low hμc (hob i o hg) Zu⟩
   ·exact Q5.low i o im hi hg hl ((hμc i hi).symm.trans Q3)
   ·exact Q5.inj i j oi oj x y hi hj UZ hg1 hg2 l1 l2 ((hμc i hi).symm.trans m1) ((hμc j hj).symm.trans m2) r1 r2
   ·obtain⟨im,Q3,hx⟩:=Q5.KI i o hi hg hr;exact⟨im,(hμc i hi).trans Q3,hx⟩
   ·exact Q5.sep i j oi oj x y z hi hj hg1 hg2 r1 l2 ((hμc i hi).symm.trans m1) ((hμc j hj).symm.trans m2) UH
  have hfc:∀i,a<=i->μc i=none:=fun i hi=>by show(if i<a then μ i else none)=none;rw[if_neg (by omega)]
  obtain⟨fr',w',μ',Xu,KM,hro',hfn',ZS⟩:=h.sem Z μc w fr cs hokc hB hfc (Xr.lowZ hμc hs hp hd hm hr);have W4:∀i,a+1+os.length<=i->μ' i=none:=fun i hi=>by rw[Xu.ext i (by omega)];exact hfc i (by omega)
  let μ2:Mu:=fun i=>if i<a+1+os.length then μ' i else μ i
  have hμ2:∀i,i<a+1+os.length->μ2 i=μ' i:=fun i hi=>by show(if i<a+1+os.length then μ' i else μ i)=μ' i;rw[if_pos hi]
  have ext2:Ext μ' μ2:=fun k im hk=>by
   rcases Ly k (a+1+os.length)with h1|h1
   ·rw[hμ2 k h1];exact hk
   ·rw[W4 k h1]at hk;cases hk
  have Slt:∀i,(i<a\/a<=i/\i<a+1+os.length)->i<a+1+os.length:=fun i h=>by omega
  refine⟨fr',w',μ2,⟨?_,by omega,fun i hi=> ?_,fun i hi hw=> ?_,Xu.grow,fun b hb hx=>Xu.frame b hb fun i hiW hi im Q3=>hx i hiW hi im ((hμc i hi).symm.trans Q3),fun i hiW hi=> ?_,fun i im o h1 h2 ho hl Q3=> ?_,fun i im o hc ho hr Q3 b x hx=> ?_,Xu.os,Xu.tape,Xu.output⟩,KM.mono ext2,hro',hfn',ZS⟩
  ·have ok:=Xu.ok;refine⟨fun i o hi hg hl=> ?_,fun i o im hi hg hl Q3=> ?_,fun i j oi oj x y hi hj UZ hg1 hg2 l1 l2 m1 m2 r1 r2=> ?_,fun i o hi hg hr=> ?_,fun i j oi oj x y z hi hj hg1 hg2 r1 l2 m1 m2 UH=> ?_⟩
   ·obtain⟨im,Q3,Zu⟩:=ok.rel i o hi hg hl;exact⟨im,(hμ2 i (Slt i hi)).trans Q3,Zu.keep ext2 rfl⟩
   ·exact ok.low i o im hi hg hl ((hμ2 i (Slt i hi)).symm.trans Q3)
   ·exact ok.inj i j oi oj x y hi hj UZ hg1 hg2 l1 l2 ((hμ2 i (Slt i hi)).symm.trans m1) ((hμ2 j (Slt j hj)).symm.trans m2) r1 r2
   ·obtain⟨im,Q3,hx⟩:=ok.KI i o hi hg hr;exact⟨im,(hμ2 i (Slt i hi)).trans Q3,hx⟩
   ·exact ok.sep i j oi oj x y z hi hj hg1 hg2 r1 l2 ((hμ2 i (Slt i hi)).symm.trans m1) ((hμ2 j (Slt j hj)).symm.trans m2) UH
  ·rcases Ly i a with h1|h1
   ·rw[hμ2 i (by omega),Xu.ext i (by omega),hμc i h1]
   ·show(if i<a+1+os.length then μ' i else μ i)=μ i;rw[if_neg (by omega)]
  ·exact Xu.keep i hi hw
  ·obtain⟨p,q,im,s,t⟩:=Xu.wr i hiW hi;exact⟨p,q,im,(hμc i hi).symm.trans s,t⟩
  ·obtain⟨p,q⟩:=Xu.fresh i im o h1 h2 ho hl ((hμ2 i h2).symm.trans Q3);exact⟨p,q.imp id fun⟨k,x,y,⟨XX,m,m2⟩,z⟩=>⟨k,x,y,⟨XX,(hμc k y).symm.trans m,m2⟩,z⟩⟩
  ·have QX:i<a+1+os.length:=by omega
   rcases Xu.rf i im o hc ho hr ((hμ2 i QX).symm.trans Q3) b x hx with e|⟨k,Vk,ko,p,q,r,s,t,u⟩|⟨k,p,q,⟨XX,m,m2⟩,z⟩
   ·exact .inl e
   ·exact .inr (.inl ⟨k,Vk,ko,p,q,r,s,(hμc k q).symm.trans t,u⟩)
   ·exact .inr (.inr ⟨k,p,q,⟨XX,(hμc k q).symm.trans m,m2⟩,z⟩)
theorem FinU.ujB{fn:FuncId}{len:Nat}{l:List Value}{todo:List Item}{out:OO}{live:List (Nat×Value)}{ws:Qj}{os:List Obj}{ex:List Nat}(h:FinU P B ⟨fn,ofList len l,todo,[],.run,none⟩ Hb a out live ws os Wf)(e:EP a l todo none Hb ws Wf ex=true)(hx:Dx a Hb ex):
 UJ P B ⟨fn,ofList len l,todo,[],.run,none⟩ Hb a out live ((ws++((a,QM)::QD (a+1) os))++Hb) (a+1+os.length) (Ld a) Wf:=by
 simp only[EP,YB]at e;obtain⟨e1,e2,e3,e4,e5,e6,e7,e8⟩:=e;have e8:=YL e8;refine h.uj (Qk e4) (fun i o ho=> ?_) (fun i hi=>YL (List.all_eq_true.1 e7 i hi)) (fun t=> ?_) e2 rfl rfl rfl (fun i o ho=> ?_)
 ·have:=List.all_eq_true.1 e6 _ (SU ho);simp only[YB]at this;exact⟨YL this.1,by simpa using this.2⟩
 ·simp only[Xm,ofList];rw[SQ _ _ _ _ (by omega)];split
  ·rename_i ht;have ht:t<l.length:=by omega
   refine .inl (List.all_eq_true.1 e1 _ ?_);rw[Nat.sub_zero,Li,LU ht];exact List.getElem_mem ht
  ·rw[Tri.get_lf];exact .inr (YD (by simp[Go.undef,af]))
 ·have:=List.all_eq_true.1 e5 _ (SU ho);simp only[Bool.or_eq_true]at this;rcases this with h1|h1
  ·exact km hx h1 ho
  ·exact sS h1
theorem GoE.endsTx{c0 c:CF}{H:Qj}{n:Nat}{s:Option ST}(hok0:F6 P B 1 c H n s)(h:GoE P B c0 Za 1 c H n []){fz:List Fz}{out:Value}{L:List Prop}
 (e:QW s fz=some (out,L)) (hL:Qw L):EndsT P B c0 out:=by
 unfold QW at e;split at e
 ·rename_i v H' n' W' L';cases hW:W'.isEmpty with
  |false=>rw[hW]at e;cases e
  |true=>
   rw[hW]at e;simp only[cond_true]at e;split at e
   ·rename_i t R2 L2 ZS;simp only[YO,YR]at e;obtain⟨rfl,rfl⟩:=e;obtain⟨hL2,hL1⟩:=QS hL;have hWe:W'=[]:=by simpa using hW
    subst hWe;obtain⟨R,W2,hfj,hiff⟩:=hok0 _ _ _ _ _ rfl hL1;intro μ w fr cs im Q5 hB hf Q3 Xr;obtain⟨XB,w',μ',hp,ho,he⟩:=h.fj hfj μ w fr cs Q5 hB hf Xr;have hnoW:∀i,i∈[]++W2->¬i<1:=fun i hi QX=>by
     have:=(hiff i QX).2 (by simpa using hi);simp at this
    have PU:Below w.heap.size w w':=⟨hp.os,hp.tape,hp.output,hp.grow,fun b hb=>hp.frame b hb fun i hi hl=>absurd hl (hnoW i hi)⟩
    cases ho with
    |ret Wt=>
     rename_i v';refine⟨v',w',PU, ?_,he⟩;have hu':Under H' n':=h.under.shape hfj.shape;have hle:=hp.le
     -- of what is looked at, all is there
     have Vd:∀r,(Qo H' r).isSome->r<1\/1<=r/\r<n':=fun r hr=>by
      have:r<n':=by
       cases hg:Qo H' r with
       |none=>rw[hg]at hr;cases hr
       |some o=>exact hu'.lt hg
      omega
     have hok2:Ok B.B (fun _=>True) μ' (Qo H') w':=
      ⟨fun i o _ ho=>hp.ok.rel i o (Vd i (by rw[ho];rfl)) ho,fun i o im _ ho=>hp.ok.low i o im (Vd i (by rw[ho];rfl)) ho,
       fun i j oi oj a b _ _ Jd Z0 Zz=>hp.ok.inj i j oi oj a b (Vd i (by rw[Z0];rfl)) (Vd j (by rw[Zz];rfl)) Jd Z0 Zz,
       fun i o _ ho=>hp.ok.KI i o (Vd i (by rw[ho];rfl)) ho,fun i j oi oj a b x _ _ Z0 Zz=>hp.ok.sep i j oi oj a b x (Vd i (by rw[Z0];rfl)) (Vd j (by rw[Zz];rfl)) Z0 Zz⟩
     refine(UL hok2 3 v v' t R2 L2 ZS hL2 (fun _ _=>trivial) Wt).mono fun b x hx=> ?_
     have hw:=ZU hx;unfold Ke at hx;split at hx
     ·rename_i hc;obtain⟨i,_,o,im2,hio,ZJ,VV⟩:=hc;have hi:=Vd i (by rw[hio];rfl);have old0:∀i,i<1->i=0:=fun i h=>by omega
      have keep0:Qo H' 0=some QM:=by
       rw[hp.keep 0 (by omega) fun e=>hnoW 0 e (by omega)];rfl
      have mu0:μ' 0=some im:=by rw[hp.ext 0 (by omega)];exact Q3
      have below:b<w.heap.size->im.fm b=some x->Ju im.fm w w' b=some x:=fun h1 h2=>by unfold Ju;rw[if_pos h1];exact h2
      have above:w.heap.size<=b->Ju im.fm w w' b=some x:=fun h1=>by unfold Ju;rw[if_neg (by omega)];exact hw
      have from0:im.fm b=some x->Ju im.fm w w' b=some x:=fun h=>by
       refine below ?_ h;exact KH Q5 (i:=0) (o:=QM) (show 0<1 by omega) rfl trivial Q3 h
      rcases VV with ⟨ZQ,UZ⟩|⟨hl,hb⟩
      ·cases hfx:im2.fm b with
       |none=>exact absurd hfx UZ
       |some y=>
        obtain⟨im3,him3,hf3⟩:=hp.ok.KI i o hi hio ZQ;rw[ZJ]at him3;cases him3;have:=hf3 b y hfx;rw[hw]at this;cases this;rcases hi with hi|hi
        ·rw[old0 i hi,mu0]at ZJ;cases ZJ;exact from0 hfx
        ·rcases hp.rf i im2 o (.inl hi) hio ZQ ZJ b x hfx with c|⟨k,Vk,ko,hk,_,hko,_,hkm,hkb⟩|⟨k,hk,hkn,_⟩
         ·exact above c
         ·rw[old0 k hk,Q3]at hkm;cases hkm;exact from0 hkb
         ·exact absurd hkn (hnoW k hk)
      ·rcases hi with hi|hi
       ·rw[old0 i hi,keep0]at hio;cases hio;exact hl.elim
       ·rcases(hp.fresh i im2 o hi.1 hi.2 hio hl ZJ).2 with c|⟨k,hk,hkn,_⟩
        ·exact above (by omega)
        ·exact absurd hkn (hnoW k hk)
     ·cases hx
   ·cases e
 ·cases e
theorem GoE.endsD{c0 c:CF}{H:Qj}{n:Nat}(hF:∀g,F g=true->Q0 P g=true)(hJ:∀w,B.has w->J w)(X2:P.follows .mixedOrders=true)(h:GoE P B c0 Za 1 c H n []){k:Nat}{o:OO}{live:List (Nat×Value)}{VQ:Qj}{n':Nat}{Wk:List Nat}{res:Value}{resR:List Nat}{fz:List Fz}{out:Value}{L:List Prop}
 (e:QW (pK P F J B k 1 c H n o live VQ n' Wk res resR) fz=some (out,L)) (hL:Qw L):EndsT P B c0 out:=GoE.endsTx (pJ hF hJ X2 h.under) h e hL
end
def Xx(n:Int):Nat:=2 ^ n.toNat
def Zx(a n:Int):Nat:=a.toNat >>> n.toNat
def WM(a b:Int):Nat:=a.toNat &&& b.toNat
theorem Kv{n:Int}(h1:n<=62):Xx n<=4611686018427387904:=by unfold Xx;exact Nat.le_trans (Nat.pow_le_pow_right (by decide) (show n.toNat<=62 by omega)) (by decide)
theorem D9{a n:Int}:Zx a n<=a.toNat:=by unfold Zx;rw[Nat.shiftRight_eq_div_pow];exact Nat.div_le_self _ _
theorem Dn{n:Int}(h1:n<=62):(2:Nat) ^ n.toNat<=2 ^ 62:=Nat.pow_le_pow_right (by decide) (by omega)
theorem kZ{P:Program}{t:TypeId}{yk:IntKind}{n:Int}(h0:0<=n)(h1:n<=62):Kd P .shl t (.int .i64 1) (.int yk n) (.int .i64 ((Xx n:Nat):Int)):=fun x y w=>by
 unfold Xx;have e:min n.toNat (IntKind.bits IntKind.i64)=n.toNat:=Nat.min_eq_left (by show n.toNat<=64;omega);have hp:=Dn h1;have e2:(2:Int) ^ n.toNat=((2 ^ n.toNat:Nat):Int):=by rw[Int.natCast_pow];rfl
 have e3:IntKind.wrap IntKind.i64 (1*2 ^ min n.toNat (IntKind.bits IntKind.i64))=((2 ^ n.toNat:Nat):Int):=by
  rw[e,Int.one_mul,e2];generalize 2 ^ n.toNat=z at *;exact eL (by omega) (by omega)
 have hn:¬n<0:=by omega
 simp only[eqGuard,binOp,Op.shift,hn,if_false,e3];simp
theorem SY{P:Program}{t:TypeId}{yk:IntKind}{a n:Int}(ha:0<=a)(h0:0<=n)(h1:n<=62):Kd P .shr t (.int .i64 a) (.int yk n) (.int .i64 ((Zx a n:Nat):Int)):=fun x y w=>by
 unfold Zx;obtain⟨b,rfl⟩:∃b:Nat,a=b:=⟨a.toNat,by omega⟩
 have e:min n.toNat (IntKind.bits IntKind.i64)=n.toNat:=Nat.min_eq_left (by show n.toNat<=64;omega);have e3:Int.fdiv (b:Int) (2 ^ min n.toNat (IntKind.bits IntKind.i64))=((((b:Int)).toNat >>> n.toNat:Nat):Int):=by
  rw[e,Int.fdiv_eq_ediv_of_nonneg _ (Int.le_of_lt (Int.pow_pos (by decide))),LK,Nat.shiftRight_eq_div_pow,Int.natCast_ediv,Int.natCast_pow];rfl
 have hn:¬n<0:=by omega
 simp only[eqGuard,binOp,Op.shift,hn,if_false,e3];simp
theorem m8{a:Int}(ha:0<=a):BitVec.ofInt (IntKind.bits IntKind.i64) a=BitVec.ofNat 64 a.toNat:=by
 obtain⟨b,rfl⟩:∃b:Nat,a=b:=⟨a.toNat,by omega⟩
 rw[LK];exact BitVec.ofInt_natCast 64 b
theorem SZ{P:Program}{t:TypeId}{a b:Int}(ha:0<=a)(ha2:a<=9223372036854775807)(hb:0<=b)(hb2:b<=9223372036854775807):Kd P .and t (.int .i64 a) (.int .i64 b) (.int .i64 ((WM a b:Nat):Int)):=fun x y w=>by
 unfold WM;have e:IntKind.wrap IntKind.i64 ((BitVec.toNat (BitVec.ofInt (IntKind.bits IntKind.i64) a &&& BitVec.ofInt (IntKind.bits IntKind.i64) b):Nat):Int)=((a.toNat &&& b.toNat:Nat):Int):=by
  rw[m8 ha,m8 hb];have e3:BitVec.toNat (BitVec.ofNat 64 a.toNat &&& BitVec.ofNat 64 b.toNat)=a.toNat &&& b.toNat:=by
   rw[BitVec.toNat_and,BitVec.toNat_ofNat,BitVec.toNat_ofNat,Nat.mod_eq_of_lt (a:=a.toNat) (by omega),Nat.mod_eq_of_lt (a:=b.toNat) (by omega)]
  show IntKind.wrap IntKind.i64 ((BitVec.toNat (BitVec.ofNat 64 a.toNat &&& BitVec.ofNat 64 b.toNat):Nat):Int)=_;rw[e3];have:=Nat.and_le_left (n:=a.toNat) (m:=b.toNat);exact eL (by omega) (by omega)
 simp only[eqGuard,binOp,Op.intBits,ne_eq,not_true_eq_false,if_false,e];simp
def AW{α:Type}(m:Nat)(e:α->List Value)(x:α):List Value:=(e x).map (Vp m)
def H4{α:Type}(e:α->List Value):Prop:=∀x,∀v∈e x,simple v=true\/VB v=true
section
variable {α:Type} {e:α->List Value} {m r j z:Nat} {rs:List (Nat×Nat)} {frs:List (Nat×Array Value)} {ow:List (Nat×Nat)} {xs:List α} {rsT:List Nat}
theorem qz(v:Value)(h:simple v=true\/VB v=true):(simple v=true/\Vp m v=v)\/(VB v=true/\Vp m v=Qn m v):=by
 unfold Vp;cases hs:simple v with
 |true=>exact .inl ⟨rfl,rfl⟩
 |false=>rw[hs]at h;exact .inr ⟨by simpa using h,rfl⟩
theorem wk{vs:List Value}{x:α}(h:AllX m rs frs ow vs (e x)):∀k:Nat,Jy m rs frs ow (Qm (fun(_:α)=>vs) (Lq k x)) (Qm e (Lq k x))
 |0=>trivial
 |k+1=>by
  unfold Jy Qm;simp only[List.replicate_succ,List.flatMap_cons];exact h.append (wk h k)
theorem Gu{a:Nat}{t:TypeId}{fl:Nat×Nat}(he:H4 e)(hm:m<a):ui a (.cells (Qm (AW m e) xs) t fl):=fun i v hv=>by
 have:v∈Qm (AW m e) xs:=LB hv;simp only[Qm,List.mem_toArray,List.mem_flatMap,AW,List.mem_map]at this;obtain⟨x,_,u,hu,rfl⟩:=this;rcases qz (m:=m) u (he x u hu)with ⟨h1,h2⟩|⟨h1,h2⟩
 ·rw[h2];exact .inl (fU h1)
 ·rw[h2];refine .inl ?_;show QH a (Qn m u)=true;have:Lk m a=true:=Lx hm;unfold QH;rw[show simple (Qn m u)=false from rfl,Bool.false_or];exact this
end
def Kf(zs:List Value)(_:Unit):List Value:=zs
theorem zp{zc:Array Value}{z n:Nat}(hz:zc.size=z)(h0:0<z):madeCells zc (n*z)=Qm (Kf zc.toList) (Lq n ()):=by
 have hl:∀x,(Kf zc.toList x).length=z:=fun x=>by simp[Kf,hz]
 refine Array.ext_getElem? fun i=> ?_
 by_cases hi:i<n*z
 ·have hk:i / z<n:=(Nat.div_lt_iff_lt_mul h0).2 hi;have hj:i % z<z:=Nat.mod_lt _ h0;have e:i / z*z+i % z=i:=by rw[Nat.mul_comm];exact Nat.div_add_mod i z
  have:=fY (e:=Kf zc.toList) (xs:=Lq n ()) hl (k:=i / z) (j:=i % z) (by simpa using hk) hj;rw[e]at this;rw[this];have hj':i % z<zc.size:=by rw[hz];exact hj
  simp only[madeCells,Array.getElem?_map,Array.getElem?_range,hi,if_true,Lz,hz,Kf];simp[hj']
 ·have a:(madeCells zc (n*z)).size=n*z:=size_madeCells _ _;have b:(Qm (Kf zc.toList) (Lq n ())).size=n*z:=by rw[Sw hl];simp
  rw[LR (by omega),LR (by omega)]
def Hp(P:Program)(t e z bytes:Nat)(zs:List Value):Bool:=match Yb P t with
 |some (.slice e')=>Le e' e && match inf P e with
  |some i=>match i.zero with
   |some zv=>Le i.size z && (Le i.bytes bytes && (Lk 0 z && (Le zv.cells.size z && (CV (z6 2) zv.cells.toList zs && zs.all simple))))
   |none=>false
  |none=>false
 |_=>false
theorem kV{P:Program}{t e z bytes:Nat}{zs:List Value}(h:Hp P t e z bytes zs=true){l:Int}{k k':IntKind}(h0:0<=l)(hb:bytes*l<=281474976710656)(hn:l<=9223372036854775807):
 Rf P t (.int k l) (.int k' l)=some (e,Qm (Kf zs) (Lq l.toNat ()),l.toNat,z):=by
 unfold Hp at h;split at h
 ·rename_i e' hu;split at h
  ·rename_i i hi;split at h
   ·rename_i zv hz;simp only[YB]at h;obtain⟨h1,h2,h3,h4,h5,h6,h7⟩:=h;have h1:=YE h1;have h2:=YE h2;have h3:=YE h3;have h4:0<z:=YL h4;have h5:=YE h5;have h6:=UE (VO 2) _ _ h6;subst h1 h2 h3;have e1:=zp (n:=l.toNat) h5 h4;rw[h6]at e1;have Vd:(madeCells zv.cells (l.toNat*i.size)).all simple=true:=by
     rw[e1,Array.all_eq_true'];intro v hv;simp only[Qm,List.mem_toArray,List.mem_flatMap,Kf]at hv;obtain⟨_,_,hv⟩:=hv;exact List.all_eq_true.1 h7 v hv
    simp only[Rf,hu,hi,hz,decide_eq_true h0,decide_eq_true hb,decide_eq_true hn,decide_eq_true (LJ l),Vd,Bool.and_self,cond_true];rw[e1]
   ·simp at h
  ·simp at h
 ·cases h
section
variable {α:Type} {e:α->List Value} {m z:Nat} {rs:List (Nat×Nat)} {frs:List (Nat×Array Value)} {ow:List (Nat×Nat)} {xs:List α}
theorem UF{zs:List Value}{x:α}(h:AllX m rs frs ow zs (e x)):∀k:Nat,Jy m rs frs ow (Qm (Kf zs) (Lq k ())) (Qm e (Lq k x))
 |0=>trivial
 |k+1=>by
  unfold Jy Qm;simp only[List.replicate_succ,List.flatMap_cons];exact AllX.append h (UF h k)
theorem J6(h:∀x,(e x).length=z){k z':Nat}(hk:k<xs.length){x:α}{cs:Array Value}(hc:cs=(e x).toArray)(hz:z'=z):0+k*z+z'<=(Qm e xs).size/\splice (Qm e xs) (0+k*z) cs=Qm e (xs.set k x):=by
 subst hz;rw[Lv];exact DB h hk hc
end
end Go.CE

noncomputable abbrev Go.CE.YP:Go.Program:=Go.Proofs.Try.prog
namespace Go.Proofs.Ytncjjangllkokaa
open Go Go.CE Go.RowKit
abbrev pA(b o:Nat):Value:=.pointer (some ⟨b,o,none⟩)
def J0:World->Prop:=fun _=>True
theorem XQ:∀w w':World,(∀b,b<w.heap.size->w'.heap[b]? =w.heap[b]?)->J0 w->J0 w':=fun _ _ _ _=>trivial
theorem Qd:YP.follows .mixedOrders=true:=by decide+kernel
theorem okF:∀g,Q0 YP g=true->Q0 YP g=true:=fun _ h=>h
end Go.Proofs.Ytncjjangllkokaa

namespace Go.CE
open Go Go.RowKit

section
variable {P:Program} {F:FuncId->Bool} {T:Tm} {o:Oper} {H:Qj} {n:Nat}
theorem r7{t e:TypeId}{x hi:Operand}{b off N z:Nat}{k:IntKind}{l:Int}(ho:o.op=.slice t x none (some hi) none)(hx:X8 T x=some (.pointer (some ⟨b,off,none⟩)))(hl:X8 T hi=some (.int k l))(hu:Yb P t=some (.array N e))(hz:ZM P e=some z)(hN:LC N maxLen=true)(h1:0<=l)(h2:l<=N):
 TL P F Xh (fun _ _ _=>none) T o H n=some ⟨.ret (.slice (some ⟨b,off,none⟩) l.toNat 0),H,n,[],[]⟩:=by
 have e1:uc N none (some (.int k l))=some (0,l.toNat):=by
  simp only[uc,zI,decide_eq_true h1,decide_eq_true h2,Bool.and_self,cond_true]
 have e4:Sj P t (.pointer (some ⟨b,off,none⟩)) none (some (.int k l))=some (.slice (some ⟨b,off,none⟩) l.toNat 0):=by
  simp only[Sj,hu,hz,e1,hN,cond_true,Nat.zero_mul,Nat.add_zero,Nat.sub_zero];cases Le N 0 <;> rfl
 have e5:YI P F (X8 T) o H n=some ⟨.val (.slice (some ⟨b,off,none⟩) l.toNat 0),H,n,[],[]⟩:=by
  unfold YI oK;simp only[ho,hx,zM,hl,e4,mkPure,Lz,List.all_nil,cond_true]
 unfold TL;simp only[ho,e5]
end
section
variable {P:Program} {F:FuncId->Bool} {T:Tm} {o:Oper} {H:Qj} {n:Nat}
theorem BZ{c:Call}{s x:Operand}{sv:Value}{t e:TypeId}{b off m s2 z by':Nat}{cs cs':Array Value}{te:TypeId}{f:Nat×Nat}(ho:o.op=.call c)(hc:c.callee=.builtin .append)(ha:c.args.toList=[s,x])(hat:c.argTypes.toList=[t,t])
 (hs:X8 T s=some sv) (hbn:Kl sv=true) (hx:X8 T x=some (.slice (some ⟨b,off,none⟩) m s2)) (hu:Yb P t=some (.slice e)) (hi:(inf P e).map (fun i=>(i.zero.map (·.cells.size),i.size,i.bytes))=some (some (z+1),z+1,by')) (hb:Qo H b=some (.cells cs te f)) (hn:b<n)
 (hq:0<m/\m<=maxLen/\m*by'<=140737488355328/\off+m*(z+1)<=cs.size/\ones (cs.extract off (off+m*(z+1)))=true/\cs.extract off (off+m*(z+1))=cs'):
 TL P F Xh (fun _ _ _=>none) T o H n=some ⟨.ret (.slice (some ⟨n,0,none⟩) m (z+1)),(n,.cells cs' e (0,0))::H,n+1,[b],[]⟩:=by
 obtain⟨h1,h2,h3,h4,h5,rfl⟩:=hq;cases hinf:inf P e with
 |none=>rw[hinf]at hi;cases hi
 |some i=>
  rw[hinf]at hi;simp only[Lz,YO,YR]at hi;obtain⟨i1,i2,i3⟩:=hi;cases hz:i.zero with
  |none=>rw[hz]at i1;cases i1
  |some zv=>
   rw[hz]at i1;simp only[Lz,YO]at i1;have eb:bare sv=.slice none 0 0:=by
    unfold Kl at hbn;split at hbn
    ·rfl
    ·rfl
    ·cases hbn
   have e4:ub P t t H n sv (.slice (some ⟨b,off,none⟩) m s2)=some ⟨.val (.slice (some ⟨n,0,none⟩) m (z+1)),(n,.cells (cs.extract off (off+m*(z+1))) e (0,0))::H,n+1,[b],[]⟩:=by
    have q1:Le zv.cells.size (z+1)=true:=by rw[i1];simp
    have q2:LC m maxLen=true:=Lx h2;have q3:LC (m*i.bytes) 140737488355328=true:=Lx (by rw[i3];exact h3);have q4:Lk 0 m=true:=Lx h1;have q5:LC (off+m*(z+1)) cs.size=true:=Lx h4;simp only[ub,eb,show Le t t=true by simp,cond_true,Vf,hu,hinf,hz,i2,Js,iU,hb,q5,h5,q1,q2,q3,q4,Lv,Bool.and_self,Re,Option.toList,Array.empty_append]
   have e5:YI P F (X8 T) o H n=some ⟨.val (.slice (some ⟨n,0,none⟩) m (z+1)),(n,.cells (cs.extract off (off+m*(z+1))) e (0,0))::H,n+1,[b],[]⟩:=by
    unfold YI oK;simp only[ho,hc,ha,hat,hs,hx,e4,List.all_cons,List.all_nil,show Lk b n=true from Lx hn,Bool.and_self,cond_true]
   unfold TL;simp only[ho,e5]
end
def Qh(fs:List Int)(k:Nat):Int:=fs.getD k 0
def u6(k:Nat)(x:Int):Nat->List Int->List Int
 |_,[]=>[]
 |j,f::l=>(if k=j then x else f)::u6 k x (j+1) l
theorem ah(k:Nat)(x:Int):∀(l:List Int) (j:Nat),(u6 k x j l).length=l.length
 |[],_=>rfl
 |_::l,j=>by simp[u6,ah k x l (j+1)]
theorem pB(k:Nat)(x:Int):∀(l:List Int) (j i:Nat),i<l.length->(u6 k x j l)[i]? =some (if k=j+i then x else l.getD i 0)
 |[],_,_,h=>by simp at h
 |f::l,j,0,_=>by simp[u6]
 |f::l,j,i+1,h=>by
  have:=pB k x l (j+1) i (by simpa using h);simp only[u6,List.getElem?_cons_succ,this,List.getD_cons_succ];rw[show j+1+i=j+(i+1)by omega]
theorem pc{cs:Array Value}{fs:List Int}{off i:Nat}(h:(cs.toList.drop off).take fs.length=fs.map (Value.int .i64))(hi:i<fs.length):cs[off+i]? =some (.int .i64 (fs.getD i 0)):=by
 have e:((cs.toList.drop off).take fs.length)[i]? =(fs.map (Value.int .i64))[i]? :=by rw[h]
 rw[LS hi,List.getElem?_drop,Lu,Lj]at e;rw[e];simp[Li,hi]
theorem Rd{cs:Array Value}{fs:List Int}{off k:Nat}(h:(cs.toList.drop off).take fs.length=fs.map (Value.int .i64))(hk:k<fs.length):cs[off+k*1]? =some (.int .i64 (Qh fs k)):=by
 rw[Nat.mul_one];exact pc h hk
theorem zm{l:List Int}:ones (Qm Xv l)=true:=by
 unfold ones;rw[Array.all_eq_true'];intro v hv;have:=XK (e:=Xv) (fun x v hv=>by simp[Xv]at hv;subst hv;rfl) v hv;cases v <;> first|rfl|cases this
theorem Fc{cs:Array Value}{fs:List Int}{off m:Nat}(h:(cs.toList.drop off).take fs.length=fs.map (Value.int .i64))(hm:m<=fs.length)(h0:0<fs.length):off+m*1<=cs.size/\ones (cs.extract off (off+m*1))=true/\cs.extract off (off+m*1)=Qm Xv (fs.take m):=by
 have Zc:off+fs.length<=cs.size:=by
  have e:=pc h (i:=fs.length-1) (by omega);have:=(Array.getElem?_eq_some_iff.1 e).1;omega
 rw[Nat.mul_one];have e:cs.extract off (off+m)=Qm Xv (fs.take m):=by
  apply Array.ext';rw[Array.toList_extract,List.extract_eq_drop_take,show off+m-off=m by omega];have e2:(cs.toList.drop off).take m=((cs.toList.drop off).take fs.length).take m:=by rw[List.take_take,Nat.min_eq_left hm]
  rw[e2,h,<-List.map_take];induction fs.take m with
  |nil=>rfl
  |cons x l ih=>rw[List.map_cons,ih];rfl
 exact⟨by omega,by rw[e];exact zm,e⟩
theorem Sl{cs:Array Value}{fs:List Int}{off k:Nat}(h:(cs.toList.drop off).take fs.length=fs.map (Value.int .i64))(hk:k<fs.length):cs.extract (off+k*1) (off+k*1+1)=#[.int .i64 (Qh fs k)]:=by
 have e:=Rd h hk;have hs:=(Array.getElem?_eq_some_iff.1 e).1;refine Array.ext_getElem? fun i=> ?_
 rw[LN];by_cases hi:i=0
 ·subst hi;rw[if_pos (by omega),Nat.add_zero,e];rfl
 ·rw[if_neg (by omega),LR (by simp;omega)]
theorem pQ{l:List Int}{k:Nat}(h:l.length<=4):Qh [l.getD 0 0,l.getD 1 0,l.getD 2 0,l.getD 3 0] k=l.getD k 0:=by
 match k with
 |0=>rfl
 |1=>rfl
 |2=>rfl
 |3=>rfl
 |k+4=>
  have e:l.getD (k+4) 0=0:=by rw[Li,Lw (by omega)];rfl
  rw[e];rfl
theorem cO{cs cs' vc:Array Value}{fs:List Int}{off k:Nat}{x:Int}(hv:vc=#[.int .i64 x])(h:(cs.toList.drop off).take fs.length=fs.map (Value.int .i64))(hk:k<fs.length)(hc:cs'.toList=cs.toList.take off++(u6 k x 0 fs).map (Value.int .i64)++cs.toList.drop (off+fs.length)):
 off+k*1+1<=cs.size/\splice cs (off+k*1) vc=cs':=by
 subst hv;have Zc:off+fs.length<=cs.size:=by
  have e:=pc h (i:=fs.length-1) (by omega);have:=(Array.getElem?_eq_some_iff.1 e).1;omega
 rw[Nat.mul_one];refine⟨by omega,Array.ext_getElem? fun i=> ?_⟩;rw[Ys (by simp;omega),<-Lj (xs:=cs'),hc];have l1:(cs.toList.take off).length=off:=by simp;omega
 by_cases h1:i<off
 ·rw[if_neg (by simp;omega),List.append_assoc,Lt (by omega),LS h1,Lj]
 ·rw[List.append_assoc,Lm (by omega),l1];by_cases h2:i-off<fs.length
  ·rw[Lt (by simp[ah];omega),Lu,pB k x fs 0 (i-off) h2];by_cases h3:i=off+k
   ·subst h3;rw[if_pos (by simp),if_pos (by omega)];simp
   ·rw[if_neg (by simp;omega),if_neg (by omega)];have e:=pc h h2;rw[show off+(i-off)=i by omega]at e;rw[e];rfl
  ·rw[if_neg (by simp;omega),Lm (by simp[ah];omega),List.getElem?_drop,List.length_map,ah,Lj];congr 1;omega
theorem tS{xs:List Int}{cs cs':Array Value}{off k r m:Nat}{e:Int->List Value}(he:∀x,e x=[.int .i64 x])(hm:m=xs.length)(h0:0<m)(hk:m<=k)(h:(cs.toList.drop off).take k=Lq k (Value.int .i64 0))(hz:off+k<=cs.size)
 (hc:cs'.toList=cs.toList.take off++((Ld k).map fun j=>Value.int .i64 (xs.getD j La))++cs.toList.drop (off+k)):
 0<m/\off+LL m k*1<=cs.size/\LL m k*1<=(Qm e xs).size/\((Qm e xs).all fun v=>simple v || VB v)=true/\ones (((Qm e xs).extract 0 (LL m k*1)).map (Vp r))=true/\splice cs off (((Qm e xs).extract 0 (LL m k*1)).map (Vp r))=cs':=by
 subst hm;have hmin:LL xs.length k*1=xs.length:=by rw[Nat.mul_one];exact Nat.min_eq_left hk
 have hrow:Qm e xs=(xs.map (Value.int .i64)).toArray:=by
  have:xs.flatMap e=xs.map (Value.int .i64):=by
   have:e=fun x=>[Value.int .i64 x]:=funext he
   rw[this];have h9:∀l:List Int,l.flatMap (fun x=>[Value.int .i64 x])=l.map (Value.int .i64):=fun l=>by
    induction l with
    |nil=>rfl
    |cons x l ih=>rw[List.flatMap_cons,ih];rfl
   exact h9 xs
  unfold Qm;rw[this]
 have Zc:(Qm e xs).size=xs.length:=by rw[hrow];simp
 have hext:((Qm e xs).extract 0 (LL xs.length k*1)).map (Vp r)=(xs.map (Value.int .i64)).toArray:=by
  rw[hmin,hrow];apply Array.ext_getElem?;intro i;rw[Array.getElem?_map,LN];by_cases hi:i<xs.length
  ·rw[if_pos (by simp;omega)];simp[hi,Vp,simple]
  ·rw[if_neg (by simp;omega)];simp[hi]
 rw[hext,hmin,Zc];refine⟨h0,by omega,Lr _, ?_, ?_,Array.ext_getElem? fun i=> ?_⟩
 ·rw[hrow];simp[simple]
 ·simp[ones,Value.oneCell']
 ·rw[Ys (by simp;omega),<-Lj (xs:=cs'),hc];have l1:(cs.toList.take off).length=off:=by simp;omega
  by_cases h1:i<off
  ·rw[if_neg (by simp;omega),List.append_assoc,Lt (by omega),LS h1,Lj]
  ·rw[List.append_assoc,Lm (by omega),l1];by_cases h2:i-off<k
   ·rw[Lt (by simp;omega),Lu,List.getElem?_range h2];by_cases h3:i-off<xs.length
    ·rw[if_pos (by simp;omega)];simp[h3,Li]
    ·rw[if_neg (by simp;omega)];have e2:((cs.toList.drop off).take k)[i-off]? =(Lq k (Value.int .i64 0))[i-off]? :=by rw[h]
     rw[LS h2,List.getElem?_drop,show off+(i-off)=i by omega,Lj,List.getElem?_replicate,if_pos h2]at e2;rw[e2];simp[Li,Lw (show xs.length<=i-off by omega)]
   ·rw[if_neg (by simp;omega),Lm (by simp;omega),List.getElem?_drop,Lj];congr 1;simp;omega
theorem FinK.wri{P:Program}{J:World->Prop}{g:FuncId}{args:Array Value}{c0:CF}{Hb ws:Qj}{a:Nat}{Wf:List Nat}{bs outs news:List Obj}{out:OO}(hc:Z6 P g args=some c0)(e1:Hb=dX bs)(e2:a=bs.length+1)(e3:ws=QD 1 outs)(e4:Wf=Ls 1 bs.length)
 (h:∀B:Lo,(∀w,B.has w->J w)->FinK P B c0 Hb a out ws news Wf):WriC P J g args bs out outs news:=fun B hJ μ w args' cs Q5 hB hf hv=>by
 subst e1 e2 e3 e4;obtain⟨XB,w',μ',hp,ho,_,he⟩:=h B hJ μ w _ cs Q5 hB hf (VD hc hv);rw[show bs.length+1+1+news.length=bs.length+2+news.length by omega]at hp;exact⟨XB,w',μ',hp,ho,he⟩
end Go.CE

namespace Go.Proofs.Ytncjjangllkokaa
open Go Go.CE Go.RowKit
noncomputable section
set_option maxRecDepth 100000
def Ug(x lo hi:Int):Bool:=decide (lo<=x) && decide (x<=hi)
theorem Jb{x lo hi:Int}:Ug x lo hi=true<->lo<=x/\x<=hi:=by simp[Ug]
structure Span where
 lo:Int
 hi:Int
deriving Inhabited
def Xf(s:Span):List Value:=[.int .i64 s.lo,.int .i64 s.hi]
abbrev J4(xs:List Span):Value:=QJ xs.length (Qm Xf xs)
def ZW(a b lo hi:Int):Bool:=decide (lo<=a) && (decide (a<=b) && decide (b<=hi))
theorem lE{a b lo hi:Int}:ZW a b lo hi=true<->lo<=a/\a<=b/\b<=hi:=by simp[ZW]
theorem cE{α:Type}[Inhabited α]{l:List α}{i:Int}{p:α->Bool}(h0:0<=i)(h:i<l.length):(l.drop i.toNat).all p=(p (l.getD i.toNat La) && (l.drop (i+1).toNat).all p):=by
 obtain⟨k,rfl⟩:∃k:Nat,i=k:=⟨i.toNat,by omega⟩
 have hk:k<l.length:=by omega
 have e1:((k:Int)).toNat=k:=by omega
 have e2:((k:Int)+1).toNat=k+1:=by omega
 rw[e1,e2,List.drop_eq_getElem_cons hk,List.all_cons];simp[Li,hk]
theorem mG{α:Type}{l:List α}{i:Int}{p:α->Bool}(h:l.length<=i):(l.drop i.toNat).all p=true:=by
 rw[List.drop_eq_nil_of_le (by omega)];rfl
theorem xo{p:Int->Bool}{a b:Int}(h:(pC a b).all p=true){k:Int}(h1:a<=k)(h2:k<b):p k=true:=by
 refine List.all_eq_true.1 h k ?_;unfold pC;exact List.mem_map.2 ⟨(k-a).toNat,List.mem_range.2 (by omega),by omega⟩
def Ji{α β:Type}(f:α->β)(x0:β)(xs:List α)(i:Int):List β:=(xs.take i.toNat).map f++Lq (xs.length-i.toNat) x0
theorem bK{α β:Type}{f:α->β}{x0:β}{xs:List α}:Lq xs.length x0=Ji f x0 xs 0:=by simp[Ji]
theorem Ph{α β:Type}{f:α->β}{x0:β}{xs:List α}{i:Int}:(Ji f x0 xs i).length=xs.length:=by simp[Ji];omega
theorem Pg{α β:Type}[Inhabited α]{f:α->β}{x0:β}{xs:List α}{i:Int}(h0:0<=i)(h:i<xs.length):(Ji f x0 xs i).set i.toNat (f (xs.getD i.toNat La))=Ji f x0 xs (i+1):=by
 obtain⟨k,rfl⟩:∃k:Nat,i=k:=⟨i.toNat,by omega⟩
 have hk:k<xs.length:=by omega
 have e1:((k:Int)).toNat=k:=by omega
 have e2:((k:Int)+1).toNat=k+1:=by omega
 unfold Ji;rw[e1,e2];have hl:((xs.take k).map f).length=k:=by simp;omega
 rw[List.set_append_right _ _ (by omega),hl,Nat.sub_self];have er:xs.length-k=(xs.length-(k+1))+1:=by omega
 rw[er,List.replicate_succ,List.set_cons_zero];have et:xs.take (k+1)=xs.take k++[xs[k]]:=by rw[List.take_succ_eq_append_getElem hk]
 rw[et,List.map_append,List.append_assoc];simp[Li,hk]
theorem Pj{α β:Type}{f:α->β}{x0:β}{xs:List α}{i:Int}(h:xs.length<=i):Ji f x0 xs i=xs.map f:=by
 unfold Ji;rw[List.take_of_length_le (by omega),show xs.length-i.toNat=0 by omega];simp
theorem Sv{β:Type}{e:β->List Value}{ys zs:List β}{n:Nat}(h:ys=zs)(hn:n=zs.length):QJ n (Qm e ys)=QJ zs.length (Qm e zs):=by subst h hn;rfl
def pI:List Int->Int
 |[]=>0
 |x::l=>x+pI l
def uC(B:Lo)(x lo hi:Int):List Prop:=[(!Zm x lo)=true]++([]:List Prop)
def Ae(x lo hi:Int):Q2:=[(3,VT)]
theorem FI(B:Lo)(x lo hi:Int):QW (Qs YP (Q0 YP) J0 B 6 1 (Qr YP 55 15 (([.int .i64 x,.int .i64 lo,.int .i64 hi]).map (Qy 0 4))) Za 1
 (Ae x lo hi++[(7,VT)]) 0 [] []) []=some (.bool true,
 [(!Zm hi x)=true]++uC B x lo hi):=by kernel_rfl
theorem FH(B:Lo)(x lo hi:Int):QW (Qs YP (Q0 YP) J0 B 6 1 (Qr YP 55 15 (([.int .i64 x,.int .i64 lo,.int .i64 hi]).map (Qy 0 4))) Za 1
 (Ae x lo hi++[(7,VI)]) 0 [] []) []=some (.bool false,
 [(!Zm hi x)=false]++uC B x lo hi):=by kernel_rfl
theorem FG(B:Lo)(x lo hi:Int):QW (Qs YP (Q0 YP) J0 B 6 1 (Qr YP 55 15 (([.int .i64 x,.int .i64 lo,.int .i64 hi]).map (Qy 0 4))) Za 1
 [(3,VI)] 0 [] []) []=some (.bool false,
 [(!Zm x lo)=false]):=by kernel_rfl
set_option maxHeartbeats 4000000 in
theorem GU(x lo hi:Int)  {B:Lo}(hJ:∀w,B.has w->J0 w):EndsT YP B (Qr YP 55 15 (([.int .i64 x,.int .i64 lo,.int .i64 hi]).map (Qy 0 4))) (.bool (Ug x lo hi)):=by
 by_cases q0:(lo:Int)<=(x)
 ·have WL:Qw (uC B x lo hi):=by
   exact⟨(UW q0),trivial⟩
  by_cases q1:(x:Int)<=(hi)
  ·exact(GoE.endsT okF hJ Qd GoE.start (FI B x lo hi)
    ⟨(UW q1),WL⟩).cast (by(simp[Ug, *];done))
  ·exact(GoE.endsT okF hJ Qd GoE.start (FH B x lo hi)
    ⟨(UX (Int.not_le.1 q1)),WL⟩).cast (by(simp[Ug, *];done))
 ·exact(GoE.endsT okF hJ Qd GoE.start (FG B x lo hi)
   ⟨(UX (Int.not_le.1 q0)),trivial⟩).cast (by(simp[Ug, *];done))
theorem lF(x lo hi:Int)  :Qx YP J0 55 #[.int .i64 x,.int .i64 lo,.int .i64 hi] (.bool (Ug x lo hi)):=
 Xn (ts:=[.int .i64 x,.int .i64 lo,.int .i64 hi]) XQ (c0:=Qr YP 55 15 (([.int .i64 x,.int .i64 lo,.int .i64 hi]).map (Qy 0 4))) (by kernel_rfl) (by kernel_rfl) fun B hJ=>GU x lo hi  hJ
def gf(B:Lo)(a b Zb:Int):List Prop:=[(!Zm a 0)=true]++([]:List Prop)
def pW(a b Zb:Int):Q2:=[(4,VT)]
def gd(B:Lo)(a b Zb:Int):List Prop:=[(!Zm b a)=true]++gf B a b Zb
def pV(a b Zb:Int):Q2:=pW a b Zb++[(10,VT)]
theorem Aj(B:Lo)(a b Zb:Int):QW (Qs YP (Q0 YP) J0 B 6 1 (Qr YP 56 21 (([.agg #[.int .i64 a,.int .i64 b],.int .i64 Zb]).map (Qy 0 4))) Za 1
 (pV a b Zb++[(16,VT)]) 0 [] []) []=some (.bool true,
 [(!Zm Zb b)=true]++gd B a b Zb):=by kernel_rfl
theorem Ai(B:Lo)(a b Zb:Int):QW (Qs YP (Q0 YP) J0 B 6 1 (Qr YP 56 21 (([.agg #[.int .i64 a,.int .i64 b],.int .i64 Zb]).map (Qy 0 4))) Za 1
 (pV a b Zb++[(16,VI)]) 0 [] []) []=some (.bool false,
 [(!Zm Zb b)=false]++gd B a b Zb):=by kernel_rfl
theorem Ah(B:Lo)(a b Zb:Int):QW (Qs YP (Q0 YP) J0 B 6 1 (Qr YP 56 21 (([.agg #[.int .i64 a,.int .i64 b],.int .i64 Zb]).map (Qy 0 4))) Za 1
 (pW a b Zb++[(10,VI)]) 0 [] []) []=some (.bool false,
 [(!Zm b a)=false]++gf B a b Zb):=by kernel_rfl
theorem Ag(B:Lo)(a b Zb:Int):QW (Qs YP (Q0 YP) J0 B 6 1 (Qr YP 56 21 (([.agg #[.int .i64 a,.int .i64 b],.int .i64 Zb]).map (Qy 0 4))) Za 1
 [(4,VI)] 0 [] []) []=some (.bool false,
 [(!Zm a 0)=false]):=by kernel_rfl
set_option maxHeartbeats 4000000 in
theorem DD(a b Zb:Int)  {B:Lo}(hJ:∀w,B.has w->J0 w):EndsT YP B (Qr YP 56 21 (([.agg #[.int .i64 a,.int .i64 b],.int .i64 Zb]).map (Qy 0 4))) (.bool (ZW a b 0 Zb)):=by
 by_cases q0:(0:Int)<=(a)
 ·have WL:Qw (gf B a b Zb):=by
   exact⟨(UW q0),trivial⟩
  by_cases q1:(a:Int)<=(b)
  ·have hp1:Qw (gd B a b Zb):=by
    exact⟨(UW q1),WL⟩
   by_cases q2:(b:Int)<=(Zb)
   ·exact(GoE.endsT okF hJ Qd GoE.start (Aj B a b Zb)
     ⟨(UW q2),hp1⟩).cast (by(simp[ZW, *];done))
   ·exact(GoE.endsT okF hJ Qd GoE.start (Ai B a b Zb)
     ⟨(UX (Int.not_le.1 q2)),hp1⟩).cast (by(simp[ZW, *];done))
  ·exact(GoE.endsT okF hJ Qd GoE.start (Ah B a b Zb)
    ⟨(UX (Int.not_le.1 q1)),WL⟩).cast (by(simp[ZW, *];done))
 ·exact(GoE.endsT okF hJ Qd GoE.start (Ag B a b Zb)
   ⟨(UX (Int.not_le.1 q0)),trivial⟩).cast (by(simp[ZW, *];done))
theorem lI(a b Zb:Int)  :Qx YP J0 56 #[.agg #[.int .i64 a,.int .i64 b],.int .i64 Zb] (.bool (ZW a b 0 Zb)):=
 Xn (ts:=[.agg #[.int .i64 a,.int .i64 b],.int .i64 Zb]) XQ (c0:=Qr YP 56 21 (([.agg #[.int .i64 a,.int .i64 b],.int .i64 Zb]).map (Qy 0 4))) (by kernel_rfl) (by kernel_rfl) fun B hJ=>DD a b Zb  hJ
def vz(B:Lo)(n lo hi:Int):List Prop:=[(!Zm n lo)=true]++([]:List Prop)
def BM(n lo hi:Int):Q2:=[(3,VT)]
theorem Gj(B:Lo)(n lo hi:Int):QW (Qs YP (Q0 YP) J0 B 6 1 (Qr YP 72 15 (([.int .i64 n,.int .i64 lo,.int .i64 hi]).map (Qy 0 4))) Za 1
 (BM n lo hi++[(7,VT)]) 0 [] []) []=some (.bool true,
 [(!Zm hi n)=true]++vz B n lo hi):=by kernel_rfl
theorem Gi(B:Lo)(n lo hi:Int):QW (Qs YP (Q0 YP) J0 B 6 1 (Qr YP 72 15 (([.int .i64 n,.int .i64 lo,.int .i64 hi]).map (Qy 0 4))) Za 1
 (BM n lo hi++[(7,VI)]) 0 [] []) []=some (.bool false,
 [(!Zm hi n)=false]++vz B n lo hi):=by kernel_rfl
theorem Gh(B:Lo)(n lo hi:Int):QW (Qs YP (Q0 YP) J0 B 6 1 (Qr YP 72 15 (([.int .i64 n,.int .i64 lo,.int .i64 hi]).map (Qy 0 4))) Za 1
 [(3,VI)] 0 [] []) []=some (.bool false,
 [(!Zm n lo)=false]):=by kernel_rfl
set_option maxHeartbeats 4000000 in
theorem Hk(n lo hi:Int)  {B:Lo}(hJ:∀w,B.has w->J0 w):EndsT YP B (Qr YP 72 15 (([.int .i64 n,.int .i64 lo,.int .i64 hi]).map (Qy 0 4))) (.bool (Ug n lo hi)):=by
 by_cases q0:(lo:Int)<=(n)
 ·have WL:Qw (vz B n lo hi):=by
   exact⟨(UW q0),trivial⟩
  by_cases q1:(n:Int)<=(hi)
  ·exact(GoE.endsT okF hJ Qd GoE.start (Gj B n lo hi)
    ⟨(UW q1),WL⟩).cast (by(simp[Ug, *];done))
  ·exact(GoE.endsT okF hJ Qd GoE.start (Gi B n lo hi)
    ⟨(UX (Int.not_le.1 q1)),WL⟩).cast (by(simp[Ug, *];done))
 ·exact(GoE.endsT okF hJ Qd GoE.start (Gh B n lo hi)
   ⟨(UX (Int.not_le.1 q0)),trivial⟩).cast (by(simp[Ug, *];done))
theorem uo(n lo hi:Int)  :Qx YP J0 72 #[.int .i64 n,.int .i64 lo,.int .i64 hi] (.bool (Ug n lo hi)):=
 Xn (ts:=[.int .i64 n,.int .i64 lo,.int .i64 hi]) XQ (c0:=Qr YP 72 15 (([.int .i64 n,.int .i64 lo,.int .i64 hi]).map (Qy 0 4))) (by kernel_rfl) (by kernel_rfl) fun B hJ=>Hk n lo hi  hJ
def Yk(xs:List Int)(lo hi:Int)(i:Int):List Value:=[.int .i64 lo,.int .i64 hi,Qn 1 (QJ xs.length (Qm Xv xs)),.int .i64 (↑xs.length:Int),.int .i64 i]
def WV(xs:List Int)(lo hi:Int)(i:Int):List Obj:=[]
def Yl:List Item:=([.code [1,0,1,0,0],.inLoop [1,0,1,0,0],.inBlock 0,.code [1,1]]).map (it (Q9 YP 74))
def zj(B:Lo)(c0:CF)(xs:List Int)(lo hi:Int)(i:Int):Prop:=∃dJ:Nat->Value,(∀t,X0 (dJ t))/\GoE YP B c0 Za 1 (Xl 74 21 (([1,2,9,10,11]:List Nat).zip (Yk xs lo hi i)) dJ Yl) (Xj (WV xs lo hi i)) (2+(WV xs lo hi i).length) []
def my(xs:List Int)(lo hi:Int)(i:Int):Array Value:=#[.int .i64 (xs.getD i.toNat La),.int .i64 lo,.int .i64 hi]
def cz(B:Lo)(xs:List Int)(lo hi:Int)(i:Int)(Qt:Nat->Value):List Prop:=[eJ i xs.length (Qm Xv xs) Try.t3.size #[.int .i64 (xs.getD i.toNat La)],Zm i (↑xs.length:Int)=true]++([]:List Prop)
def mz(xs:List Int)(lo hi:Int)(i:Int)(Qt:Nat->Value):Q2:=[(0,VT),(1,Ql.tidx i.toNat #[.int .i64 (xs.getD i.toNat La)])]
theorem zh(B:Lo)(xs:List Int)(lo hi:Int)(i:Int)(Qt:Nat->Value):landM (Qs YP (Q0 YP) J0 B 16 1 (Xl 74 21 (([1,2,9,10,11]:List Nat).zip (Yk xs lo hi i)) Qt Yl) (Xj (WV xs lo hi i)) (2+(WV xs lo hi i).length)
 (mz xs lo hi i Qt++[(7,Ql.pure (.bool true) []),(9,VU (i+1))]) 0 [] []) [1,2,9,10,11] [] []=some ⟨74,21,Yl,[],.run,none,Yk xs lo hi (i+1),WV xs lo hi (i+1),
 [wq (i+1)=i+1,Qw []/\Qx YP J0 72 (my xs lo hi i) (.bool true)]++cz B xs lo hi i Qt⟩:=by kernel_rfl
theorem zg(B:Lo)(xs:List Int)(lo hi:Int)(i:Int)(Qt:Nat->Value):QW (Qs YP (Q0 YP) J0 B 16 1 (Xl 74 21 (([1,2,9,10,11]:List Nat).zip (Yk xs lo hi i)) Qt Yl) (Xj (WV xs lo hi i)) (2+(WV xs lo hi i).length)
 (mz xs lo hi i Qt++[(7,Ql.pure (.bool false) [])]) 0 [] []) []=some (.bool false,
 [Qw []/\Qx YP J0 72 (my xs lo hi i) (.bool false)]++cz B xs lo hi i Qt):=by kernel_rfl
theorem zf(B:Lo)(xs:List Int)(lo hi:Int)(i:Int)(Qt:Nat->Value):QW (Qs YP (Q0 YP) J0 B 9 1 (Xl 74 21 (([1,2,9,10,11]:List Nat).zip (Yk xs lo hi i)) Qt Yl) (Xj (WV xs lo hi i)) (2+(WV xs lo hi i).length)
 [(0,VI)] 0 [] []) []=some (.bool true,
 [Zm i (↑xs.length:Int)=false]):=by kernel_rfl
theorem ze(B:Lo)(xs:List Int)(lo hi:Int):landM (Qs YP (Q0 YP) J0 B 7 1 (Qr YP 74 21 (([XA xs,.int .i64 lo,.int .i64 hi]).map (Qy 0 4))) Za 1
 [] 0 [] []) [1,2,9,10,11] [] []=some ⟨74,21,Yl,[],.run,none,Yk xs lo hi (0),WV xs lo hi (0),
 []⟩:=by kernel_rfl
set_option maxHeartbeats 4000000 in
theorem zi(xs:List Int)(lo hi:Int)  (X7:xs.length<=9223372036854775807){B:Lo}(hJ:∀w,B.has w->J0 w){c0:CF}:∀m:Nat,(∀(i:Int),xs.length-i.toNat=m->∀(h0:0<=i),zj B c0 xs lo hi i->EndsT YP B c0 (.bool ((xs.drop i.toNat).all (fun x=>Ug x lo hi)))):=by
 intro m0;induction m0 using LA with
 |_ m0 ih0=>
  intro i hm0 h0 ⟨Qt,KF,XW⟩;by_cases q0:(i:Int)<((↑xs.length:Int))
  ·have WL:Qw (cz B xs lo hi i Qt):=by
    exact⟨⟨by omega,by omega,(QT (z:=1) (fun _=>rfl) (by omega))⟩,⟨(XY q0),trivial⟩⟩
   cases q1:Ug (xs.getD i.toNat La) lo hi with
   |true=>
    exact((ih0 _ (by omega)) (i+1) rfl (by omega)
     (XW.landM okF hJ Qd (zh B xs lo hi i Qt)
     ⟨(Xq (by omega) (by omega)),⟨⟨trivial,(by have t_:=uo (xs.getD i.toNat La) (lo) (hi);rw[q1]at t_;exact t_)⟩,WL⟩⟩ (by kernel_rfl) (by kernel_rfl))).cast (by(rw[tN (i:=i)];(· simp_all);(· omega);(· omega)))
   |false=>
    exact(GoE.endsT okF hJ Qd XW (zg B xs lo hi i Qt)
     ⟨⟨trivial,(by have t_:=uo (xs.getD i.toNat La) (lo) (hi);rw[q1]at t_;exact t_)⟩,WL⟩).cast (by(rw[tN (i:=i)];(· simp_all);(· omega);(· omega)))
  ·exact(GoE.endsT okF hJ Qd XW (zf B xs lo hi i Qt)
    ⟨(XZ (Int.not_lt.1 q0)),trivial⟩).cast (by(rw[CW (i:=i)];(· simp_all);(· omega)))
set_option maxHeartbeats 4000000 in
theorem BV(xs:List Int)(lo hi:Int)  (X7:xs.length<=9223372036854775807){B:Lo}(hJ:∀w,B.has w->J0 w):EndsT YP B (Qr YP 74 21 (([XA xs,.int .i64 lo,.int .i64 hi]).map (Qy 0 4))) (.bool (xs.all (fun x=>Ug x lo hi))):=by
 exact((zi xs lo hi X7 hJ _) (0) rfl (by omega)
  (GoE.start.landM okF hJ Qd (ze B xs lo hi)
  trivial (by kernel_rfl) (by kernel_rfl))).cast (by rfl)
theorem BW(xs:List Int)(lo hi:Int)  :Qx YP J0 74 #[XA xs,.int .i64 lo,.int .i64 hi] (.bool (xs.all (fun x=>Ug x lo hi))):=
 VJ (ts:=[XA xs,.int .i64 lo,.int .i64 hi]) (xs.length<=9223372036854775807) (fun _ _ ht=>ht.ln (i:=0) rfl) XQ (c0:=Qr YP 74 21 (([XA xs,.int .i64 lo,.int .i64 hi]).map (Qy 0 4))) (by kernel_rfl) (by kernel_rfl) fun X7 B hJ=>BV xs lo hi  X7 hJ
def PL(B:Lo)(a b lo hi:Int):List Prop:=[(!Zm a lo)=true]++([]:List Prop)
def aY(a b lo hi:Int):Q2:=[(5,VT)]
def PK(B:Lo)(a b lo hi:Int):List Prop:=[(!Zm b a)=true]++PL B a b lo hi
def aX(a b lo hi:Int):Q2:=aY a b lo hi++[(11,VT)]
theorem nN(B:Lo)(a b lo hi:Int):QW (Qs YP (Q0 YP) J0 B 6 1 (Qr YP 114 24 (([.agg #[.int .i64 a,.int .i64 b],.int .i64 lo,.int .i64 hi]).map (Qy 0 4))) Za 1
 (aX a b lo hi++[(17,VT)]) 0 [] []) []=some (.bool true,
 [(!Zm hi b)=true]++PK B a b lo hi):=by kernel_rfl
theorem nM(B:Lo)(a b lo hi:Int):QW (Qs YP (Q0 YP) J0 B 6 1 (Qr YP 114 24 (([.agg #[.int .i64 a,.int .i64 b],.int .i64 lo,.int .i64 hi]).map (Qy 0 4))) Za 1
 (aX a b lo hi++[(17,VI)]) 0 [] []) []=some (.bool false,
 [(!Zm hi b)=false]++PK B a b lo hi):=by kernel_rfl
theorem nL(B:Lo)(a b lo hi:Int):QW (Qs YP (Q0 YP) J0 B 6 1 (Qr YP 114 24 (([.agg #[.int .i64 a,.int .i64 b],.int .i64 lo,.int .i64 hi]).map (Qy 0 4))) Za 1
 (aY a b lo hi++[(11,VI)]) 0 [] []) []=some (.bool false,
 [(!Zm b a)=false]++PL B a b lo hi):=by kernel_rfl
theorem nK(B:Lo)(a b lo hi:Int):QW (Qs YP (Q0 YP) J0 B 6 1 (Qr YP 114 24 (([.agg #[.int .i64 a,.int .i64 b],.int .i64 lo,.int .i64 hi]).map (Qy 0 4))) Za 1
 [(5,VI)] 0 [] []) []=some (.bool false,
 [(!Zm a lo)=false]):=by kernel_rfl
set_option maxHeartbeats 4000000 in
theorem r6(a b lo hi:Int)  {B:Lo}(hJ:∀w,B.has w->J0 w):EndsT YP B (Qr YP 114 24 (([.agg #[.int .i64 a,.int .i64 b],.int .i64 lo,.int .i64 hi]).map (Qy 0 4))) (.bool (ZW a b lo hi)):=by
 by_cases q0:(lo:Int)<=(a)
 ·have WL:Qw (PL B a b lo hi):=by
   exact⟨(UW q0),trivial⟩
  by_cases q1:(a:Int)<=(b)
  ·have hp1:Qw (PK B a b lo hi):=by
    exact⟨(UW q1),WL⟩
   by_cases q2:(b:Int)<=(hi)
   ·exact(GoE.endsT okF hJ Qd GoE.start (nN B a b lo hi)
     ⟨(UW q2),hp1⟩).cast (by(simp[ZW, *];done))
   ·exact(GoE.endsT okF hJ Qd GoE.start (nM B a b lo hi)
     ⟨(UX (Int.not_le.1 q2)),hp1⟩).cast (by(simp[ZW, *];done))
  ·exact(GoE.endsT okF hJ Qd GoE.start (nL B a b lo hi)
    ⟨(UX (Int.not_le.1 q1)),WL⟩).cast (by(simp[ZW, *];done))
 ·exact(GoE.endsT okF hJ Qd GoE.start (nK B a b lo hi)
   ⟨(UX (Int.not_le.1 q0)),trivial⟩).cast (by(simp[ZW, *];done))
theorem mn(a b lo hi:Int)  :Qx YP J0 114 #[.agg #[.int .i64 a,.int .i64 b],.int .i64 lo,.int .i64 hi] (.bool (ZW a b lo hi)):=
 Xn (ts:=[.agg #[.int .i64 a,.int .i64 b],.int .i64 lo,.int .i64 hi]) XQ (c0:=Qr YP 114 24 (([.agg #[.int .i64 a,.int .i64 b],.int .i64 lo,.int .i64 hi]).map (Qy 0 4))) (by kernel_rfl) (by kernel_rfl) fun B hJ=>r6 a b lo hi  hJ
def iP(a b Zb:Int):Array Value:=#[.agg #[.int .i64 a,.int .i64 b],.int .i64 0,.int .i64 Zb]
theorem vy(B:Lo)(a b Zb:Int):QW (Qs YP (Q0 YP) J0 B 6 1 (Qr YP 96 8 (([.agg #[.int .i64 a,.int .i64 b],.int .i64 Zb]).map (Qy 0 4))) Za 1
 [(4,Ql.pure (.bool true) [])] 0 [] []) []=some (.bool true,
 [Qw []/\Qx YP J0 114 (iP a b Zb) (.bool true)]):=by kernel_rfl
theorem vx(B:Lo)(a b Zb:Int):QW (Qs YP (Q0 YP) J0 B 6 1 (Qr YP 96 8 (([.agg #[.int .i64 a,.int .i64 b],.int .i64 Zb]).map (Qy 0 4))) Za 1
 [(4,Ql.pure (.bool false) [])] 0 [] []) []=some (.bool false,
 [Qw []/\Qx YP J0 114 (iP a b Zb) (.bool false)]):=by kernel_rfl
set_option maxHeartbeats 4000000 in
theorem yC(a b Zb:Int)  {B:Lo}(hJ:∀w,B.has w->J0 w):EndsT YP B (Qr YP 96 8 (([.agg #[.int .i64 a,.int .i64 b],.int .i64 Zb]).map (Qy 0 4))) (.bool (ZW a b 0 Zb)):=by
 cases q0:ZW a b 0 Zb with
 |true=>
  exact(GoE.endsT okF hJ Qd GoE.start (vy B a b Zb)
   ⟨⟨trivial,(by have t_:=mn (a) (b) (0) (Zb);rw[q0]at t_;exact t_)⟩,trivial⟩).cast (by rfl)
 |false=>
  exact(GoE.endsT okF hJ Qd GoE.start (vx B a b Zb)
   ⟨⟨trivial,(by have t_:=mn (a) (b) (0) (Zb);rw[q0]at t_;exact t_)⟩,trivial⟩).cast (by rfl)
theorem SI(a b Zb:Int)  :Qx YP J0 96 #[.agg #[.int .i64 a,.int .i64 b],.int .i64 Zb] (.bool (ZW a b 0 Zb)):=
 Xn (ts:=[.agg #[.int .i64 a,.int .i64 b],.int .i64 Zb]) XQ (c0:=Qr YP 96 8 (([.agg #[.int .i64 a,.int .i64 b],.int .i64 Zb]).map (Qy 0 4))) (by kernel_rfl) (by kernel_rfl) fun B hJ=>yC a b Zb  hJ
theorem BN(B:Lo)(a b:Int):QW (Qs YP (Q0 YP) J0 B 6 1 (Qr YP 77 5 (([.agg #[.int .i64 a,.int .i64 b]]).map (Qy 0 4))) Za 1
 [] 0 [] []) []=some (.int .i64 b,
 []):=by kernel_rfl
set_option maxHeartbeats 4000000 in
theorem En(a b:Int)  {B:Lo}(hJ:∀w,B.has w->J0 w):EndsT YP B (Qr YP 77 5 (([.agg #[.int .i64 a,.int .i64 b]]).map (Qy 0 4))) (.int .i64 b):=by
 exact(GoE.endsT okF hJ Qd GoE.start (BN B a b)
  trivial).cast (by rfl)
theorem Hl(a b:Int)  :Qx YP J0 77 #[.agg #[.int .i64 a,.int .i64 b]] (.int .i64 b):=
 Xn (ts:=[.agg #[.int .i64 a,.int .i64 b]]) XQ (c0:=Qr YP 77 5 (([.agg #[.int .i64 a,.int .i64 b]]).map (Qy 0 4))) (by kernel_rfl) (by kernel_rfl) fun B hJ=>En a b  hJ
theorem Em(B:Lo)(a b:Int):QW (Qs YP (Q0 YP) J0 B 6 1 (Qr YP 76 5 (([.agg #[.int .i64 a,.int .i64 b]]).map (Qy 0 4))) Za 1
 [] 0 [] []) []=some (.int .i64 a,
 []):=by kernel_rfl
set_option maxHeartbeats 4000000 in
theorem Gg(a b:Int)  {B:Lo}(hJ:∀w,B.has w->J0 w):EndsT YP B (Qr YP 76 5 (([.agg #[.int .i64 a,.int .i64 b]]).map (Qy 0 4))) (.int .i64 a):=by
 exact(GoE.endsT okF hJ Qd GoE.start (Em B a b)
  trivial).cast (by rfl)
theorem HN(a b:Int)  :Qx YP J0 76 #[.agg #[.int .i64 a,.int .i64 b]] (.int .i64 a):=
 Xn (ts:=[.agg #[.int .i64 a,.int .i64 b]]) XQ (c0:=Qr YP 76 5 (([.agg #[.int .i64 a,.int .i64 b]]).map (Qy 0 4))) (by kernel_rfl) (by kernel_rfl) fun B hJ=>Gg a b  hJ
theorem BK(B:Lo)(a r:Int):let b:=Lc (a*r) 1000;QW (Qs YP (Q0 YP) J0 B 6 1 (Qr YP 115 9 (([.int .i64 a,.int .i64 r]).map (Qy 0 4))) Za 1
 [(3,VU (a*r)),(4,VU b)] 0 [] []) []=some (.int .i64 b,
 [IntKind.wrap .i64 b=Lc (a*r) 1000,wq (a*r)=a*r]):=by intro b;kernel_rfl
set_option maxHeartbeats 4000000 in
theorem El(a r:Int)(ha:0<=a/\a<=1000000000000)(hr:0<=r/\r<=1000000){B:Lo}(hJ:∀w,B.has w->J0 w):EndsT YP B (Qr YP 115 9 (([.int .i64 a,.int .i64 r]).map (Qy 0 4))) (.int .i64 ((a*r).tdiv 1000)):=by
 have e0:0<=a*r:=LG ha.1 hr.1;have e1:a*r<=1000000000000*1000000:=LH ha.2 hr.2 hr.1 (by omega);have e2:(a*r).tdiv 1000=(a*r) / 1000:=LQ e0;exact(GoE.endsT okF hJ Qd GoE.start (BK B a r)
  ⟨(eL (by omega) (by omega)),⟨(Xq (by omega) (by omega)),trivial⟩⟩).cast (by rfl)
theorem BL(a r:Int)(ha:0<=a/\a<=1000000000000)(hr:0<=r/\r<=1000000):Qx YP J0 115 #[.int .i64 a,.int .i64 r] (.int .i64 ((a*r).tdiv 1000)):=
 Xn (ts:=[.int .i64 a,.int .i64 r]) XQ (c0:=Qr YP 115 9 (([.int .i64 a,.int .i64 r]).map (Qy 0 4))) (by kernel_rfl) (by kernel_rfl) fun B hJ=>El a r ha hr hJ
theorem ly(B:Lo)(a r:Int):let c:=.int .i64 (Lc (a*r) 1000);let b:=a+Lc (a*r) 1000;QW (Qs YP (Q0 YP) J0 B 6 1 (Qr YP 100 10 (([.int .i64 a,.int .i64 r]).map (Qy 0 4))) Za 1
 [(4,Ql.pure c []),(5,VU b)] 0 [] []) []=some (.int .i64 b,
 [wq b=a+Lc (a*r) 1000,Qw []/\Qx YP J0 115 #[.int .i64 a,.int .i64 r] c]):=by intro c b;kernel_rfl
set_option maxHeartbeats 4000000 in
theorem n9(a r:Int)(ha:0<=a/\a<=1000000000000)(hr:0<=r/\r<=1000000){B:Lo}(hJ:∀w,B.has w->J0 w):EndsT YP B (Qr YP 100 10 (([.int .i64 a,.int .i64 r]).map (Qy 0 4))) (.int .i64 (a+(a*r).tdiv 1000)):=by
 have e0:0<=a*r:=LG ha.1 hr.1;have e1:a*r<=1000000000000*1000000:=LH ha.2 hr.2 hr.1 (by omega);have e2:(a*r).tdiv 1000=(a*r) / 1000:=LQ e0;exact(GoE.endsT okF hJ Qd GoE.start (ly B a r)
  ⟨(Xq (by omega) (by omega)),⟨⟨trivial,BL (a) (r) (by with_reducible assumption) (by with_reducible assumption)⟩,trivial⟩⟩).cast (by rfl)
theorem uV(a r:Int)(ha:0<=a/\a<=1000000000000)(hr:0<=r/\r<=1000000):Qx YP J0 100 #[.int .i64 a,.int .i64 r] (.int .i64 (a+(a*r).tdiv 1000)):=
 Xn (ts:=[.int .i64 a,.int .i64 r]) XQ (c0:=Qr YP 100 10 (([.int .i64 a,.int .i64 r]).map (Qy 0 4))) (by kernel_rfl) (by kernel_rfl) fun B hJ=>n9 a r ha hr hJ
def dA(n:Int):Array Value:=#[.int .i64 n,.int .i64 0,.int .i64 1000000]
theorem r5(B:Lo)(n:Int):QW (Qs YP (Q0 YP) J0 B 6 1 (Qr YP 95 5 (([.int .i64 n]).map (Qy 0 4))) Za 1
 [(2,Ql.pure (.bool true) [])] 0 [] []) []=some (.bool true,
 [Qw []/\Qx YP J0 72 (dA n) (.bool true)]):=by kernel_rfl
theorem r4(B:Lo)(n:Int):QW (Qs YP (Q0 YP) J0 B 6 1 (Qr YP 95 5 (([.int .i64 n]).map (Qy 0 4))) Za 1
 [(2,Ql.pure (.bool false) [])] 0 [] []) []=some (.bool false,
 [Qw []/\Qx YP J0 72 (dA n) (.bool false)]):=by kernel_rfl
set_option maxHeartbeats 4000000 in
theorem vw(n:Int)  {B:Lo}(hJ:∀w,B.has w->J0 w):EndsT YP B (Qr YP 95 5 (([.int .i64 n]).map (Qy 0 4))) (.bool (Ug n 0 1000000)):=by
 cases q0:Ug n 0 1000000 with
 |true=>
  exact(GoE.endsT okF hJ Qd GoE.start (r5 B n)
   ⟨⟨trivial,(by have t_:=uo (n) (0) (1000000);rw[q0]at t_;exact t_)⟩,trivial⟩).cast (by rfl)
 |false=>
  exact(GoE.endsT okF hJ Qd GoE.start (r4 B n)
   ⟨⟨trivial,(by have t_:=uo (n) (0) (1000000);rw[q0]at t_;exact t_)⟩,trivial⟩).cast (by rfl)
theorem JL(n:Int)  :Qx YP J0 95 #[.int .i64 n] (.bool (Ug n 0 1000000)):=
 Xn (ts:=[.int .i64 n]) XQ (c0:=Qr YP 95 5 (([.int .i64 n]).map (Qy 0 4))) (by kernel_rfl) (by kernel_rfl) fun B hJ=>vw n  hJ
end
end Go.Proofs.Ytncjjangllkokaa

