/- TX 2: frames Yo defer a function Yo recovers. -/
import Derived.Test.YtncjjangllkokaaZRT10
import Derived.Test.YtncjjangllkokaaZRT07
import Derived.Test.YtncjjangllkokaaProg
set_option linter.all false
namespace Go.CE
open Go Go.RowKit

def ya:OO->CM
 | .ret _=>.ret
 | .Z6 v=>.Z6 v
def NW:OO->Value
 | .ret _=>.nilIface
 | .Z6 v=>v
def Of:CM->Option OO
 | .run=>none
 | .ret=>some (.ret (.tuple #[]))
 | .Z6 v=>some (.Z6 v)
theorem Lc{m:CM}{o:OO}(h:Of m=some o):m=ya o:=by
 cases m with
 |run=>cases h
 |ret=>cases h;rfl
 |Z6 v=>cases h;rfl
def GD(T:Tm):Tm:=ofList T.len ((List.range T.len).map (X7 T))
theorem GC{μ:Mu}{T:Tm}{A:Array Value}(hl:T.len<=16000)(h:TR μ T A):TR μ (GD T) A:=by
 refine⟨h.1,fun t=> ?_⟩;simp only[GD,X7,ofList];rw[a8 _ _ _ _ (by simp;omega)];split
 ·rename_i ht;have ht:t<T.len:=by simpa using ht
  have:=h.2 t;simp only[X7]at this;rw[Nat.sub_zero,List.getD_eq_getElem?_getD,List.getElem?_map,List.getElem?_range ht];exact this
 ·rename_i ht;have ht:T.len<=t:=by simpa using ht
  rw[Tri.get_lf];have hA:A.getD t undef=undef:=by
   rw[Array.getD_eq_getD_getElem?,Array.getElem?_eq_none (by rw[<-h.1];exact ht)];rfl
  rw[hA];exact VR.undef
structure OP where
 c:CF
 H:Qo
 n:Nat
 g:FuncId
 args:Array Value
 R:List Nat
 W:List Nat
noncomputable def Ew(P:Program)(F:FuncId->Bool)(c1:CF)(H:Qo)(n:Nat):Option OP:=
 match c1.mode,c1.todo,c1.defers,c1.roundOf with
 | .run,.code (.region _ ops false)::todo,[],none=>match tN P F Xq 0 ops c1 H n with
   |some s=>match s.o.op,s.post with
    | .defer c,[]=>match c.callee with
      | .value x=>match XW s.T x with
        |some (.func (.func g) xs ys)=>bif c.args.isEmpty && F g && Nat.ble s.T.len 16000 then some ⟨⟨c1.fn,GD (Vn s.T s.o.dst undef),todo,[],.run,none⟩,s.H,s.n,g,xs++ys,Kz s.Qw,VO s.Qw⟩else none
        |_=>none
      |_=>none
    |_,_=>none
   |none=>none
 |_,_,_,_=>none
def UJ(P:Program)(B:Lo)(c:CF)(H:Qo)(n:Nat)(out:OO)(live:List (Nat×Value))(H':Qo)(n':Nat)(R W:List Nat):Prop:=
 ∃(d:Nat->Value) (td:List Item),GoJ P B c H n ⟨c.fn,Ii c.tmps.len live d,td,[],ya out,c.roundOf⟩ H' n' R W
noncomputable def tM(P:Program)(F:FuncId->Bool)(J:World->Prop)(B:Lo)(k b:Nat)(c:CF)(H:Qo)(n:Nat)(out:OO)(live:List (Nat×Value))(Ux:Qo)(n':Nat)(Wk:List Nat)(res:Value)(resR:List Nat):Option ST:=
 match Qq P F J B k b c H n [] 0 [] []with
 |some ⟨.at c1 H1 n1,W1,L1⟩=>match Ew P F c1 H1 n1 with
  |some s=>match eD P F Xq 0 b s.g s.args (NW out) (Ux++s.H) n' [] (ZK b Wk (ZK b s.W W1))with
   |some m3=>some ⟨.fin (.ret res) m3.H m3.n,m3.W,UJ P B s.c s.H s.n out live (Ux++s.H) n' (List.range s.n) Wk::(∀d,kB P s.c.fn m3.H (Ii s.c.tmps.len live d)=some (res,resR))::L1⟩
   |none=>none
  |none=>none
 |_=>none
def M3(P:Program)(B:Lo)(b:Nat)(c:CF)(H:Qo)(n:Nat)(s:Option ST):Prop:=
 ∀out H' n' W' L',s=some ⟨.fin out H' n',W',L'⟩->Qz L'->∃R W2,FJ P B c H n out H' n' R W2/\∀i,i<b->(i∈W'<->i∈W2)
section
variable {P:Program} {F:FuncId->Bool} {J:World->Prop} {B:Lo} {c0 c:CF} {Hb H:Qo} {a n:Nat} {W Wf:List Nat}
theorem tO(hF:∀g,F g=true->Q3 P g=true)(XP:P.follows .mixedOrders=true){c1:CF}{H1:Qo}{n1:Nat}{s:OP}(hu:Under H1 n1)(h:Ew P F c1 H1 n1=some s):
 Shape H1 n1 s.H s.n s.R s.W/\Under s.H s.n/\F s.g=true/\s.c.fn=c1.fn/\s.c.roundOf=none/\s.c.defers=[]/\s.c.mode=.run/\
 ∀(S:Nat->Prop) (n N:Nat) (W:List Nat) (μ0 μ:Mu) (H0:Qo) (w0 w:World),Sofar B S n N W μ0 μ H0 H1 n1 w0 w->(∀i,S i->i<n)->s.n<=N->(∀i∈s.R,i<n->S i)->∀(Us:Frame) (cs:List Frame),FrR Bot.no μ c1 Us->
  ∃(xs' ys':Array Value) (fr2:Frame) (w':World) (μ':Mu),Sofar B S n N (W++s.W) μ0 μ' H0 s.H s.n w0 w'/\Ext μ μ'/\FrR ⟨[{target:=.fn (.func s.g) ys',args:=xs'}],.normal⟩ μ' s.c fr2/\fr2.fn=Us.fn/\VRs μ' s.args (xs'++ys')/\Steps P (lone Us cs w) (lone fr2 cs w'):=by
 unfold Ew at h;split at h
 ·rename_i id ops todo hmode1 htodo1 hds1 JH;split at h
  ·rename_i q hs;obtain⟨pre,e1,e2,e3,e4,e5,e6,e7,e8⟩:=S3 (B:=B) hF XP (QI P B) hu hs;split at h
   ·rename_i c Zb XC;split at h
    ·rename_i x hcal;split at h
     ·rename_i g xs ys hx;cases hca:(c.args.isEmpty && F g && Nat.ble q.T.len 16000)with
      |false=>rw[hca]at h;cases h
      |true=>
       rw[hca]at h;simp only[cond_true,YO]at h;subst h;simp only[YB]at hca;have hlenT:=YL hca.2;have sh2:=ZE q.Qw _ _ _ _ _ _ e4 e2;refine⟨sh2,e6,hca.1.2,rfl,rfl,rfl,rfl,fun S n N W μ0 μ H0 w0 w s1 hS hN hR Us cs U8=> ?_⟩;simp only at hN hR ⊢;have hro1:Us.roundOf=none:=by
        have:=U8.round;rw[JH]at this;generalize Us.roundOf=z at this ⊢;cases z with
        |none=>rfl
        |some z=>cases this
       obtain⟨ha,hb,hd⟩:=U8.running hmode1;rw[htodo1]at hd;obtain⟨L',hL,hL'⟩:=hd.code;have hd1:Us.defers=[]:=by
        have:=U8.defers;rw[hds1]at this;exact this.empty
       rw[XC]at e1;have hlen:ops.size=pre.length+(0+1):=by
        have:=congrArg List.length e1;simp at this;omega
       have hat:ops[pre.length]? =some q.o:=by
        rw[<-Array.getElem?_toList,e1,List.getElem?_append_right (Nat.le_refl _)];simp
       have hplen:q.Qw.length=pre.length:=by have:=congrArg List.length e5;simpa using this
       have hown1:∀(j:Nat) r,q.Qw[j]? =some r->ops[0+j]? =some r.o:=by
        intro j r hj;rw[Nat.zero_add];exact VZ (l:=ops.toList) (l2:=[q.o]) (by rw[e5];exact e1.symm) rfl j r hj
       obtain⟨A1,w2,μ2,s2,hT2,x2,st2⟩:=s1.seq hS e4 e2 e3 0 hown1 rfl hN hR ha hb (pre.length::List.range' (pre.length+1) 0) L' cs;have JZ:step P (lone Us cs w)=.next (lone (Xe Us Us.tmps ops (List.range' 0 ops.size) L') cs w):=ZP ha hL;rw[range_split hlen]at JZ;rw[hplen]at st2;have Uy:Region.wanted q.o (yielded ops A1)=true:=by rw[UF hT2];exact e8
       have hvx:=nY (fr:=Xe Us A1 ops (pre.length::List.range' (pre.length+1) 0) L') hT2 x _ hx;have hca':c.args=#[]:=by simpa[Array.isEmpty]using hca.1.1
       generalize hgx:(Xe Us A1 ops (pre.length::List.range' (pre.length+1) 0) L').eval x=ux at hvx;cases hvx with
       |func q1 q2 q3 q4=>
        rename_i xs' ys';have hdv:(Deferred.ofValue ((Xe Us A1 ops (pre.length::List.range' (pre.length+1) 0) L').eval x) (c.args.map (Xe Us A1 ops (pre.length::List.range' (pre.length+1) 0) L').eval)).run P w2=.ok {target:=.fn (.func g) ys',args:=xs'} w2:=by
         rw[hgx,hca'];simp[Deferred.ofValue]
        have st3:=step_defer (cs:=cs) (w:=w2) ha hro1 hat Uy Zb hcal hdv;rw[Ym hat]at st3;have hdst:=KH e7;have hT3:TR μ2 (Vn q.T q.o.dst undef) (putA A1 undef q.o.dst):=hT2.putA hdst VR.undef;have st4:step P (lone {Xe Us (putA A1 undef q.o.dst) ops (List.range' (pre.length+1) 0) L' with defers:={target:=.fn (.func g) ys',args:=xs'}::Us.defers} cs w2)=
         .next (lone {Us with tmps:=putA A1 undef q.o.dst,todo:=L',defers:={target:=.fn (.func g) ys',args:=xs'}::Us.defers} cs w2):=
         WX (fr:={Us with defers:={target:=.fn (.func g) ys',args:=xs'}::Us.defers}) (A:=putA A1 undef q.o.dst) (ops:=ops) (k:=L') ha
        have k1:VRs μ2 xs xs':=⟨q1,q3⟩
        have k2:VRs μ2 ys ys':=⟨q2,q4⟩
        refine⟨xs',ys',{Us with tmps:=putA A1 undef q.o.dst,todo:=L',defers:={target:=.fn (.func g) ys',args:=xs'}::Us.defers},w2,μ2,s2,x2,⟨U8.fn,GC (by rw[VS];exact hlenT) hT3,fun _=>hL'.mono x2,.of_empty (by simp[hd1]), ?_,U8.kind,by rw[<-JH];exact U8.round.mono x2⟩,rfl,k1.append k2,.head JZ (st2.trans (.head st3 (.one st4)))⟩;have:=U8.mode;rw[hmode1]at this;show MR μ2 .run Us.mode;generalize Us.mode=z at this ⊢;cases this;exact .run
     ·cases h
    ·cases h
   ·cases h
  ·cases h
 ·cases h
theorem tL(hF:∀g,F g=true->Q3 P g=true)(hJ:∀w,B.has w->J w)(XP:P.follows .mixedOrders=true){k b:Nat}{out:OO}{live:List (Nat×Value)}{Ux:Qo}{n':Nat}{Wk:List Nat}{res:Value}{resR:List Nat}(hu:Under H n):
 M3 P B b c H n (tM P F J B k b c H n out live Ux n' Wk res resR):=by
 intro o H' nz W' L' h ha;unfold tM at h;split at h
 ·rename_i c1 H1 n1 W1 L1 hs1;split at h
  ·rename_i s hs2;split at h
   ·rename_i m3 hm3;simp only[YO,ST.mk.injEq,SR.fin.injEq]at h;obtain⟨⟨rfl,rfl,rfl⟩,rfl,rfl⟩:=h;obtain⟨⟨d,td,hU⟩,hres,hL1⟩:=ha;have hres:=hres d;obtain⟨R1,W1',g1,a1⟩:=ZU hF hJ XP k b c H n [] 0 [] [] _ hu hs1 hL1;have g1:GoJ P B c H n c1 H1 n1 R1 W1':=g1;simp only at a1;have Sg:Under H1 n1:=hu.shape g1.shape;obtain⟨sh2,hu2,hFg,hfn2,hro2,hds2,hmode2,hsp⟩:=tO (B:=B) hF XP Sg hs2;have hu3:Under (Ux++s.H) n':=hu2.shape hU.shape;obtain⟨Rr,Wr,sh3,ar,br,hsem⟩:=cg (B:=B) hF XP (QI P B) hu3 hm3;have hu4:Under m3.H m3.n:=hu3.shape sh3;have KT:=((g1.shape.trans sh2).trans hU.shape).trans sh3;have l1:=g1.shape.le;have l2:=sh2.le;have l3:=hU.shape.le;have l4:=sh3.le;refine⟨(((R1++s.R)++List.range s.n)++Rr)++resR,((W1'++s.W)++Wk)++Wr,⟨⟨KT.le,KT.keep,KT.top,fun i hi=>List.mem_append_left _ (KT.sub i hi),KT.wlt⟩,fun S μ w fr cs QC hB hS hf hfr0 hR=> ?_⟩,fun i hi=> ?_⟩
    ·simp only[List.mem_append]at hR;have sf0:Sofar B S n m3.n [] μ μ H H n w w:=⟨Post.refl QC,hB,hf⟩
     obtain⟨Us,w1,μ1,s1,U8,hr1,hfn1,st1,x1⟩:=sf0.goj hS g1 (by omega) (fun i hi=>hR i (.inl (.inl (.inl (.inl hi))))) hfr0 cs;obtain⟨xs',ys',fr2,w2,μ2,s2,x2,hfr2,hfnq,hvargs,st2⟩:=hsp S n m3.n _ μ μ1 H w w1 s1 hS (by omega) (fun i hi=>hR i (.inl (.inl (.inl (.inr hi))))) Us cs U8;obtain⟨fr3,w3,μ3,s3,hfr3,hr3,hfn3,st3,x3⟩:=s2.goj hS hU (by omega) (fun i hi=>hR i (.inl (.inl (.inr hi)))) hfr2 cs;have hd3:fr3.defers=[{target:=.fn (.func s.g) ys',args:=xs'}]:=by
      have:=hfr3.defers;exact this.empty
     have hun:tq μ3 (NW out) {fr3 with defers:=[]}/\fr3.mode≠.run:=by
      have hm:=hfr3.mode;simp only at hm;generalize fr3.mode=q at hm ⊢;cases out with
      |ret v=>
       simp only[ya]at hm;cases hm;exact⟨.inl ⟨rfl,rfl⟩,fun e=>by cases e⟩
      |Z6 v=>
       simp only[ya]at hm;cases hm with
       |Z6 Vf=>exact⟨.inr ⟨_,Vf,rfl⟩,fun e=>by cases e⟩
     have st6:step P (lone fr3 cs w3)=.next (lone (Frame.enter P s.g (xs'++ys') .deferred) ({fr3 with defers:=[]}::cs) w3):=
      Jf hun.2 hd3 rfl (So (hF s.g hFg) _ w3)
     obtain⟨w4,μ4,s4,x4,st7⟩:=hsem S n m3.n _ μ μ3 H w w3 s3 hS (Nat.le_refl _) (fun i hi=>hR i (.inl (.inr hi))) _ {fr3 with defers:=[]} cs (hvargs.mono x3) hun.1
     obtain⟨fn,v',hfn,hresr,Vf⟩:=kA hu4 s4.post.ok (hfr3.tmps.mono x4) hres (fun i hi Xh=>by
      rcases Nat.lt_or_ge i n with h1|h1
      ·exact .inl (hR i (.inr hi) h1)
      ·exact .inr ⟨h1,Xh⟩)
     have hfnE:fr3.fn=fr.fn:=by rw[hfn3,hfnq,hfn1]
     have hro3:fr3.roundOf=none:=by
      have:=hfr3.round;simp only[hro2]at this;generalize fr3.roundOf=z at this ⊢;cases z with
      |none=>rfl
      |some z=>cases this
     have J3:({fr3 with defers:=[],mode:=.returning}:Frame).leaving P w4 (.returned v'):=⟨rfl,rfl,hfr3.kind,fn,by rw[<-hfn,hfr3.fn],hresr⟩
     have Z7:Steps P (lone fr cs w) (lone {fr3 with defers:=[],mode:=.returning} cs w4):=
      st1.trans (st2.trans (st3.trans (.head st6 st7)))
     refine⟨.ret v',w4,μ4,s4.post.lists (fun i hi=>by simp[List.append_assoc]),.ret Vf,fun _=>⟨_,Z7,hfnE,J3⟩,fun c1 cs' e=> ?_⟩;subst e;exact Z7.trans (.one (step_leave_returned J3))
    ·rw[br i hi,Zj hi,Zj hi,a1 i hi];simp only[List.mem_append,List.not_mem_nil,false_or]
   ·cases h
  ·cases h
 ·cases h
def landU(a:Nat)(s:Option ST)(JK:List Nat)(wks keeps:List (Nat×KS))(fz:List Fz):Option (FuncId×Nat×Option Nat×OO×List Value×Qo×List Obj×List Prop):=match s with
 |some ⟨.at c H _,W,L⟩=>bif P5 a H W wks keeps fz && c.todo.all V8 then
  match Of c.mode,c.defers with
  |some o,[]=>match qQ (sR H a (bp a (keeps.map (·.1))) fz 4) o,qS (sR H a (bp a (keeps.map (·.1))) fz 4) (JK.map (X7 c.tmps)),xY H a (bp a (keeps.map (·.1))) fz wks,Sm H a (bp a (keeps.map (·.1))) fz keeps with
   |some (o1,L0),some (vs,L1),some (ws,L3),some (os,L2)=>some (c.fn,c.tmps.len,c.roundOf,o1,vs,ws,os,L0++(L1++(L3++(L2++L))))
   |_,_,_,_=>none
  |_,_=>none
   else none
 |_=>none
def FinU(P:Program)(B:Lo)(c0:CF)(Hb:Qo)(a:Nat)(out:OO)(live:List (Nat×Value))(ws:Qo)(os:List Obj)(Wf:List Nat):Prop:=
 ∃(d:Nat->Value) (td:List Item),GoE P B c0 Hb a ⟨c0.fn,Ii c0.tmps.len live d,td,[],ya out,c0.roundOf⟩ (Z1 Hb a ws os) (a+1+os.length) Wf
theorem FinU.cast{out out1:OO}{live:List (Nat×Value)}{ws ws1:Qo}{os os1:List Obj}(h:FinU P B c0 Hb a out live ws os Wf)(e1:out=out1)(e2:ws=ws1)(e3:os=os1):FinU P B c0 Hb a out1 live ws1 os1 Wf:=e1 ▸ e2 ▸ e3 ▸ h
theorem GoE.landU(hF:∀g,F g=true->Q3 P g=true)(hJ:∀w,B.has w->J w)(XP:P.follows .mixedOrders=true){wks:List (Nat×KS)}(hu:Under Hb a)(hw:Writable Hb a (wks.map (·.1)))(h:GoE P B c0 Hb a c H n (wks.map (·.1))){fuel:Nat}{sc:Q5}{JK:List Nat}{keeps:List (Nat×KS)}{fz:List Fz}{out:OO}{vs:List Value}{ws:Qo}{os:List Obj}{L:List Prop}
 (e:CE.landU a (Qq P F J B fuel a c H n sc 0 [] []) JK wks keeps fz=some (c0.fn,c0.tmps.len,c0.roundOf,out,vs,ws,os,L)) (hL:Qz L) (hlen:Nat.ble c0.tmps.len 16000=true) (JH:c0.roundOf=none):
 FinU P B c0 Hb a out (JK.zip vs) ws os (wks.map (·.1)):=by
 unfold CE.landU at e;split at e
 ·rename_i c' H' n' W' L' hs;cases hqq:(P5 a H' W' wks keeps fz && c'.todo.all V8)with
  |false=>rw[hqq]at e;cases e
  |true=>
   rw[hqq]at e;simp only[cond_true]at e;rw[YB]at hqq;obtain⟨hq,hplain⟩:=hqq;split at e
   ·rename_i o0 hoo hdf;split at e
    ·rename_i o1 L0 vs0 L1 ws0 L3 os0 L2 ho1 hvs hws hos;simp only[YO,YR]at e;obtain⟨e1,e2,e6,rfl,rfl,rfl,rfl,rfl⟩:=e;obtain⟨hL0,hLr⟩:=Xc hL;obtain⟨hL1,hLr⟩:=Xc hLr;obtain⟨hL3,hLr⟩:=Xc hLr;obtain⟨hL2,hL4⟩:=Xc hLr;obtain⟨R,W2,J4,hiff⟩:=ZU hF hJ XP fuel a c H n sc 0 [] [] _ h.under hs hL4;have hg:=(h.step J4).widen (Wf:=wks.map (·.1)) (fun i hi hm=>by
      rcases List.mem_append.1 hm with hm|hm
      ·exact hm
      ·have hi':i∈W':=(hiff i hi).2 (.inr hm);unfold P5 at hq;simp only[YB]at hq;simpa using List.all_eq_true.1 hq.1.1.1.1 i hi') hw
     have hd:∀t,∃d,X6 d/\∀μ v',VR μ (X7 c'.tmps t) v'->VR μ d v':=fun t=>Ki _
     have wslt:∀i o,Qs ws0 i=some o->i<a:=fun i o ho=>by
      have hq':=hq;unfold P5 at hq';simp only[YB]at hq';have JZ:i∈wks.map (·.1):=Decidable.of_not_not fun e=>by
       have:=(dN wks ws0 L3 hws i).1.2 e;rw[this]at ho;cases ho
      obtain⟨k,hk,rfl⟩:=List.mem_map.1 JZ;exact YL (List.all_eq_true.1 hq'.1.1.1.2 k hk)
     have hmo:=Lc hoo;refine⟨fun t=>Classical.choose (hd t),c'.todo,Sx hu wslt,by omega,fun Z μ w fr cs QC hB hf X5=> ?_⟩;obtain⟨fr',w',μ',hp,Yu,ha,hb,Z7⟩:=hg.sem Z μ w fr cs QC hB hf X5;obtain⟨μ1,im1,hco,XC,Vl,_⟩:=bA hu hw hg.under hq QC hf hp hws hos hL3 hL2;refine⟨fr',w',μ1,XC,⟨by rw[Yu.fn,e1], ?_,fun hpn=> ?_, ?_, ?_,Yu.kind, ?_⟩,ha,hb,Z7⟩
     ·refine Yu.tmps.merge e2 (YL hlen) (fun p hp v' hv=> ?_) fun t=>Classical.choose_spec (hd t)
      obtain⟨i,hi⟩:=List.getElem?_of_mem hp;rw[List.getElem?_zip_eq_some]at hi;obtain⟨hi1,hi2⟩:=hi;obtain⟨u,L',ha,hb,hc⟩:=(jz _ _ _ hvs).2 i p.2 hi2;rw[List.getElem?_map,hi1]at ha;simp only[Option.map_some,YO]at ha;subst ha;exact VG hco 4 _ _ _ _ hb (hc hL1) hv
     ·refine(Yu.todo ?_).plain hplain;rw[hmo];unfold qQ at ho1;split at ho1
      ·rfl
      ·split at ho1
       ·simp only[YO,YR]at ho1;obtain⟨rfl,_⟩:=ho1;cases hpn
       ·cases ho1
     ·have:=Yu.defers;rw[hdf]at this;exact .of_empty this.empty
     ·have hm:=Yu.mode;rw[hmo]at hm;show MR μ1 (ya _) fr'.mode;generalize fr'.mode=z at hm ⊢;unfold qQ at ho1;split at ho1
      ·split at ho1
       ·simp only[YO,YR]at ho1;obtain⟨rfl,_⟩:=ho1;simp only[ya]at hm ⊢;cases hm;exact .ret
       ·cases ho1
      ·split at ho1
       ·rename_i hv2;simp only[YO,YR]at ho1;obtain⟨rfl,rfl⟩:=ho1;simp only[ya]at hm ⊢;cases hm with
        |Z6 Vf=>exact .Z6 (VG hco 4 _ _ _ _ hv2 hL0 Vf)
       ·cases ho1
     ·have:=Yu.round;rw[e6,JH]at this;show RoR μ1 c0.roundOf fr'.roundOf;rw[JH];generalize fr'.roundOf=x at this ⊢;cases x with
      |none=>trivial
      |some x=>cases this
    ·cases e
   ·cases e
 ·cases e
theorem FrR.lowZ{Z:Bot}{μ μ0:Mu}{fr:Frame}(hμ:∀b,b<a->μ0 b=μ b)(hs:∀t,Pp a 4 (X7 c.tmps t)=true\/X6 (X7 c.tmps t))(hp:c.todo.all V8=true)(hd:c.defers=[])(hm:c.mode=.run)(hr:c.roundOf=none)(h:FrR Z μ c fr):FrR Z μ0 c fr:=by
 have hpans:c.mode.pans=false:=by rw[hm];rfl
 refine⟨h.fn,qL hμ hs h.tmps,fun _=>(h.todo hpans).plain hp, ?_, ?_,h.kind, ?_⟩
 ·have:=h.defers;rw[hd]at this ⊢;exact .of_empty this.empty
 ·have:=h.mode;rw[hm]at this ⊢;generalize fr.mode=ds at this ⊢;cases this;exact .run
 ·have:=h.round;rw[hr]at this ⊢;generalize fr.roundOf=x at this ⊢;cases x with
  |none=>trivial
  |some x=>cases this
theorem FinU.uj{out:OO}{live:List (Nat×Value)}{ws:Qo}{os:List Obj}(h:FinU P B c0 Hb a out live ws os Wf)(hub:Under Hb a)(hws:∀i o,Qs ws i=some o->i<a/\i∈Wf)(hWf:∀i∈Wf,i<a)(hs:∀t,Pp a 4 (X7 c0.tmps t)=true\/X6 (X7 c0.tmps t))(hp:c0.todo.all V8=true)(hd:c0.defers=[])(hm:c0.mode=.run)(hr:c0.roundOf=none)(hob:∀i o,Qs Hb i=some o->yl a o):
 UJ P B c0 Hb a out live ((ws++((a,Xa)::QU (a+1) os))++Hb) (a+1+os.length) (List.range a) Wf:=by
 have hG:(ws++((a,Xa)::QU (a+1) os))++Hb=Z1 Hb a ws os:=by unfold Z1;simp
 rw[hG];obtain⟨d,td,h⟩:=h;refine⟨d,td,⟨by omega,fun i hi hw=> ?_,fun i hi=> ?_,fun i hi=>List.mem_range.2 (hWf i hi),fun i hi=>by have:=hWf i hi;omega⟩,fun S μ w fr cs Z QC hB hS hf X5 hR=> ?_⟩
 ·rw[Uq];cases hg:Qs ws i with
  |some o=>exact absurd (hws i o hg).2 hw
  |none=>simp only;rw[if_neg (by omega),if_neg (by omega)]
 ·rw[Uq];cases hg:Qs ws i with
  |some o=>have:=(hws i o hg).1;omega
  |none=>simp only;rw[if_neg (by omega),if_neg (by omega)]
 ·have hSeq:S=fun i=>i<a:=funext fun i=>propext ⟨hS i,fun hi=>hR i (List.mem_range.2 hi) hi⟩
  subst hSeq;let μc:Mu:=fun i=>if i<a then μ i else none
  have hμc:∀b,b<a->μc b=μ b:=fun b hb=>by show(if b<a then μ b else none)=μ b;rw[if_pos hb]
  have hokc:Ok B.B (fun i=>i<a) μc (Qs Hb) w:=by
   refine⟨fun i o hi hg hl=> ?_,fun i o im hi hg hl QF=> ?_,fun i j oi oj x y hi hj Kw hg1 hg2 l1 l2 m1 m2 r1 r2=> ?_,fun i o hi hg hr=> ?_,fun i j oi oj x y z hi hj hg1 hg2 r1 l2 m1 m2 Wc=> ?_⟩
   ·obtain⟨im,QF,ZL⟩:=QC.rel i o hi hg hl;exact⟨im,(hμc i hi).trans QF,OR.low hμc (hob i o hg) ZL⟩
   ·exact QC.low i o im hi hg hl ((hμc i hi).symm.trans QF)
   ·exact QC.inj i j oi oj x y hi hj Kw hg1 hg2 l1 l2 ((hμc i hi).symm.trans m1) ((hμc j hj).symm.trans m2) r1 r2
   ·obtain⟨im,QF,hx⟩:=QC.KL i o hi hg hr;exact⟨im,(hμc i hi).trans QF,hx⟩
   ·exact QC.sep i j oi oj x y z hi hj hg1 hg2 r1 l2 ((hμc i hi).symm.trans m1) ((hμc j hj).symm.trans m2) Wc
  have hfc:∀i,a<=i->μc i=none:=fun i hi=>by show(if i<a then μ i else none)=none;rw[if_neg (by omega)]
  obtain⟨fr',w',μ',XC,Yu,hro',hfn',Z7⟩:=h.sem Z μc w fr cs hokc hB hfc (X5.lowZ hμc hs hp hd hm hr);have Vl:∀i,a+1+os.length<=i->μ' i=none:=fun i hi=>by rw[XC.ext i (by omega)];exact hfc i (by omega)
  let μ2:Mu:=fun i=>if i<a+1+os.length then μ' i else μ i
  have hμ2:∀i,i<a+1+os.length->μ2 i=μ' i:=fun i hi=>by show(if i<a+1+os.length then μ' i else μ i)=μ' i;rw[if_pos hi]
  have ext2:Ext μ' μ2:=fun k im hk=>by
   rcases Nat.lt_or_ge k (a+1+os.length)with h1|h1
   ·rw[hμ2 k h1];exact hk
   ·rw[Vl k h1]at hk;cases hk
  have Slt:∀i,(i<a\/a<=i/\i<a+1+os.length)->i<a+1+os.length:=fun i h=>by omega
  refine⟨fr',w',μ2,⟨?_,by omega,fun i hi=> ?_,fun i hi hw=> ?_,XC.grow,fun b hb hx=>XC.frame b hb fun i hiW hi im QF=>hx i hiW hi im ((hμc i hi).symm.trans QF),fun i hiW hi=> ?_,fun i im o h1 h2 ho hl QF=> ?_,fun i im o hc ho hr QF b x hx=> ?_,XC.os,XC.tape,XC.output⟩,Yu.mono ext2,hro',hfn',Z7⟩
  ·have ok:=XC.ok;refine⟨fun i o hi hg hl=> ?_,fun i o im hi hg hl QF=> ?_,fun i j oi oj x y hi hj Kw hg1 hg2 l1 l2 m1 m2 r1 r2=> ?_,fun i o hi hg hr=> ?_,fun i j oi oj x y z hi hj hg1 hg2 r1 l2 m1 m2 Wc=> ?_⟩
   ·obtain⟨im,QF,ZL⟩:=ok.rel i o hi hg hl;exact⟨im,(hμ2 i (Slt i hi)).trans QF,ZL.keep ext2 rfl⟩
   ·exact ok.low i o im hi hg hl ((hμ2 i (Slt i hi)).symm.trans QF)
   ·exact ok.inj i j oi oj x y hi hj Kw hg1 hg2 l1 l2 ((hμ2 i (Slt i hi)).symm.trans m1) ((hμ2 j (Slt j hj)).symm.trans m2) r1 r2
   ·obtain⟨im,QF,hx⟩:=ok.KL i o hi hg hr;exact⟨im,(hμ2 i (Slt i hi)).trans QF,hx⟩
   ·exact ok.sep i j oi oj x y z hi hj hg1 hg2 r1 l2 ((hμ2 i (Slt i hi)).symm.trans m1) ((hμ2 j (Slt j hj)).symm.trans m2) Wc
  ·rcases Nat.lt_or_ge i a with h1|h1
   ·rw[hμ2 i (by omega),XC.ext i (by omega),hμc i h1]
   ·show(if i<a+1+os.length then μ' i else μ i)=μ i;rw[if_neg (by omega)]
  ·exact XC.keep i hi hw
  ·obtain⟨p,q,im,s,t⟩:=XC.wr i hiW hi;exact⟨p,q,im,(hμc i hi).symm.trans s,t⟩
  ·obtain⟨p,q⟩:=XC.fresh i im o h1 h2 ho hl ((hμ2 i h2).symm.trans QF);exact⟨p,q.imp id fun⟨k,x,y,⟨Zz,m,m2⟩,z⟩=>⟨k,x,y,⟨Zz,(hμc k y).symm.trans m,m2⟩,z⟩⟩
  ·have Xh:i<a+1+os.length:=by omega
   rcases XC.rf i im o hc ho hr ((hμ2 i Xh).symm.trans QF) b x hx with e|⟨k,VP,ko,p,q,r,s,t,u⟩|⟨k,p,q,⟨Zz,m,m2⟩,z⟩
   ·exact .inl e
   ·exact .inr (.inl ⟨k,VP,ko,p,q,r,s,(hμc k q).symm.trans t,u⟩)
   ·exact .inr (.inr ⟨k,p,q,⟨Zz,(hμc k q).symm.trans m,m2⟩,z⟩)
theorem FinU.ujB{fn:FuncId}{len:Nat}{l:List Value}{todo:List Item}{out:OO}{live:List (Nat×Value)}{ws:Qo}{os:List Obj}{ex:List Nat}(h:FinU P B ⟨fn,ofList len l,todo,[],.run,none⟩ Hb a out live ws os Wf)(e:LL a l todo none Hb ws Wf ex=true)(hx:Ig a Hb ex):
 UJ P B ⟨fn,ofList len l,todo,[],.run,none⟩ Hb a out live ((ws++((a,Xa)::QU (a+1) os))++Hb) (a+1+os.length) (List.range a) Wf:=by
 simp only[LL,YB]at e;obtain⟨e1,e2,e3,e4,e5,e6,e7,e8⟩:=e;have e8:=YL e8;refine h.uj (Q1 e4) (fun i o ho=> ?_) (fun i hi=>YL (List.all_eq_true.1 e7 i hi)) (fun t=> ?_) e2 rfl rfl rfl (fun i o ho=> ?_)
 ·have:=List.all_eq_true.1 e6 _ (aA ho);simp only[YB]at this;exact⟨YL this.1,by simpa using this.2⟩
 ·simp only[X7,ofList];rw[a8 _ _ _ _ (by omega)];split
  ·rename_i ht;have ht:t<l.length:=by omega
   refine .inl (List.all_eq_true.1 e1 _ ?_);rw[Nat.sub_zero,List.getD_eq_getElem?_getD,List.getElem?_eq_getElem ht];exact List.getElem_mem ht
  ·rw[Tri.get_lf];exact .inr (J1 (by simp[Go.undef,af]))
 ·have:=List.all_eq_true.1 e5 _ (aA ho);simp only[Bool.or_eq_true]at this;rcases this with h1|h1
  ·exact nF hx h1 ho
  ·exact xj h1
theorem GoE.endsTx{c0 c:CF}{H:Qo}{n:Nat}{s:Option ST}(hok0:M3 P B 1 c H n s)(h:GoE P B c0 XV 1 c H n []){fz:List Fz}{out:Value}{L:List Prop}
 (e:QQ s fz=some (out,L)) (hL:Qz L):EndsT P B c0 out:=by
 unfold QQ at e;split at e
 ·rename_i v H' n' W' L';cases hW:W'.isEmpty with
  |false=>rw[hW]at e;cases e
  |true=>
   rw[hW]at e;simp only[cond_true]at e;split at e
   ·rename_i t R2 L2 Z7;simp only[YO,YR]at e;obtain⟨rfl,rfl⟩:=e;obtain⟨hL2,hL1⟩:=Xc hL;have hWe:W'=[]:=by simpa using hW
    subst hWe;obtain⟨R,W2,hfj,hiff⟩:=hok0 _ _ _ _ _ rfl hL1;intro μ w fr cs im QC hB hf QF X5;obtain⟨XY,w',μ',hp,ho,he⟩:=h.fj hfj μ w fr cs QC hB hf X5;have hnoW:∀i,i∈[]++W2->¬i<1:=fun i hi Xh=>by
     have:=(hiff i Xh).2 (by simpa using hi);simp at this
    have Si:Below w.heap.size w w':=⟨hp.os,hp.tape,hp.output,hp.grow,fun b hb=>hp.frame b hb fun i hi hl=>absurd hl (hnoW i hi)⟩
    cases ho with
    |ret Vf=>
     rename_i v';refine⟨v',w',Si, ?_,he⟩;have hu':Under H' n':=h.under.shape hfj.shape;have hle:=hp.le
     -- of what is looked at, all is there
     have VJ:∀r,(Qs H' r).isSome->r<1\/1<=r/\r<n':=fun r hr=>by
      have:r<n':=by
       cases hg:Qs H' r with
       |none=>rw[hg]at hr;cases hr
       |some o=>exact hu'.lt hg
      omega
     have hok2:Ok B.B (fun _=>True) μ' (Qs H') w':=
      ⟨fun i o _ ho=>hp.ok.rel i o (VJ i (by rw[ho];rfl)) ho,fun i o im _ ho=>hp.ok.low i o im (VJ i (by rw[ho];rfl)) ho,
       fun i j oi oj a b _ _ Pa ZT ZS=>hp.ok.inj i j oi oj a b (VJ i (by rw[ZT];rfl)) (VJ j (by rw[ZS];rfl)) Pa ZT ZS,
       fun i o _ ho=>hp.ok.KL i o (VJ i (by rw[ho];rfl)) ho,fun i j oi oj a b x _ _ ZT ZS=>hp.ok.sep i j oi oj a b x (VJ i (by rw[ZT];rfl)) (VJ j (by rw[ZS];rfl)) ZT ZS⟩
     refine(Ko hok2 3 v v' t R2 L2 Z7 hL2 (fun _ _=>trivial) Vf).mono fun b x hx=> ?_
     have hw:=WI hx;unfold K0 at hx;split at hx
     ·rename_i hc;obtain⟨i,_,o,im2,hio,Wt,Uz⟩:=hc;have hi:=VJ i (by rw[hio];rfl);have old0:∀i,i<1->i=0:=fun i h=>by omega
      have keep0:Qs H' 0=some Xa:=by
       rw[hp.keep 0 (by omega) fun e=>hnoW 0 e (by omega)];rfl
      have mu0:μ' 0=some im:=by rw[hp.ext 0 (by omega)];exact QF
      have below:b<w.heap.size->im.fm b=some x->Px im.fm w w' b=some x:=fun h1 h2=>by unfold Px;rw[if_pos h1];exact h2
      have above:w.heap.size<=b->Px im.fm w w' b=some x:=fun h1=>by unfold Px;rw[if_neg (by omega)];exact hw
      have from0:im.fm b=some x->Px im.fm w w' b=some x:=fun h=>by
       refine below ?_ h;exact Yp QC (i:=0) (o:=Xa) (show 0<1 by omega) rfl trivial QF h
      rcases Uz with ⟨W9,Kw⟩|⟨hl,hb⟩
      ·cases hfx:im2.fm b with
       |none=>exact absurd hfx Kw
       |some y=>
        obtain⟨im3,him3,hf3⟩:=hp.ok.KL i o hi hio W9;rw[Wt]at him3;cases him3;have:=hf3 b y hfx;rw[hw]at this;cases this;rcases hi with hi|hi
        ·rw[old0 i hi,mu0]at Wt;cases Wt;exact from0 hfx
        ·rcases hp.rf i im2 o (.inl hi) hio W9 Wt b x hfx with c|⟨k,VP,ko,hk,_,hko,_,hkm,hkb⟩|⟨k,hk,hkn,_⟩
         ·exact above c
         ·rw[old0 k hk,QF]at hkm;cases hkm;exact from0 hkb
         ·exact absurd hkn (hnoW k hk)
      ·rcases hi with hi|hi
       ·rw[old0 i hi,keep0]at hio;cases hio;exact hl.elim
       ·rcases(hp.fresh i im2 o hi.1 hi.2 hio hl Wt).2 with c|⟨k,hk,hkn,_⟩
        ·exact above (by omega)
        ·exact absurd hkn (hnoW k hk)
     ·cases hx
   ·cases e
 ·cases e
theorem GoE.endsD{c0 c:CF}{H:Qo}{n:Nat}(hF:∀g,F g=true->Q3 P g=true)(hJ:∀w,B.has w->J w)(XP:P.follows .mixedOrders=true)(h:GoE P B c0 XV 1 c H n []){k:Nat}{o:OO}{live:List (Nat×Value)}{Ux:Qo}{n':Nat}{Wk:List Nat}{res:Value}{resR:List Nat}{fz:List Fz}{out:Value}{L:List Prop}
 (e:QQ (tM P F J B k 1 c H n o live Ux n' Wk res resR) fz=some (out,L)) (hL:Qz L):EndsT P B c0 out:=GoE.endsTx (tL hF hJ XP h.under) h e hL
end
def Vz(n:Int):Nat:=2 ^ n.toNat
def bk(a n:Int):Nat:=a.toNat >>> n.toNat
def tl(a b:Int):Nat:=a.toNat &&& b.toNat
theorem RN{n:Int}(h1:n<=62):Vz n<=4611686018427387904:=by unfold Vz;exact Nat.le_trans (Nat.pow_le_pow_right (by decide) (show n.toNat<=62 by omega)) (by decide)
theorem Ix{a n:Int}:bk a n<=a.toNat:=by unfold bk;rw[Nat.shiftRight_eq_div_pow];exact Nat.div_le_self _ _
theorem HS{n:Int}(h1:n<=62):(2:Nat) ^ n.toNat<=2 ^ 62:=Nat.pow_le_pow_right (by decide) (by omega)
theorem HT{P:Program}{t:TypeId}{yk:IntKind}{n:Int}(h0:0<=n)(h1:n<=62):oD P .shl t (.int .i64 1) (.int yk n) (.int .i64 ((Vz n:Nat):Int)):=fun x y w=>by
 unfold Vz;have e:min n.toNat (IntKind.bits IntKind.i64)=n.toNat:=Nat.min_eq_left (by show n.toNat<=64;omega);have hp:=HS h1;have e2:(2:Int) ^ n.toNat=((2 ^ n.toNat:Nat):Int):=by rw[Int.natCast_pow];rfl
 have e3:IntKind.wrap IntKind.i64 (1*2 ^ min n.toNat (IntKind.bits IntKind.i64))=((2 ^ n.toNat:Nat):Int):=by
  rw[e,Int.one_mul,e2];generalize 2 ^ n.toNat=z at *;exact Ty (by omega) (by omega)
 have hn:¬n<0:=by omega
 simp only[eqGuard,binOp,Op.shift,hn,if_false,e3];simp
theorem LW{P:Program}{t:TypeId}{yk:IntKind}{a n:Int}(ha:0<=a)(h0:0<=n)(h1:n<=62):oD P .shr t (.int .i64 a) (.int yk n) (.int .i64 ((bk a n:Nat):Int)):=fun x y w=>by
 unfold bk;obtain⟨b,rfl⟩:∃b:Nat,a=b:=⟨a.toNat,by omega⟩
 have e:min n.toNat (IntKind.bits IntKind.i64)=n.toNat:=Nat.min_eq_left (by show n.toNat<=64;omega);have e3:Int.fdiv (b:Int) (2 ^ min n.toNat (IntKind.bits IntKind.i64))=((((b:Int)).toNat >>> n.toNat:Nat):Int):=by
  rw[e,Int.fdiv_eq_ediv_of_nonneg _ (Int.le_of_lt (Int.pow_pos (by decide))),Int.toNat_natCast,Nat.shiftRight_eq_div_pow,Int.natCast_ediv,Int.natCast_pow];rfl
 have hn:¬n<0:=by omega
 simp only[eqGuard,binOp,Op.shift,hn,if_false,e3];simp
theorem qE{a:Int}(ha:0<=a):BitVec.ofInt (IntKind.bits IntKind.i64) a=BitVec.ofNat 64 a.toNat:=by
 obtain⟨b,rfl⟩:∃b:Nat,a=b:=⟨a.toNat,by omega⟩
 rw[Int.toNat_natCast];exact BitVec.ofInt_natCast 64 b
theorem LX{P:Program}{t:TypeId}{a b:Int}(ha:0<=a)(ha2:a<=9223372036854775807)(hb:0<=b)(hb2:b<=9223372036854775807):oD P .and t (.int .i64 a) (.int .i64 b) (.int .i64 ((tl a b:Nat):Int)):=fun x y w=>by
 unfold tl;have e:IntKind.wrap IntKind.i64 ((BitVec.toNat (BitVec.ofInt (IntKind.bits IntKind.i64) a &&& BitVec.ofInt (IntKind.bits IntKind.i64) b):Nat):Int)=((a.toNat &&& b.toNat:Nat):Int):=by
  rw[qE ha,qE hb];have e3:BitVec.toNat (BitVec.ofNat 64 a.toNat &&& BitVec.ofNat 64 b.toNat)=a.toNat &&& b.toNat:=by
   rw[BitVec.toNat_and,BitVec.toNat_ofNat,BitVec.toNat_ofNat,Nat.mod_eq_of_lt (a:=a.toNat) (by omega),Nat.mod_eq_of_lt (a:=b.toNat) (by omega)]
  show IntKind.wrap IntKind.i64 ((BitVec.toNat (BitVec.ofNat 64 a.toNat &&& BitVec.ofNat 64 b.toNat):Nat):Int)=_;rw[e3];have:=Nat.and_le_left (n:=a.toNat) (m:=b.toNat);exact Ty (by omega) (by omega)
 simp only[eqGuard,binOp,Op.intBits,ne_eq,not_true_eq_false,if_false,e];simp
def Zp{α:Type}(m:Nat)(e:α->List Value)(x:α):List Value:=(e x).map (ZA m)
def yj{α:Type}(e:α->List Value):Prop:=∀x,∀v∈e x,simple v=true\/W6 v=true
section
variable {α:Type} {e:α->List Value} {m r j z:Nat} {rs:List (Nat×Nat)} {K1:List (Nat×Array Value)} {ow:List (Nat×Nat)} {xs:List α} {rsT:List Nat}
theorem Wi(h:∀x,(e x).all (fun v=>simple v || W6 v)=true):yj e:=fun x v hv=>by
 have:=List.all_eq_true.1 (h x) v hv;simpa using this
theorem JO(v:Value)(h:simple v=true\/W6 v=true):(simple v=true/\ZA m v=v)\/(W6 v=true/\ZA m v=Qt m v):=by
 unfold ZA;cases hs:simple v with
 |true=>exact .inl ⟨rfl,rfl⟩
 |false=>rw[hs]at h;exact .inr ⟨by simpa using h,rfl⟩
theorem AM(he:yj e)(hm:(r,j)∈rs)(x:α):AllX m rs K1 ow (Zp r e x) (Zp j e x):=by
 have key:∀l:List Value,(∀v∈l,simple v=true\/W6 v=true)->AllX m rs K1 ow (l.map (ZA r)) (l.map (ZA j)):=by
  intro l;induction l with
  |nil=>intro _;trivial
  |cons v l ih=>
   intro h;refine⟨?_,ih fun u hu=>h u (List.mem_cons_of_mem _ hu)⟩;show iB m rs K1 ow (ZA r v) (ZA j v);rcases JO (m:=r) v (h v (by simp))with ⟨a,b⟩|⟨a,b⟩ <;> rcases JO (m:=j) v (h v (by simp))with ⟨c,d⟩|⟨c,d⟩
   ·rw[b,d];exact .simple a
   ·rw[b];unfold ZA;rw[a];exact .simple a
   ·rw[d];unfold ZA;rw[c];exact .simple c
   ·rw[b,d];exact .KL hm a
 exact key _ (he x)
theorem A6{e1 e2:α->List Value}(h:∀x,AllX m rs K1 ow (e1 x) (e2 x)):XX m rs K1 ow (Qg e1 xs) (Qg e2 xs):=by
 unfold XX Qg;simp only;induction xs with
 |nil=>trivial
 |cons x xs ih=>simp only[List.flatMap_cons];exact(h x).append ih
theorem Z8(he:yj e)(hm:(r,j)∈rs):XX m rs K1 ow (Qg (Zp r e) xs) (Qg (Zp j e) xs):=A6 (AM he hm)
theorem iq{cs:Array Value}{vs:List Value}{x:α}(h:XX m rs K1 ow cs (Qg e xs))(hx:AllX m rs K1 ow vs (e x)):XX m rs K1 ow (cs++vs.toArray) (Qg e (xs++[x])):=by
 unfold XX at h ⊢;rw[<-WY];simp only[Array.toList_append];exact AllX.append h hx
theorem ot{vs:List Value}{x:α}(hx:AllX m rs K1 ow vs (e x)):XX m rs K1 ow vs.toArray (Qg e [x]):=by
 unfold XX Qg;simpa using hx
theorem A7{vs:List Value}{x:α}(h:AllX m rs K1 ow vs (e x)):∀k:Nat,XX m rs K1 ow (Qg (fun(_:α)=>vs) (List.replicate k x)) (Qg e (List.replicate k x))
 |0=>trivial
 |k+1=>by
  unfold XX Qg;simp only[List.replicate_succ,List.flatMap_cons];exact h.append (A7 h k)
theorem Sn(he:yj e)(hm:m∈rsT):Zu rsT (Qg (Zp m e) xs) (Qg e xs):=by
 have key:∀l:List Value,(∀v∈l,simple v=true\/W6 v=true)->∀(i:Nat) v v1,(l.map (ZA m))[i]? =some v->l[i]? =some v1->oB rsT v v1:=by
  intro l h i v v1 h1 h2;rw[List.getElem?_map,h2]at h1;simp only[Option.map_some,YO]at h1;subst h1;rcases JO (m:=m) v1 (h v1 (List.mem_of_getElem? h2))with ⟨a,b⟩|⟨a,b⟩
  ·exact .inl ⟨by rw[b];exact a,b.symm⟩
  ·exact .inr ⟨m,hm,b,a⟩
 have e0:Qg (Zp m e) xs=((xs.flatMap e).map (ZA m)).toArray:=by
  unfold Qg Zp;rw[List.map_flatMap]
 refine⟨by rw[e0];simp[Qg],fun i v v1 h1 h2=> ?_⟩;rw[e0]at h1;refine key (xs.flatMap e) (fun v hv=> ?_) i v v1 (by simpa using h1) (by simpa[Qg]using h2);obtain⟨x,_,hx⟩:=List.mem_flatMap.1 hv;exact he x v hx
theorem nG{a:Nat}{t:TypeId}{fl:Nat×Nat}(he:yj e)(hm:m<a):yl a (.cells (Qg (Zp m e) xs) t fl):=fun i v hv=>by
 have:v∈Qg (Zp m e) xs:=Array.mem_of_getElem? hv;simp only[Qg,List.mem_toArray,List.mem_flatMap,Zp,List.mem_map]at this;obtain⟨x,_,u,hu,rfl⟩:=this;rcases JO (m:=m) u (he x u hu)with ⟨h1,h2⟩|⟨h1,h2⟩
 ·rw[h2];exact .inl (ku h1)
 ·rw[h2];refine .inl ?_;show QR a (Qt m u)=true;have:Nat.blt m a=true:=Nat.ble_eq_true_of_le hm;unfold QR;rw[show simple (Qt m u)=false from rfl,Bool.false_or];exact this
end
def U0(zs:List Value)(_:Unit):List Value:=zs
theorem D3{zc:Array Value}{z n:Nat}(hz:zc.size=z)(h0:0<z):madeCells zc (n*z)=Qg (U0 zc.toList) (List.replicate n ()):=by
 have hl:∀x,(U0 zc.toList x).length=z:=fun x=>by simp[U0,hz]
 refine Array.ext_getElem? fun i=> ?_
 by_cases hi:i<n*z
 ·have hk:i / z<n:=(Nat.div_lt_iff_lt_mul h0).2 hi;have hj:i % z<z:=Nat.mod_lt _ h0;have e:i / z*z+i % z=i:=by rw[Nat.mul_comm];exact Nat.div_add_mod i z
  have:=S7 (e:=U0 zc.toList) (xs:=List.replicate n ()) hl (k:=i / z) (j:=i % z) (by simpa using hk) hj;rw[e]at this;rw[this];have hj':i % z<zc.size:=by rw[hz];exact hj
  simp only[madeCells,Array.getElem?_map,Array.getElem?_range,hi,if_true,Option.map_some,hz,U0];simp[hj']
 ·have a:(madeCells zc (n*z)).size=n*z:=size_madeCells _ _;have b:(Qg (U0 zc.toList) (List.replicate n ())).size=n*z:=by rw[Zf hl];simp
  rw[Array.getElem?_eq_none (by omega),Array.getElem?_eq_none (by omega)]
def Oh(P:Program)(t e z bytes:Nat)(zs:List Value):Bool:=match YC P t with
 |some (.slice e')=>Nat.beq e' e && match inf P e with
  |some i=>match i.zero with
   |some zv=>Nat.beq i.size z && (Nat.beq i.bytes bytes && (Nat.blt 0 z && (Nat.beq zv.cells.size z && (HA (DU 2) zv.cells.toList zs && zs.all simple))))
   |none=>false
  |none=>false
 |_=>false
theorem fN{P:Program}{t e z bytes:Nat}{zs:List Value}(h:Oh P t e z bytes zs=true){l:Int}{k k':IntKind}(h0:0<=l)(hb:bytes*l<=281474976710656)(hn:l<=9223372036854775807):
 Rw P t (.int k l) (.int k' l)=some (e,Qg (U0 zs) (List.replicate l.toNat ()),l.toNat,z):=by
 unfold Oh at h;split at h
 ·rename_i e' hu;split at h
  ·rename_i i hi;split at h
   ·rename_i zv hz;simp only[YB]at h;obtain⟨h1,h2,h3,h4,h5,h6,h7⟩:=h;have h1:=YE h1;have h2:=YE h2;have h3:=YE h3;have h4:0<z:=YL h4;have h5:=YE h5;have h6:=Kj (Ut 2) _ _ h6;subst h1 h2 h3;have e1:=D3 (n:=l.toNat) h5 h4;rw[h6]at e1;have VJ:(madeCells zv.cells (l.toNat*i.size)).all simple=true:=by
     rw[e1,Array.all_eq_true'];intro v hv;simp only[Qg,List.mem_toArray,List.mem_flatMap,U0]at hv;obtain⟨_,_,hv⟩:=hv;exact List.all_eq_true.1 h7 v hv
    simp only[Rw,hu,hi,hz,decide_eq_true h0,decide_eq_true hb,decide_eq_true hn,decide_eq_true (Int.le_refl l),VJ,Bool.and_self,cond_true];rw[e1]
   ·simp at h
  ·simp at h
 ·cases h
section
variable {α:Type} {e:α->List Value} {m z:Nat} {rs:List (Nat×Nat)} {K1:List (Nat×Array Value)} {ow:List (Nat×Nat)} {xs:List α}
theorem Uj{zs:List Value}{x:α}(h:AllX m rs K1 ow zs (e x)):∀k:Nat,XX m rs K1 ow (Qg (U0 zs) (List.replicate k ())) (Qg e (List.replicate k x))
 |0=>trivial
 |k+1=>by
  unfold XX Qg;simp only[List.replicate_succ,List.flatMap_cons];exact AllX.append h (Uj h k)
theorem AllX.take{l k:List Value}:∀(n:Nat) {l k:List Value},AllX m rs K1 ow l k->AllX m rs K1 ow (l.take n) (k.take n)
 |0,_,_,_=>trivial
 |_+1,[],[],_=>trivial
 |n+1,_::_,_::_,h=>⟨h.1,AllX.take (l:=[]) (k:=[]) n h.2⟩
 |_+1,[],_::_,h=>h.elim
 |_+1,_::_,[],h=>h.elim
theorem AllX.drop{l k:List Value}:∀(n:Nat) {l k:List Value},AllX m rs K1 ow l k->AllX m rs K1 ow (l.drop n) (k.drop n)
 |0,_,_,h=>h
 |_+1,[],[],_=>trivial
 |n+1,_::_,_::_,h=>AllX.drop (l:=[]) (k:=[]) n h.2
 |_+1,[],_::_,h=>h.elim
 |_+1,_::_,[],h=>h.elim
theorem A5{cs:Array Value}{vs:List Value}{x:α}{k:Nat}(hz:∀y,(e y).length=z)(h:XX m rs K1 ow cs (Qg e xs))(hk:k<xs.length)(hx:AllX m rs K1 ow vs (e x)):XX m rs K1 ow (splice cs (k*z) vs.toArray) (Qg e (xs.set k x)):=by
 have hlen:=(AllX.get hx).1;rw[hz x]at hlen;rw[<-(fX hz hk).2];unfold XX at h ⊢;unfold splice;simp only[hz x,<-hlen];exact AllX.append (AllX.append (AllX.take (l:=[]) (k:=[]) _ h) hx) (AllX.drop (l:=[]) (k:=[]) _ h)
theorem il{cs:Array Value}{vs:List Value}{x:α}{k:Nat}(hz:∀y,(e y).length=z)(h:XX m rs K1 ow cs (Qg e xs))(hk:k<xs.length)(hx:AllX m rs K1 ow vs (e x)):XX m rs K1 ow (splice cs (0+k*z) vs.toArray) (Qg e (xs.set k x)):=by
 rw[Nat.zero_add];exact A5 hz h hk hx
theorem P6(h:∀x,(e x).length=z){k z':Nat}(hk:k<xs.length){x:α}{cs:Array Value}(hc:cs=(e x).toArray)(hz:z'=z):0+k*z+z'<=(Qg e xs).size/\splice (Qg e xs) (0+k*z) cs=Qg e (xs.set k x):=by
 subst hz;rw[Nat.zero_add];exact Ba h hk hc
theorem E4(h:∀x,(e x).length=z){k z':Nat}(hk:k<xs.length)(hz:z'=z):0+k*z+z'<=(Qg e xs).size:=by
 subst hz;rw[Nat.zero_add];exact cc h hk
theorem pt[Inhabited α](h:∀x,(e x).length=z){k z':Nat}(hk:k<xs.length){cs:Array Value}(hc:cs=(e (xs.getD k default)).toArray)(hz:z'=z):0+k*z+z'<=(Qg e xs).size/\(Qg e xs).extract (0+k*z) (0+k*z+z')=cs:=by
 subst hz hc;rw[Nat.zero_add];exact⟨cc h hk,Q4 h hk⟩
end
end Go.CE

noncomputable abbrev Go.CE.YP:Go.Program:=Go.Proofs.Try.prog
namespace Go.Proofs.Ytncjjangllkokaa
open Go Go.CE Go.RowKit
abbrev pA(b o:Nat):Value:=.pointer (some ⟨b,o,none⟩)
def J0:World->Prop:=fun _=>True
theorem Za:∀w w':World,(∀b,b<w.heap.size->w'.heap[b]? =w.heap[b]?)->J0 w->J0 w':=fun _ _ _ _=>trivial
theorem Qf:YP.follows .mixedOrders=true:=by decide+kernel
theorem okF:∀g,Q3 YP g=true->Q3 YP g=true:=fun _ h=>h
end Go.Proofs.Ytncjjangllkokaa

namespace Go.CE
open Go Go.RowKit

section
variable {P:Program} {F:FuncId->Bool} {T:Tm} {o:Oper} {H:Qo} {n:Nat}
theorem hO{t e:TypeId}{x hi:Operand}{b off N z:Nat}{k:IntKind}{l:Int}(ho:o.op=.slice t x none (some hi) none)(hx:XW T x=some (.pointer (some ⟨b,off,none⟩)))(hl:XW T hi=some (.int k l))(hu:YC P t=some (.array N e))(hz:Ww P e=some z)(hN:Nat.ble N maxLen=true)(h1:0<=l)(h2:l<=N):
 aH P F Xq (fun _ _ _=>none) T o H n=some ⟨.ret (.slice (some ⟨b,off,none⟩) l.toNat 0),H,n,[],[]⟩:=by
 have e1:yh N none (some (.int k l))=some (0,l.toNat):=by
  simp only[yh,Eh,decide_eq_true h1,decide_eq_true h2,Bool.and_self,cond_true]
 have e4:Tu P t (.pointer (some ⟨b,off,none⟩)) none (some (.int k l))=some (.slice (some ⟨b,off,none⟩) l.toNat 0):=by
  simp only[Tu,hu,hz,e1,hN,cond_true,Nat.zero_mul,Nat.add_zero,Nat.sub_zero];cases Nat.beq N 0 <;> rfl
 have e5:J8 P F (XW T) o H n=some ⟨.val (.slice (some ⟨b,off,none⟩) l.toNat 0),H,n,[],[]⟩:=by
  unfold J8 sQ;simp only[ho,hx,Ek,hl,e4,mkPure,Option.map_some,List.all_nil,cond_true]
 unfold aH;simp only[ho,e5]
end
section
variable {P:Program} {F:FuncId->Bool} {T:Tm} {o:Oper} {H:Qo} {n:Nat}
theorem vN{c:Call}{s x:Operand}{sv:Value}{t e:TypeId}{b off m s2 z by':Nat}{cs cs':Array Value}{te:TypeId}{f:Nat×Nat}(ho:o.op=.call c)(hc:c.callee=.builtin .append)(ha:c.args.toList=[s,x])(hat:c.argTypes.toList=[t,t])
 (hs:XW T s=some sv) (hbn:KD sv=true) (hx:XW T x=some (.slice (some ⟨b,off,none⟩) m s2)) (hu:YC P t=some (.slice e)) (hi:(inf P e).map (fun i=>(i.zero.map (·.cells.size),i.size,i.bytes))=some (some (z+1),z+1,by')) (hb:Qs H b=some (.cells cs te f)) (hn:b<n)
 (hq:0<m/\m<=maxLen/\m*by'<=140737488355328/\off+m*(z+1)<=cs.size/\ones (cs.extract off (off+m*(z+1)))=true/\cs.extract off (off+m*(z+1))=cs'):
 aH P F Xq (fun _ _ _=>none) T o H n=some ⟨.ret (.slice (some ⟨n,0,none⟩) m (z+1)),(n,.cells cs' e (0,0))::H,n+1,[b],[]⟩:=by
 obtain⟨h1,h2,h3,h4,h5,rfl⟩:=hq;cases hinf:inf P e with
 |none=>rw[hinf]at hi;cases hi
 |some i=>
  rw[hinf]at hi;simp only[Option.map_some,YO,YR]at hi;obtain⟨i1,i2,i3⟩:=hi;cases hz:i.zero with
  |none=>rw[hz]at i1;cases i1
  |some zv=>
   rw[hz]at i1;simp only[Option.map_some,YO]at i1;have eb:bare sv=.slice none 0 0:=by
    unfold KD at hbn;split at hbn
    ·rfl
    ·rfl
    ·cases hbn
   have e4:yg P t t H n sv (.slice (some ⟨b,off,none⟩) m s2)=some ⟨.val (.slice (some ⟨n,0,none⟩) m (z+1)),(n,.cells (cs.extract off (off+m*(z+1))) e (0,0))::H,n+1,[b],[]⟩:=by
    have q1:Nat.beq zv.cells.size (z+1)=true:=by rw[i1];simp
    have q2:Nat.ble m maxLen=true:=Nat.ble_eq_true_of_le h2;have q3:Nat.ble (m*i.bytes) 140737488355328=true:=Nat.ble_eq_true_of_le (by rw[i3];exact h3);have q4:Nat.blt 0 m=true:=Nat.ble_eq_true_of_le h1;have q5:Nat.ble (off+m*(z+1)) cs.size=true:=Nat.ble_eq_true_of_le h4;simp only[yg,eb,show Nat.beq t t=true by simp,cond_true,VM,hu,hinf,hz,i2,Pv,mn,hb,q5,h5,q1,q2,q3,q4,Nat.zero_add,Bool.and_self,St,Option.toList,Array.empty_append]
   have e5:J8 P F (XW T) o H n=some ⟨.val (.slice (some ⟨n,0,none⟩) m (z+1)),(n,.cells (cs.extract off (off+m*(z+1))) e (0,0))::H,n+1,[b],[]⟩:=by
    unfold J8 sQ;simp only[ho,hc,ha,hat,hs,hx,e4,List.all_cons,List.all_nil,show Nat.blt b n=true from Nat.ble_eq_true_of_le hn,Bool.and_self,cond_true]
   unfold aH;simp only[ho,e5]
end
theorem yU{v:Value}(h:simple v=true):v.oneCell'=true:=by
 cases v <;> first|rfl|(cases h;done)
theorem S0{α:Type}{e:α->List Value}{r:Nat}(hs:∀x,(e x).all simple=true)(xs:List α):(Qg e xs).map (ZA r)=Qg e xs/\((Qg e xs).all fun v=>simple v || W6 v)=true/\ones (Qg e xs)=true:=by
 have h:∀v∈Qg e xs,simple v=true:=QN fun x=>List.all_eq_true.1 (hs x)
 refine⟨?_,Array.all_eq_true'.2 fun v hv=>by rw[h v hv];rfl,Array.all_eq_true'.2 fun v hv=>yU (h v hv)⟩;apply Array.ext (by simp);intro i h1 h2;have hv:=h _ (Array.getElem_mem h2);simp[ZA,hv]
theorem Vo{α:Type}{e:α->List Value}{xs:List α}{x:α}{cs:Array Value}(h:cs=(e x).toArray):Qg e xs++cs=Qg e (xs++[x]):=by
 rw[h];exact WY
def Qm(fs:List Int)(k:Nat):Int:=fs.getD k 0
def yQ(k:Nat)(x:Int):Nat->List Int->List Int
 |_,[]=>[]
 |j,f::l=>(if k=j then x else f)::yQ k x (j+1) l
theorem bO(k:Nat)(x:Int):∀(l:List Int) (j:Nat),(yQ k x j l).length=l.length
 |[],_=>rfl
 |_::l,j=>by simp[yQ,bO k x l (j+1)]
theorem tC(k:Nat)(x:Int):∀(l:List Int) (j i:Nat),i<l.length->(yQ k x j l)[i]? =some (if k=j+i then x else l.getD i 0)
 |[],_,_,h=>by simp at h
 |f::l,j,0,_=>by simp[yQ]
 |f::l,j,i+1,h=>by
  have:=tC k x l (j+1) i (by simpa using h);simp only[yQ,List.getElem?_cons_succ,this,List.getD_cons_succ];rw[show j+1+i=j+(i+1)by omega]
theorem tk{cs:Array Value}{fs:List Int}{off i:Nat}(h:(cs.toList.drop off).take fs.length=fs.map (Value.int .i64))(hi:i<fs.length):cs[off+i]? =some (.int .i64 (fs.getD i 0)):=by
 have e:((cs.toList.drop off).take fs.length)[i]? =(fs.map (Value.int .i64))[i]? :=by rw[h]
 rw[List.getElem?_take_of_lt hi,List.getElem?_drop,List.getElem?_map,Array.getElem?_toList]at e;rw[e];simp[List.getD_eq_getElem?_getD,hi]
theorem Sr{cs:Array Value}{fs:List Int}{off k:Nat}(h:(cs.toList.drop off).take fs.length=fs.map (Value.int .i64))(hk:k<fs.length):cs[off+k*1]? =some (.int .i64 (Qm fs k)):=by
 rw[Nat.mul_one];exact tk h hk
theorem D0{l:List Int}:ones (Qg Q9 l)=true:=by
 unfold ones;rw[Array.all_eq_true'];intro v hv;have:=QN (e:=Q9) (fun x v hv=>by simp[Q9]at hv;subst hv;rfl) v hv;cases v <;> first|rfl|cases this
theorem B0{cs:Array Value}{fs:List Int}{off m:Nat}(h:(cs.toList.drop off).take fs.length=fs.map (Value.int .i64))(hm:m<=fs.length)(h0:0<fs.length):off+m*1<=cs.size/\ones (cs.extract off (off+m*1))=true/\cs.extract off (off+m*1)=Qg Q9 (fs.take m):=by
 have Zm:off+fs.length<=cs.size:=by
  have e:=tk h (i:=fs.length-1) (by omega);have:=(Array.getElem?_eq_some_iff.1 e).1;omega
 rw[Nat.mul_one];have e:cs.extract off (off+m)=Qg Q9 (fs.take m):=by
  apply Array.ext';rw[Array.toList_extract,List.extract_eq_drop_take,show off+m-off=m by omega];have e2:(cs.toList.drop off).take m=((cs.toList.drop off).take fs.length).take m:=by rw[List.take_take,Nat.min_eq_left hm]
  rw[e2,h,<-List.map_take];induction fs.take m with
  |nil=>rfl
  |cons x l ih=>rw[List.map_cons,ih];rfl
 exact⟨by omega,by rw[e];exact D0,e⟩
theorem HY{cs:Array Value}{fs:List Int}{off k:Nat}(h:(cs.toList.drop off).take fs.length=fs.map (Value.int .i64))(hk:k<fs.length):cs.extract (off+k*1) (off+k*1+1)=#[.int .i64 (Qm fs k)]:=by
 have e:=Sr h hk;have hs:=(Array.getElem?_eq_some_iff.1 e).1;refine Array.ext_getElem? fun i=> ?_
 rw[Array.getElem?_extract];by_cases hi:i=0
 ·subst hi;rw[if_pos (by omega),Nat.add_zero,e];rfl
 ·rw[if_neg (by omega),Array.getElem?_eq_none (by simp;omega)]
theorem NJ{l:List Int}{k:Nat}(h:l.length<=4):Qm [l.getD 0 0,l.getD 1 0,l.getD 2 0,l.getD 3 0] k=l.getD k 0:=by
 match k with
 |0=>rfl
 |1=>rfl
 |2=>rfl
 |3=>rfl
 |k+4=>
  have e:l.getD (k+4) 0=0:=by rw[List.getD_eq_getElem?_getD,List.getElem?_eq_none (by omega)];rfl
  rw[e];rfl
theorem o6{cs cs' vc:Array Value}{fs:List Int}{off k:Nat}{x:Int}(hv:vc=#[.int .i64 x])(h:(cs.toList.drop off).take fs.length=fs.map (Value.int .i64))(hk:k<fs.length)(hc:cs'.toList=cs.toList.take off++(yQ k x 0 fs).map (Value.int .i64)++cs.toList.drop (off+fs.length)):
 off+k*1+1<=cs.size/\splice cs (off+k*1) vc=cs':=by
 subst hv;have Zm:off+fs.length<=cs.size:=by
  have e:=tk h (i:=fs.length-1) (by omega);have:=(Array.getElem?_eq_some_iff.1 e).1;omega
 rw[Nat.mul_one];refine⟨by omega,Array.ext_getElem? fun i=> ?_⟩;rw[UM (by simp;omega),<-Array.getElem?_toList (xs:=cs'),hc];have l1:(cs.toList.take off).length=off:=by simp;omega
 by_cases h1:i<off
 ·rw[if_neg (by simp;omega),List.append_assoc,List.getElem?_append_left (by omega),List.getElem?_take_of_lt h1,Array.getElem?_toList]
 ·rw[List.append_assoc,List.getElem?_append_right (by omega),l1];by_cases h2:i-off<fs.length
  ·rw[List.getElem?_append_left (by simp[bO];omega),List.getElem?_map,tC k x fs 0 (i-off) h2];by_cases h3:i=off+k
   ·subst h3;rw[if_pos (by simp),if_pos (by omega)];simp
   ·rw[if_neg (by simp;omega),if_neg (by omega)];have e:=tk h h2;rw[show off+(i-off)=i by omega]at e;rw[e];rfl
  ·rw[if_neg (by simp;omega),List.getElem?_append_right (by simp[bO];omega),List.getElem?_drop,List.length_map,bO,Array.getElem?_toList];congr 1;omega
theorem oh{xs:List Int}{cs cs':Array Value}{off k r m:Nat}{e:Int->List Value}(he:∀x,e x=[.int .i64 x])(hm:m=xs.length)(h0:0<m)(hk:m<=k)(h:(cs.toList.drop off).take k=List.replicate k (Value.int .i64 0))(hz:off+k<=cs.size)
 (hc:cs'.toList=cs.toList.take off++((List.range k).map fun j=>Value.int .i64 (xs.getD j default))++cs.toList.drop (off+k)):
 0<m/\off+Nat.min m k*1<=cs.size/\Nat.min m k*1<=(Qg e xs).size/\((Qg e xs).all fun v=>simple v || W6 v)=true/\ones (((Qg e xs).extract 0 (Nat.min m k*1)).map (ZA r))=true/\splice cs off (((Qg e xs).extract 0 (Nat.min m k*1)).map (ZA r))=cs':=by
 subst hm;have hmin:Nat.min xs.length k*1=xs.length:=by rw[Nat.mul_one];exact Nat.min_eq_left hk
 have hrow:Qg e xs=(xs.map (Value.int .i64)).toArray:=by
  have:xs.flatMap e=xs.map (Value.int .i64):=by
   have:e=fun x=>[Value.int .i64 x]:=funext he
   rw[this];have h9:∀l:List Int,l.flatMap (fun x=>[Value.int .i64 x])=l.map (Value.int .i64):=fun l=>by
    induction l with
    |nil=>rfl
    |cons x l ih=>rw[List.flatMap_cons,ih];rfl
   exact h9 xs
  unfold Qg;rw[this]
 have Zm:(Qg e xs).size=xs.length:=by rw[hrow];simp
 have hext:((Qg e xs).extract 0 (Nat.min xs.length k*1)).map (ZA r)=(xs.map (Value.int .i64)).toArray:=by
  rw[hmin,hrow];apply Array.ext_getElem?;intro i;rw[Array.getElem?_map,Array.getElem?_extract];by_cases hi:i<xs.length
  ·rw[if_pos (by simp;omega)];simp[hi,ZA,simple]
  ·rw[if_neg (by simp;omega)];simp[hi]
 rw[hext,hmin,Zm];refine⟨h0,by omega,Nat.le_refl _, ?_, ?_,Array.ext_getElem? fun i=> ?_⟩
 ·rw[hrow];simp[simple]
 ·simp[ones,Value.oneCell']
 ·rw[UM (by simp;omega),<-Array.getElem?_toList (xs:=cs'),hc];have l1:(cs.toList.take off).length=off:=by simp;omega
  by_cases h1:i<off
  ·rw[if_neg (by simp;omega),List.append_assoc,List.getElem?_append_left (by omega),List.getElem?_take_of_lt h1,Array.getElem?_toList]
  ·rw[List.append_assoc,List.getElem?_append_right (by omega),l1];by_cases h2:i-off<k
   ·rw[List.getElem?_append_left (by simp;omega),List.getElem?_map,List.getElem?_range h2];by_cases h3:i-off<xs.length
    ·rw[if_pos (by simp;omega)];simp[h3,List.getD_eq_getElem?_getD]
    ·rw[if_neg (by simp;omega)];have e2:((cs.toList.drop off).take k)[i-off]? =(List.replicate k (Value.int .i64 0))[i-off]? :=by rw[h]
     rw[List.getElem?_take_of_lt h2,List.getElem?_drop,show off+(i-off)=i by omega,Array.getElem?_toList,List.getElem?_replicate,if_pos h2]at e2;rw[e2];simp[List.getD_eq_getElem?_getD,List.getElem?_eq_none (show xs.length<=i-off by omega)]
   ·rw[if_neg (by simp;omega),List.getElem?_append_right (by simp;omega),List.getElem?_drop,Array.getElem?_toList];congr 1;simp;omega
theorem FinK.wri{P:Program}{J:World->Prop}{g:FuncId}{args:Array Value}{c0:CF}{Hb ws:Qo}{a:Nat}{Wf:List Nat}{bs outs news:List Obj}{out:OO}(hc:Wa P g args=some c0)(e1:Hb=iC bs)(e2:a=bs.length+1)(e3:ws=QU 1 outs)(e4:Wf=List.range' 1 bs.length)
 (h:∀B:Lo,(∀w,B.has w->J w)->FinK P B c0 Hb a out ws news Wf):WriC P J g args bs out outs news:=fun B hJ μ w args' cs QC hB hf hv=>by
 subst e1 e2 e3 e4;obtain⟨XY,w',μ',hp,ho,_,he⟩:=h B hJ μ w _ cs QC hB hf (Ui hc hv);rw[show bs.length+1+1+news.length=bs.length+2+news.length by omega]at hp;exact⟨XY,w',μ',hp,ho,he⟩
theorem S6{α:Type}[Inhabited α]{e:α->List Value}{z:Nat}{xs:List α}(h:∀x,(e x).length=z){k j z':Nat}(hk:k<xs.length){x:α}{cs:Array Value}(hx:e x=(e (xs.getD k default)).take j++cs.toList++(e (xs.getD k default)).drop (j+z'))(hz:z'=cs.size)(hj:j+z'<=z):0+k*z+j+z'<=(Qg e xs).size/\splice (Qg e xs) (0+k*z+j) cs=Qg e (xs.set k x):=by
 have hle:=cc (e:=e) h hk;have Z7:=Ba (e:=e) h hk (x:=x) (cs:=(e x).toArray) rfl;have hX:(e x).length=z:=h _;have hE:(e (xs.getD k default)).length=z:=h _;have hr:∀q,q<z->(Qg e xs)[k*z+q]? =(e (xs.getD k default))[q]? :=fun q hq=>by
  have hq':q<(e (xs.getD k default)).length:=by omega
  rw[I0 (e:=e) h hk (List.getElem?_eq_getElem hq'),List.getElem?_eq_getElem hq']
 generalize e (xs.getD k default)=E at *;subst hz;have hc:cs.toList.length=cs.size:=Array.length_toList ..;have ht:(E.take j).length=j:=by rw[List.length_take];omega
 have key:∀q,(e x).toArray[q]? =(E.take j++(cs.toList++E.drop (j+cs.size)))[q]? :=fun q=>by rw[List.getElem?_toArray,hx,List.append_assoc]
 have ec:∀q,cs[q]? =cs.toList[q]? :=fun q=>(Array.getElem?_toList ..).symm
 refine⟨by omega, ?_⟩;rw[<-Z7.2];apply Array.ext_getElem?;intro i;have s2:(e x).toArray.size=z:=hX;rw[UM (by omega),UM (by omega),s2,key,ec];by_cases h1:0+k*z+j<=i/\i<0+k*z+j+cs.size
 ·rw[if_pos h1,if_pos (by omega),List.getElem?_append_right (by omega),List.getElem?_append_left (by omega)];congr 1;omega
 ·rw[if_neg h1];by_cases h2:k*z<=i/\i<k*z+z
  ·rw[if_pos h2];have h5:=hr (i-k*z) (by omega);rw[show k*z+(i-k*z)=i by omega]at h5;rw[h5];by_cases h3:i<k*z+j
   ·rw[List.getElem?_append_left (by omega),List.getElem?_take_of_lt (by omega)]
   ·rw[List.getElem?_append_right (by omega),List.getElem?_append_right (by omega),List.getElem?_drop];congr 1;omega
  ·rw[if_neg h2]
end Go.CE

namespace Go.Proofs.Ytncjjangllkokaa
open Go Go.CE Go.RowKit
noncomputable section
set_option maxRecDepth 100000
def WQ(x lo hi:Int):Bool:=decide (lo<=x) && decide (x<=hi)
theorem VL{x lo hi:Int}:WQ x lo hi=true<->lo<=x/\x<=hi:=by simp[WQ]
structure Span where
 lo:Int
 hi:Int
deriving Inhabited
def Xg(s:Span):List Value:=[.int .i64 s.lo,.int .i64 s.hi]
abbrev KQ(xs:List Span):Value:=QE xs.length (Qg Xg xs)
def WK(a b lo hi:Int):Bool:=decide (lo<=a) && (decide (a<=b) && decide (b<=hi))
theorem TI{a b lo hi:Int}:WK a b lo hi=true<->lo<=a/\a<=b/\b<=hi:=by simp[WK]
theorem Uu{α:Type}[Inhabited α]{l:List α}{i:Int}{p:α->Bool}(h0:0<=i)(h:i<l.length):(l.drop i.toNat).all p=(p (l.getD i.toNat default) && (l.drop (i+1).toNat).all p):=by
 obtain⟨k,rfl⟩:∃k:Nat,i=k:=⟨i.toNat,by omega⟩
 have hk:k<l.length:=by omega
 have e1:((k:Int)).toNat=k:=by omega
 have e2:((k:Int)+1).toNat=k+1:=by omega
 rw[e1,e2,List.drop_eq_getElem_cons hk,List.all_cons];simp[List.getD_eq_getElem?_getD,hk]
theorem aD{α:Type}{l:List α}{i:Int}{p:α->Bool}(h:l.length<=i):(l.drop i.toNat).all p=true:=by
 rw[List.drop_eq_nil_of_le (by omega)];rfl
theorem H4{α:Type}[Inhabited α]{l:List α}{i:Int}(h0:0<=i)(h:i<l.length):l.getD i.toNat default∈l:=by
 have hk:i.toNat<l.length:=by omega
 rw[List.getD_eq_getElem?_getD,List.getElem?_eq_getElem hk];exact List.getElem_mem hk
theorem vP{α:Type}[Inhabited α]{l:List α}{x:α}(h:x∈l):∃i:Int,0<=i/\i<l.length/\l.getD i.toNat default=x:=by
 obtain⟨k,hk,rfl⟩:=List.getElem_of_mem h;exact⟨k,by omega,by omega,by simp[List.getD_eq_getElem?_getD,hk]⟩
theorem j8{p:Int->Bool}{a b:Int}(h:(Sv a b).all p=true){k:Int}(h1:a<=k)(h2:k<b):p k=true:=by
 refine List.all_eq_true.1 h k ?_;unfold Sv;exact List.mem_map.2 ⟨(k-a).toNat,List.mem_range.2 (by omega),by omega⟩
def Pe{α β:Type}(f:α->β)(x0:β)(xs:List α)(i:Int):List β:=(xs.take i.toNat).map f++List.replicate (xs.length-i.toNat) x0
theorem dL{α β:Type}{f:α->β}{x0:β}{xs:List α}:List.replicate xs.length x0=Pe f x0 xs 0:=by simp[Pe]
theorem Rq{α β:Type}{f:α->β}{x0:β}{xs:List α}{i:Int}:(Pe f x0 xs i).length=xs.length:=by simp[Pe];omega
theorem Rp{α β:Type}[Inhabited α]{f:α->β}{x0:β}{xs:List α}{i:Int}(h0:0<=i)(h:i<xs.length):(Pe f x0 xs i).set i.toNat (f (xs.getD i.toNat default))=Pe f x0 xs (i+1):=by
 obtain⟨k,rfl⟩:∃k:Nat,i=k:=⟨i.toNat,by omega⟩
 have hk:k<xs.length:=by omega
 have e1:((k:Int)).toNat=k:=by omega
 have e2:((k:Int)+1).toNat=k+1:=by omega
 unfold Pe;rw[e1,e2];have hl:((xs.take k).map f).length=k:=by simp;omega
 rw[List.set_append_right _ _ (by omega),hl,Nat.sub_self];have er:xs.length-k=(xs.length-(k+1))+1:=by omega
 rw[er,List.replicate_succ,List.set_cons_zero];have et:xs.take (k+1)=xs.take k++[xs[k]]:=by rw[List.take_succ_eq_append_getElem hk]
 rw[et,List.map_append,List.append_assoc];simp[List.getD_eq_getElem?_getD,hk]
theorem Rt{α β:Type}{f:α->β}{x0:β}{xs:List α}{i:Int}(h:xs.length<=i):Pe f x0 xs i=xs.map f:=by
 unfold Pe;rw[List.take_of_length_le (by omega),show xs.length-i.toNat=0 by omega];simp
theorem cb{β:Type}{e:β->List Value}{ys zs:List β}{n:Nat}(h:ys=zs)(hn:n=zs.length):QE n (Qg e ys)=QE zs.length (Qg e zs):=by subst h hn;rfl
def tK:List Int->Int
 |[]=>0
 |x::l=>x+tK l
def yW(B:Lo)(x lo hi:Int):List Prop:=[(!XU x lo)=true]++([]:List Prop)
def E5(x lo hi:Int):Q5:=[(3,Wo)]
theorem MH(B:Lo)(x lo hi:Int):QQ (Qq YP (Q3 YP) J0 B 6 1 (Qp YP 55 15 (([.int .i64 x,.int .i64 lo,.int .i64 hi]).map (Q2 0 4))) XV 1
 (E5 x lo hi++[(7,Wo)]) 0 [] []) []=some (.bool true,
 [(!XU hi x)=true]++yW B x lo hi):=by kernel_rfl
theorem MG(B:Lo)(x lo hi:Int):QQ (Qq YP (Q3 YP) J0 B 6 1 (Qp YP 55 15 (([.int .i64 x,.int .i64 lo,.int .i64 hi]).map (Q2 0 4))) XV 1
 (E5 x lo hi++[(7,W8)]) 0 [] []) []=some (.bool false,
 [(!XU hi x)=false]++yW B x lo hi):=by kernel_rfl
theorem MF(B:Lo)(x lo hi:Int):QQ (Qq YP (Q3 YP) J0 B 6 1 (Qp YP 55 15 (([.int .i64 x,.int .i64 lo,.int .i64 hi]).map (Q2 0 4))) XV 1
 [(3,W8)] 0 [] []) []=some (.bool false,
 [(!XU x lo)=false]):=by kernel_rfl
set_option maxHeartbeats 4000000 in
theorem NL(x lo hi:Int)  {B:Lo}(hJ:∀w,B.has w->J0 w):EndsT YP B (Qp YP 55 15 (([.int .i64 x,.int .i64 lo,.int .i64 hi]).map (Q2 0 4))) (.bool (WQ x lo hi)):=by
 by_cases q0:(lo:Int)<=(x)
 ·have WB:Qz (yW B x lo hi):=by
   exact⟨(Ua q0),trivial⟩
  by_cases q1:(x:Int)<=(hi)
  ·exact(GoE.endsT okF hJ Qf GoE.start (MH B x lo hi)
    ⟨(Ua q1),WB⟩).cast (by(simp[WQ, *];done))
  ·exact(GoE.endsT okF hJ Qf GoE.start (MG B x lo hi)
    ⟨(Ub (Int.not_le.1 q1)),WB⟩).cast (by(simp[WQ, *];done))
 ·exact(GoE.endsT okF hJ Qf GoE.start (MF B x lo hi)
   ⟨(Ub (Int.not_le.1 q0)),trivial⟩).cast (by(simp[WQ, *];done))
theorem jh(x lo hi:Int)  :Qx YP J0 55 #[.int .i64 x,.int .i64 lo,.int .i64 hi] (.bool (WQ x lo hi)):=
 Xn (ts:=[.int .i64 x,.int .i64 lo,.int .i64 hi]) Za (c0:=Qp YP 55 15 (([.int .i64 x,.int .i64 lo,.int .i64 hi]).map (Q2 0 4))) (by kernel_rfl) (by kernel_rfl) fun B hJ=>NL x lo hi  hJ
def kD(B:Lo)(a b most:Int):List Prop:=[(!XU a 0)=true]++([]:List Prop)
def tY(a b most:Int):Q5:=[(4,Wo)]
def kC(B:Lo)(a b most:Int):List Prop:=[(!XU b a)=true]++kD B a b most
def tX(a b most:Int):Q5:=tY a b most++[(10,Wo)]
theorem EC(B:Lo)(a b most:Int):QQ (Qq YP (Q3 YP) J0 B 6 1 (Qp YP 56 21 (([.agg #[.int .i64 a,.int .i64 b],.int .i64 most]).map (Q2 0 4))) XV 1
 (tX a b most++[(16,Wo)]) 0 [] []) []=some (.bool true,
 [(!XU most b)=true]++kC B a b most):=by kernel_rfl
theorem EB(B:Lo)(a b most:Int):QQ (Qq YP (Q3 YP) J0 B 6 1 (Qp YP 56 21 (([.agg #[.int .i64 a,.int .i64 b],.int .i64 most]).map (Q2 0 4))) XV 1
 (tX a b most++[(16,W8)]) 0 [] []) []=some (.bool false,
 [(!XU most b)=false]++kC B a b most):=by kernel_rfl
theorem EA(B:Lo)(a b most:Int):QQ (Qq YP (Q3 YP) J0 B 6 1 (Qp YP 56 21 (([.agg #[.int .i64 a,.int .i64 b],.int .i64 most]).map (Q2 0 4))) XV 1
 (tY a b most++[(10,W8)]) 0 [] []) []=some (.bool false,
 [(!XU b a)=false]++kD B a b most):=by kernel_rfl
theorem E9(B:Lo)(a b most:Int):QQ (Qq YP (Q3 YP) J0 B 6 1 (Qp YP 56 21 (([.agg #[.int .i64 a,.int .i64 b],.int .i64 most]).map (Q2 0 4))) XV 1
 [(4,W8)] 0 [] []) []=some (.bool false,
 [(!XU a 0)=false]):=by kernel_rfl
set_option maxHeartbeats 4000000 in
theorem I2(a b most:Int)  {B:Lo}(hJ:∀w,B.has w->J0 w):EndsT YP B (Qp YP 56 21 (([.agg #[.int .i64 a,.int .i64 b],.int .i64 most]).map (Q2 0 4))) (.bool (WK a b 0 most)):=by
 by_cases q0:(0:Int)<=(a)
 ·have WB:Qz (kD B a b most):=by
   exact⟨(Ua q0),trivial⟩
  by_cases q1:(a:Int)<=(b)
  ·have JE:Qz (kC B a b most):=by
    exact⟨(Ua q1),WB⟩
   by_cases q2:(b:Int)<=(most)
   ·exact(GoE.endsT okF hJ Qf GoE.start (EC B a b most)
     ⟨(Ua q2),JE⟩).cast (by(simp[WK, *];done))
   ·exact(GoE.endsT okF hJ Qf GoE.start (EB B a b most)
     ⟨(Ub (Int.not_le.1 q2)),JE⟩).cast (by(simp[WK, *];done))
  ·exact(GoE.endsT okF hJ Qf GoE.start (EA B a b most)
    ⟨(Ub (Int.not_le.1 q1)),WB⟩).cast (by(simp[WK, *];done))
 ·exact(GoE.endsT okF hJ Qf GoE.start (E9 B a b most)
   ⟨(Ub (Int.not_le.1 q0)),trivial⟩).cast (by(simp[WK, *];done))
theorem pG(a b most:Int)  :Qx YP J0 56 #[.agg #[.int .i64 a,.int .i64 b],.int .i64 most] (.bool (WK a b 0 most)):=
 Xn (ts:=[.agg #[.int .i64 a,.int .i64 b],.int .i64 most]) Za (c0:=Qp YP 56 21 (([.agg #[.int .i64 a,.int .i64 b],.int .i64 most]).map (Q2 0 4))) (by kernel_rfl) (by kernel_rfl) fun B hJ=>I2 a b most  hJ
def zO(B:Lo)(n lo hi:Int):List Prop:=[(!XU n lo)=true]++([]:List Prop)
def Gy(n lo hi:Int):Q5:=[(3,Wo)]
theorem Nf(B:Lo)(n lo hi:Int):QQ (Qq YP (Q3 YP) J0 B 6 1 (Qp YP 72 15 (([.int .i64 n,.int .i64 lo,.int .i64 hi]).map (Q2 0 4))) XV 1
 (Gy n lo hi++[(7,Wo)]) 0 [] []) []=some (.bool true,
 [(!XU hi n)=true]++zO B n lo hi):=by kernel_rfl
theorem Nd(B:Lo)(n lo hi:Int):QQ (Qq YP (Q3 YP) J0 B 6 1 (Qp YP 72 15 (([.int .i64 n,.int .i64 lo,.int .i64 hi]).map (Q2 0 4))) XV 1
 (Gy n lo hi++[(7,W8)]) 0 [] []) []=some (.bool false,
 [(!XU hi n)=false]++zO B n lo hi):=by kernel_rfl
theorem Nc(B:Lo)(n lo hi:Int):QQ (Qq YP (Q3 YP) J0 B 6 1 (Qp YP 72 15 (([.int .i64 n,.int .i64 lo,.int .i64 hi]).map (Q2 0 4))) XV 1
 [(3,W8)] 0 [] []) []=some (.bool false,
 [(!XU n lo)=false]):=by kernel_rfl
set_option maxHeartbeats 4000000 in
theorem Oc(n lo hi:Int)  {B:Lo}(hJ:∀w,B.has w->J0 w):EndsT YP B (Qp YP 72 15 (([.int .i64 n,.int .i64 lo,.int .i64 hi]).map (Q2 0 4))) (.bool (WQ n lo hi)):=by
 by_cases q0:(lo:Int)<=(n)
 ·have WB:Qz (zO B n lo hi):=by
   exact⟨(Ua q0),trivial⟩
  by_cases q1:(n:Int)<=(hi)
  ·exact(GoE.endsT okF hJ Qf GoE.start (Nf B n lo hi)
    ⟨(Ua q1),WB⟩).cast (by(simp[WQ, *];done))
  ·exact(GoE.endsT okF hJ Qf GoE.start (Nd B n lo hi)
    ⟨(Ub (Int.not_le.1 q1)),WB⟩).cast (by(simp[WQ, *];done))
 ·exact(GoE.endsT okF hJ Qf GoE.start (Nc B n lo hi)
   ⟨(Ub (Int.not_le.1 q0)),trivial⟩).cast (by(simp[WQ, *];done))
theorem tz(n lo hi:Int)  :Qx YP J0 72 #[.int .i64 n,.int .i64 lo,.int .i64 hi] (.bool (WQ n lo hi)):=
 Xn (ts:=[.int .i64 n,.int .i64 lo,.int .i64 hi]) Za (c0:=Qp YP 72 15 (([.int .i64 n,.int .i64 lo,.int .i64 hi]).map (Q2 0 4))) (by kernel_rfl) (by kernel_rfl) fun B hJ=>Oc n lo hi  hJ
def YV(xs:List Int)(lo hi:Int)(i:Int):List Value:=[.int .i64 lo,.int .i64 hi,Qt 1 (QE xs.length (Qg Q9 xs)),.int .i64 (↑xs.length:Int),.int .i64 i]
def V9(xs:List Int)(lo hi:Int)(i:Int):List Obj:=[]
def YW:List Item:=([.code [1,0,1,0,0],.inLoop [1,0,1,0,0],.inBlock 0,.code [1,1]]).map (it (QT YP 74))
def Dx(B:Lo)(c0:CF)(xs:List Int)(lo hi:Int)(i:Int):Prop:=∃dJ:Nat->Value,(∀t,X6 (dJ t))/\GoE YP B c0 XV 1 (QJ 74 21 (([1,2,9,10,11]:List Nat).zip (YV xs lo hi i)) dJ YW) (QH (V9 xs lo hi i)) (2+(V9 xs lo hi i).length) []
def qy(xs:List Int)(lo hi:Int)(i:Int):Array Value:=#[.int .i64 (xs.getD i.toNat default),.int .i64 lo,.int .i64 hi]
def fw(B:Lo)(xs:List Int)(lo hi:Int)(i:Int)(Qn:Nat->Value):List Prop:=[Ue i xs.length (Qg Q9 xs) Try.t3.size #[.int .i64 (xs.getD i.toNat default)],XU i (↑xs.length:Int)=true]++([]:List Prop)
def qz(xs:List Int)(lo hi:Int)(i:Int)(Qn:Nat->Value):Q5:=[(0,Wo),(1,Qk.tidx i.toNat #[.int .i64 (xs.getD i.toNat default)])]
theorem Dv(B:Lo)(xs:List Int)(lo hi:Int)(i:Int)(Qn:Nat->Value):landM (Qq YP (Q3 YP) J0 B 16 1 (QJ 74 21 (([1,2,9,10,11]:List Nat).zip (YV xs lo hi i)) Qn YW) (QH (V9 xs lo hi i)) (2+(V9 xs lo hi i).length)
 (qz xs lo hi i Qn++[(7,Qk.pure (.bool true) []),(9,VE (i+1))]) 0 [] []) [1,2,9,10,11] [] []=some ⟨74,21,YW,[],.run,none,YV xs lo hi (i+1),V9 xs lo hi (i+1),
 [wq (i+1)=i+1,Qz []/\Qx YP J0 72 (qy xs lo hi i) (.bool true)]++fw B xs lo hi i Qn⟩:=by kernel_rfl
theorem Du(B:Lo)(xs:List Int)(lo hi:Int)(i:Int)(Qn:Nat->Value):QQ (Qq YP (Q3 YP) J0 B 16 1 (QJ 74 21 (([1,2,9,10,11]:List Nat).zip (YV xs lo hi i)) Qn YW) (QH (V9 xs lo hi i)) (2+(V9 xs lo hi i).length)
 (qz xs lo hi i Qn++[(7,Qk.pure (.bool false) [])]) 0 [] []) []=some (.bool false,
 [Qz []/\Qx YP J0 72 (qy xs lo hi i) (.bool false)]++fw B xs lo hi i Qn):=by kernel_rfl
theorem Dt(B:Lo)(xs:List Int)(lo hi:Int)(i:Int)(Qn:Nat->Value):QQ (Qq YP (Q3 YP) J0 B 9 1 (QJ 74 21 (([1,2,9,10,11]:List Nat).zip (YV xs lo hi i)) Qn YW) (QH (V9 xs lo hi i)) (2+(V9 xs lo hi i).length)
 [(0,W8)] 0 [] []) []=some (.bool true,
 [XU i (↑xs.length:Int)=false]):=by kernel_rfl
theorem Ds(B:Lo)(xs:List Int)(lo hi:Int):landM (Qq YP (Q3 YP) J0 B 7 1 (Qp YP 74 21 (([Xr xs,.int .i64 lo,.int .i64 hi]).map (Q2 0 4))) XV 1
 [] 0 [] []) [1,2,9,10,11] [] []=some ⟨74,21,YW,[],.run,none,YV xs lo hi (0),V9 xs lo hi (0),
 []⟩:=by kernel_rfl
set_option maxHeartbeats 4000000 in
theorem Dw(xs:List Int)(lo hi:Int)  (Xt:xs.length<=9223372036854775807){B:Lo}(hJ:∀w,B.has w->J0 w){c0:CF}:∀m:Nat,(∀(i:Int),xs.length-i.toNat=m->∀(h0:0<=i),Dx B c0 xs lo hi i->EndsT YP B c0 (.bool ((xs.drop i.toNat).all (fun x=>WQ x lo hi)))):=by
 intro m0;induction m0 using Nat.strongRecOn with
 |_ m0 ih0=>
  intro i hm0 h0 ⟨Qn,Ur,XM⟩;by_cases q0:(i:Int)<((↑xs.length:Int))
  ·have WB:Qz (fw B xs lo hi i Qn):=by
    exact⟨⟨by omega,by omega,(Q4 (z:=1) (fun _=>rfl) (by omega))⟩,⟨(XF q0),trivial⟩⟩
   cases q1:WQ (xs.getD i.toNat default) lo hi with
   |true=>
    exact((ih0 _ (by omega)) (i+1) rfl (by omega)
     (XM.landM okF hJ Qf (Dv B xs lo hi i Qn)
     ⟨(Xy (by omega) (by omega)),⟨⟨trivial,(by have t_:=tz (xs.getD i.toNat default) (lo) (hi);rw[q1]at t_;exact t_)⟩,WB⟩⟩ (by kernel_rfl) (by kernel_rfl))).cast (by(rw[xW (i:=i)];(· simp_all);(· omega);(· omega)))
   |false=>
    exact(GoE.endsT okF hJ Qf XM (Du B xs lo hi i Qn)
     ⟨⟨trivial,(by have t_:=tz (xs.getD i.toNat default) (lo) (hi);rw[q1]at t_;exact t_)⟩,WB⟩).cast (by(rw[xW (i:=i)];(· simp_all);(· omega);(· omega)))
  ·exact(GoE.endsT okF hJ Qf XM (Dt B xs lo hi i Qn)
    ⟨(XO (Int.not_lt.1 q0)),trivial⟩).cast (by(rw[HB (i:=i)];(· simp_all);(· omega)))
set_option maxHeartbeats 4000000 in
theorem G6(xs:List Int)(lo hi:Int)  (Xt:xs.length<=9223372036854775807){B:Lo}(hJ:∀w,B.has w->J0 w):EndsT YP B (Qp YP 74 21 (([Xr xs,.int .i64 lo,.int .i64 hi]).map (Q2 0 4))) (.bool (xs.all (fun x=>WQ x lo hi))):=by
 exact((Dw xs lo hi Xt hJ _) (0) rfl (by omega)
  (GoE.start.landM okF hJ Qf (Ds B xs lo hi)
  trivial (by kernel_rfl) (by kernel_rfl))).cast (by rfl)
theorem G7(xs:List Int)(lo hi:Int)  :Qx YP J0 74 #[Xr xs,.int .i64 lo,.int .i64 hi] (.bool (xs.all (fun x=>WQ x lo hi))):=
 Va (ts:=[Xr xs,.int .i64 lo,.int .i64 hi]) (xs.length<=9223372036854775807) (fun _ _ ht=>ht.ln (i:=0) rfl) Za (c0:=Qp YP 74 21 (([Xr xs,.int .i64 lo,.int .i64 hi]).map (Q2 0 4))) (by kernel_rfl) (by kernel_rfl) fun Xt B hJ=>G6 xs lo hi  Xt hJ
def mg(n a b:Int):Array Value:=#[.int .i64 n,.int .i64 a,.int .i64 b]
theorem zR(B:Lo)(n a b:Int):QQ (Qq YP (Q3 YP) J0 B 6 1 (Qp YP 101 11 (([.int .i64 n,.agg #[.int .i64 a,.int .i64 b]]).map (Q2 0 4))) XV 1
 [(7,Qk.pure (.bool true) [])] 0 [] []) []=some (.bool true,
 [Qz []/\Qx YP J0 72 (mg n a b) (.bool true)]):=by kernel_rfl
theorem zQ(B:Lo)(n a b:Int):QQ (Qq YP (Q3 YP) J0 B 6 1 (Qp YP 101 11 (([.int .i64 n,.agg #[.int .i64 a,.int .i64 b]]).map (Q2 0 4))) XV 1
 [(7,Qk.pure (.bool false) [])] 0 [] []) []=some (.bool false,
 [Qz []/\Qx YP J0 72 (mg n a b) (.bool false)]):=by kernel_rfl
set_option maxHeartbeats 4000000 in
theorem CV(n a b:Int)  {B:Lo}(hJ:∀w,B.has w->J0 w):EndsT YP B (Qp YP 101 11 (([.int .i64 n,.agg #[.int .i64 a,.int .i64 b]]).map (Q2 0 4))) (.bool (WQ n a b)):=by
 cases q0:WQ n a b with
 |true=>
  exact(GoE.endsT okF hJ Qf GoE.start (zR B n a b)
   ⟨⟨trivial,(by have t_:=tz (n) (a) (b);rw[q0]at t_;exact t_)⟩,trivial⟩).cast (by rfl)
 |false=>
  exact(GoE.endsT okF hJ Qf GoE.start (zQ B n a b)
   ⟨⟨trivial,(by have t_:=tz (n) (a) (b);rw[q0]at t_;exact t_)⟩,trivial⟩).cast (by rfl)
theorem Bi(n a b:Int)  :Qx YP J0 101 #[.int .i64 n,.agg #[.int .i64 a,.int .i64 b]] (.bool (WQ n a b)):=
 Xn (ts:=[.int .i64 n,.agg #[.int .i64 a,.int .i64 b]]) Za (c0:=Qp YP 101 11 (([.int .i64 n,.agg #[.int .i64 a,.int .i64 b]]).map (Q2 0 4))) (by kernel_rfl) (by kernel_rfl) fun B hJ=>CV n a b  hJ
def Sa(B:Lo)(a b lo hi:Int):List Prop:=[(!XU a lo)=true]++([]:List Prop)
def cP(a b lo hi:Int):Q5:=[(5,Wo)]
def RZ(B:Lo)(a b lo hi:Int):List Prop:=[(!XU b a)=true]++Sa B a b lo hi
def cO(a b lo hi:Int):Q5:=cP a b lo hi++[(11,Wo)]
theorem rT(B:Lo)(a b lo hi:Int):QQ (Qq YP (Q3 YP) J0 B 6 1 (Qp YP 114 24 (([.agg #[.int .i64 a,.int .i64 b],.int .i64 lo,.int .i64 hi]).map (Q2 0 4))) XV 1
 (cO a b lo hi++[(17,Wo)]) 0 [] []) []=some (.bool true,
 [(!XU hi b)=true]++RZ B a b lo hi):=by kernel_rfl
theorem rS(B:Lo)(a b lo hi:Int):QQ (Qq YP (Q3 YP) J0 B 6 1 (Qp YP 114 24 (([.agg #[.int .i64 a,.int .i64 b],.int .i64 lo,.int .i64 hi]).map (Q2 0 4))) XV 1
 (cO a b lo hi++[(17,W8)]) 0 [] []) []=some (.bool false,
 [(!XU hi b)=false]++RZ B a b lo hi):=by kernel_rfl
theorem rR(B:Lo)(a b lo hi:Int):QQ (Qq YP (Q3 YP) J0 B 6 1 (Qp YP 114 24 (([.agg #[.int .i64 a,.int .i64 b],.int .i64 lo,.int .i64 hi]).map (Q2 0 4))) XV 1
 (cP a b lo hi++[(11,W8)]) 0 [] []) []=some (.bool false,
 [(!XU b a)=false]++Sa B a b lo hi):=by kernel_rfl
theorem rQ(B:Lo)(a b lo hi:Int):QQ (Qq YP (Q3 YP) J0 B 6 1 (Qp YP 114 24 (([.agg #[.int .i64 a,.int .i64 b],.int .i64 lo,.int .i64 hi]).map (Q2 0 4))) XV 1
 [(5,W8)] 0 [] []) []=some (.bool false,
 [(!XU a lo)=false]):=by kernel_rfl
set_option maxHeartbeats 4000000 in
theorem vF(a b lo hi:Int)  {B:Lo}(hJ:∀w,B.has w->J0 w):EndsT YP B (Qp YP 114 24 (([.agg #[.int .i64 a,.int .i64 b],.int .i64 lo,.int .i64 hi]).map (Q2 0 4))) (.bool (WK a b lo hi)):=by
 by_cases q0:(lo:Int)<=(a)
 ·have WB:Qz (Sa B a b lo hi):=by
   exact⟨(Ua q0),trivial⟩
  by_cases q1:(a:Int)<=(b)
  ·have JE:Qz (RZ B a b lo hi):=by
    exact⟨(Ua q1),WB⟩
   by_cases q2:(b:Int)<=(hi)
   ·exact(GoE.endsT okF hJ Qf GoE.start (rT B a b lo hi)
     ⟨(Ua q2),JE⟩).cast (by(simp[WK, *];done))
   ·exact(GoE.endsT okF hJ Qf GoE.start (rS B a b lo hi)
     ⟨(Ub (Int.not_le.1 q2)),JE⟩).cast (by(simp[WK, *];done))
  ·exact(GoE.endsT okF hJ Qf GoE.start (rR B a b lo hi)
    ⟨(Ub (Int.not_le.1 q1)),WB⟩).cast (by(simp[WK, *];done))
 ·exact(GoE.endsT okF hJ Qf GoE.start (rQ B a b lo hi)
   ⟨(Ub (Int.not_le.1 q0)),trivial⟩).cast (by(simp[WK, *];done))
theorem qt(a b lo hi:Int)  :Qx YP J0 114 #[.agg #[.int .i64 a,.int .i64 b],.int .i64 lo,.int .i64 hi] (.bool (WK a b lo hi)):=
 Xn (ts:=[.agg #[.int .i64 a,.int .i64 b],.int .i64 lo,.int .i64 hi]) Za (c0:=Qp YP 114 24 (([.agg #[.int .i64 a,.int .i64 b],.int .i64 lo,.int .i64 hi]).map (Q2 0 4))) (by kernel_rfl) (by kernel_rfl) fun B hJ=>vF a b lo hi  hJ
def mf(a b most:Int):Array Value:=#[.agg #[.int .i64 a,.int .i64 b],.int .i64 0,.int .i64 most]
theorem zN(B:Lo)(a b most:Int):QQ (Qq YP (Q3 YP) J0 B 6 1 (Qp YP 96 8 (([.agg #[.int .i64 a,.int .i64 b],.int .i64 most]).map (Q2 0 4))) XV 1
 [(4,Qk.pure (.bool true) [])] 0 [] []) []=some (.bool true,
 [Qz []/\Qx YP J0 114 (mf a b most) (.bool true)]):=by kernel_rfl
theorem zM(B:Lo)(a b most:Int):QQ (Qq YP (Q3 YP) J0 B 6 1 (Qp YP 96 8 (([.agg #[.int .i64 a,.int .i64 b],.int .i64 most]).map (Q2 0 4))) XV 1
 [(4,Qk.pure (.bool false) [])] 0 [] []) []=some (.bool false,
 [Qz []/\Qx YP J0 114 (mf a b most) (.bool false)]):=by kernel_rfl
set_option maxHeartbeats 4000000 in
theorem CU(a b most:Int)  {B:Lo}(hJ:∀w,B.has w->J0 w):EndsT YP B (Qp YP 96 8 (([.agg #[.int .i64 a,.int .i64 b],.int .i64 most]).map (Q2 0 4))) (.bool (WK a b 0 most)):=by
 cases q0:WK a b 0 most with
 |true=>
  exact(GoE.endsT okF hJ Qf GoE.start (zN B a b most)
   ⟨⟨trivial,(by have t_:=qt (a) (b) (0) (most);rw[q0]at t_;exact t_)⟩,trivial⟩).cast (by rfl)
 |false=>
  exact(GoE.endsT okF hJ Qf GoE.start (zM B a b most)
   ⟨⟨trivial,(by have t_:=qt (a) (b) (0) (most);rw[q0]at t_;exact t_)⟩,trivial⟩).cast (by rfl)
theorem av(a b most:Int)  :Qx YP J0 96 #[.agg #[.int .i64 a,.int .i64 b],.int .i64 most] (.bool (WK a b 0 most)):=
 Xn (ts:=[.agg #[.int .i64 a,.int .i64 b],.int .i64 most]) Za (c0:=Qp YP 96 8 (([.agg #[.int .i64 a,.int .i64 b],.int .i64 most]).map (Q2 0 4))) (by kernel_rfl) (by kernel_rfl) fun B hJ=>CU a b most  hJ
theorem Gz(B:Lo)(a b:Int):QQ (Qq YP (Q3 YP) J0 B 6 1 (Qp YP 77 5 (([.agg #[.int .i64 a,.int .i64 b]]).map (Q2 0 4))) XV 1
 [] 0 [] []) []=some (.int .i64 b,
 []):=by kernel_rfl
set_option maxHeartbeats 4000000 in
theorem Lb(a b:Int)  {B:Lo}(hJ:∀w,B.has w->J0 w):EndsT YP B (Qp YP 77 5 (([.agg #[.int .i64 a,.int .i64 b]]).map (Q2 0 4))) (.int .i64 b):=by
 exact(GoE.endsT okF hJ Qf GoE.start (Gz B a b)
  trivial).cast (by rfl)
theorem Od(a b:Int)  :Qx YP J0 77 #[.agg #[.int .i64 a,.int .i64 b]] (.int .i64 b):=
 Xn (ts:=[.agg #[.int .i64 a,.int .i64 b]]) Za (c0:=Qp YP 77 5 (([.agg #[.int .i64 a,.int .i64 b]]).map (Q2 0 4))) (by kernel_rfl) (by kernel_rfl) fun B hJ=>Lb a b  hJ
theorem La(B:Lo)(a b:Int):QQ (Qq YP (Q3 YP) J0 B 6 1 (Qp YP 76 5 (([.agg #[.int .i64 a,.int .i64 b]]).map (Q2 0 4))) XV 1
 [] 0 [] []) []=some (.int .i64 a,
 []):=by kernel_rfl
set_option maxHeartbeats 4000000 in
theorem Nb(a b:Int)  {B:Lo}(hJ:∀w,B.has w->J0 w):EndsT YP B (Qp YP 76 5 (([.agg #[.int .i64 a,.int .i64 b]]).map (Q2 0 4))) (.int .i64 a):=by
 exact(GoE.endsT okF hJ Qf GoE.start (La B a b)
  trivial).cast (by rfl)
theorem OE(a b:Int)  :Qx YP J0 76 #[.agg #[.int .i64 a,.int .i64 b]] (.int .i64 a):=
 Xn (ts:=[.agg #[.int .i64 a,.int .i64 b]]) Za (c0:=Qp YP 76 5 (([.agg #[.int .i64 a,.int .i64 b]]).map (Q2 0 4))) (by kernel_rfl) (by kernel_rfl) fun B hJ=>Nb a b  hJ
theorem Gw(B:Lo)(a r:Int):let b:=Int.tdiv (a*r) 1000;QQ (Qq YP (Q3 YP) J0 B 6 1 (Qp YP 115 9 (([.int .i64 a,.int .i64 r]).map (Q2 0 4))) XV 1
 [(3,VE (a*r)),(4,VE b)] 0 [] []) []=some (.int .i64 b,
 [IntKind.wrap .i64 b=Int.tdiv (a*r) 1000,wq (a*r)=a*r]):=by intro b;kernel_rfl
set_option maxHeartbeats 4000000 in
theorem IZ(a r:Int)(ha:0<=a/\a<=1000000000000)(hr:0<=r/\r<=1000000){B:Lo}(hJ:∀w,B.has w->J0 w):EndsT YP B (Qp YP 115 9 (([.int .i64 a,.int .i64 r]).map (Q2 0 4))) (.int .i64 ((a*r).tdiv 1000)):=by
 have e0:0<=a*r:=Int.mul_nonneg ha.1 hr.1;have e1:a*r<=1000000000000*1000000:=Int.mul_le_mul ha.2 hr.2 hr.1 (by omega);have e2:(a*r).tdiv 1000=(a*r) / 1000:=Int.tdiv_eq_ediv_of_nonneg e0;exact(GoE.endsT okF hJ Qf GoE.start (Gw B a r)
  ⟨(Ty (by omega) (by omega)),⟨(Xy (by omega) (by omega)),trivial⟩⟩).cast (by rfl)
theorem Gx(a r:Int)(ha:0<=a/\a<=1000000000000)(hr:0<=r/\r<=1000000):Qx YP J0 115 #[.int .i64 a,.int .i64 r] (.int .i64 ((a*r).tdiv 1000)):=
 Xn (ts:=[.int .i64 a,.int .i64 r]) Za (c0:=Qp YP 115 9 (([.int .i64 a,.int .i64 r]).map (Q2 0 4))) (by kernel_rfl) (by kernel_rfl) fun B hJ=>IZ a r ha hr hJ
theorem oJ(B:Lo)(a r:Int):let c:=.int .i64 (Int.tdiv (a*r) 1000);let b:=a+Int.tdiv (a*r) 1000;QQ (Qq YP (Q3 YP) J0 B 6 1 (Qp YP 100 10 (([.int .i64 a,.int .i64 r]).map (Q2 0 4))) XV 1
 [(4,Qk.pure c []),(5,VE b)] 0 [] []) []=some (.int .i64 b,
 [wq b=a+Int.tdiv (a*r) 1000,Qz []/\Qx YP J0 115 #[.int .i64 a,.int .i64 r] c]):=by intro c b;kernel_rfl
set_option maxHeartbeats 4000000 in
theorem rF(a r:Int)(ha:0<=a/\a<=1000000000000)(hr:0<=r/\r<=1000000){B:Lo}(hJ:∀w,B.has w->J0 w):EndsT YP B (Qp YP 100 10 (([.int .i64 a,.int .i64 r]).map (Q2 0 4))) (.int .i64 (a+(a*r).tdiv 1000)):=by
 have e0:0<=a*r:=Int.mul_nonneg ha.1 hr.1;have e1:a*r<=1000000000000*1000000:=Int.mul_le_mul ha.2 hr.2 hr.1 (by omega);have e2:(a*r).tdiv 1000=(a*r) / 1000:=Int.tdiv_eq_ediv_of_nonneg e0;exact(GoE.endsT okF hJ Qf GoE.start (oJ B a r)
  ⟨(Xy (by omega) (by omega)),⟨⟨trivial,Gx (a) (r) (by with_reducible assumption) (by with_reducible assumption)⟩,trivial⟩⟩).cast (by rfl)
theorem zw(a r:Int)(ha:0<=a/\a<=1000000000000)(hr:0<=r/\r<=1000000):Qx YP J0 100 #[.int .i64 a,.int .i64 r] (.int .i64 (a+(a*r).tdiv 1000)):=
 Xn (ts:=[.int .i64 a,.int .i64 r]) Za (c0:=Qp YP 100 10 (([.int .i64 a,.int .i64 r]).map (Q2 0 4))) (by kernel_rfl) (by kernel_rfl) fun B hJ=>rF a r ha hr hJ
def gX(n:Int):Array Value:=#[.int .i64 n,.int .i64 0,.int .i64 1000000]
theorem vC(B:Lo)(n:Int):QQ (Qq YP (Q3 YP) J0 B 6 1 (Qp YP 95 5 (([.int .i64 n]).map (Q2 0 4))) XV 1
 [(2,Qk.pure (.bool true) [])] 0 [] []) []=some (.bool true,
 [Qz []/\Qx YP J0 72 (gX n) (.bool true)]):=by kernel_rfl
theorem vB(B:Lo)(n:Int):QQ (Qq YP (Q3 YP) J0 B 6 1 (Qp YP 95 5 (([.int .i64 n]).map (Q2 0 4))) XV 1
 [(2,Qk.pure (.bool false) [])] 0 [] []) []=some (.bool false,
 [Qz []/\Qx YP J0 72 (gX n) (.bool false)]):=by kernel_rfl
set_option maxHeartbeats 4000000 in
theorem zL(n:Int)  {B:Lo}(hJ:∀w,B.has w->J0 w):EndsT YP B (Qp YP 95 5 (([.int .i64 n]).map (Q2 0 4))) (.bool (WQ n 0 1000000)):=by
 cases q0:WQ n 0 1000000 with
 |true=>
  exact(GoE.endsT okF hJ Qf GoE.start (vC B n)
   ⟨⟨trivial,(by have t_:=tz (n) (0) (1000000);rw[q0]at t_;exact t_)⟩,trivial⟩).cast (by rfl)
 |false=>
  exact(GoE.endsT okF hJ Qf GoE.start (vB B n)
   ⟨⟨trivial,(by have t_:=tz (n) (0) (1000000);rw[q0]at t_;exact t_)⟩,trivial⟩).cast (by rfl)
theorem PZ(n:Int)  :Qx YP J0 95 #[.int .i64 n] (.bool (WQ n 0 1000000)):=
 Xn (ts:=[.int .i64 n]) Za (c0:=Qp YP 95 5 (([.int .i64 n]).map (Q2 0 4))) (by kernel_rfl) (by kernel_rfl) fun B hJ=>zL n  hJ
end
end Go.Proofs.Ytncjjangllkokaa

