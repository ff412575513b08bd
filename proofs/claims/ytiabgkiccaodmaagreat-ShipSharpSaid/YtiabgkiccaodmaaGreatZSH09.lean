/- TX 2: frames that defer a function that recovers. -/
import Derived.Test.YtiabgkiccaodmaaGreatZSH08
import Derived.Test.YtiabgkiccaodmaaGreatZSH06
import Derived.Test.YtiabgkiccaodmaaGreatProg
set_option linter.all false
namespace Go.CE
open Go Go.RowKit

def Q3y:OO->CM
 | .ret _=> .ret
 | .pan v=> .pan v
def Q7f:OO->Value
 | .ret _=> .nilIface
 | .pan v=> v
def Q7m:CM->Option OO
 | .run=> none
 | .ret=> some (.ret (.tuple #[]))
 | .pan v=> some (.pan v)
theorem Q4C {m:CM} {o:OO} (h:Q7m m=some o):m=Q3y o:=by
 cases m with
 | run=> cases h
 | ret=> cases h;rfl
 | pan v=> cases h;rfl
def Q46 (T:Tm):Tm:=ofList T.len ((List.range T.len).map (Qcd T))
theorem Q3h {μ:Mu} {T:Tm} {A:Array Value} (hl:T.len<=16000) (h:TR μ T A):TR μ (Q46 T) A:=by
 refine ⟨h.1,fun t=> ?_⟩;simp only [Q46,Qcd,ofList];rw [QjL _ _ _ _ (by simp;omega)];split
 ·rename_i ht;have ht:t < T.len:=by simpa using ht
  have:=h.2 t;simp only [Qcd] at this;rw [Nat.sub_zero,List.getD_eq_getElem?_getD,List.getElem?_map,List.getElem?_range ht];exact this
 ·rename_i ht;have ht:T.len<=t:=by simpa using ht
  rw [Tri.get_lf];have hA:A.getD t undef=undef:=by
   rw [Array.getD_eq_getD_getElem?,Array.getElem?_eq_none (by rw [<-h.1];exact ht)];rfl
  rw [hA];exact VR.undef
structure SpD where
 c:CF
 H:Qax
 n:Nat
 g:FuncId
 args:Array Value
 R:List Nat
 W:List Nat
noncomputable def Q4E (P:Program) (F:FuncId->Bool) (c1:CF) (H:Qax) (n:Nat):Option SpD:=
 match c1.mode,c1.todo,c1.defers,c1.roundOf with
 | .run,.code (.region _ ops false)::todo,[],none=> match QyZ P F Qb4 0 ops c1 H n with
   | some s=> match s.o.op,s.post with
     | .defer c,[]=> match c.callee with
       | .value x=> match evC s.T x with
         | some (.func (.func g) xs ys)=> bif c.args.isEmpty && F g && Nat.ble s.T.len 16000 then some ⟨⟨c1.fn,Q46 (QgF s.T s.o.dst undef),todo,[],.run,none⟩,s.H,s.n,g,xs++ys,Qlw s.recs,Qjs s.recs⟩ else none
         | _=> none
       | _=> none
     | _,_=> none
   | none=> none
 | _,_,_,_=> none
def UJ (P:Program) (B:Lo) (c:CF) (H:Qax) (n:Nat) (out:OO) (live:List (Nat×Value)) (H':Qax) (n':Nat) (R W:List Nat):Prop:=
 ∃(d:Nat->Value) (td:List Item),GoJ P B c H n ⟨c.fn,mkT c.tmps.len live d,td,[],Q3y out,c.roundOf⟩ H' n' R W
noncomputable def Qzw (P:Program) (F:FuncId->Bool) (J:World->Prop) (B:Lo) (k b:Nat) (c:CF) (H:Qax) (n:Nat) (out:OO) (live:List (Nat×Value)) (ups:Qax) (n':Nat) (Wk:List Nat) (res:Value) (resR:List Nat):Option ST:=
 match Qam P F J B k b c H n [] 0 [] [] with
 | some ⟨.at c1 H1 n1,W1,L1⟩=> match Q4E P F c1 H1 n1 with
   | some s=> match Qoa P F Qb4 0 b s.g s.args (Q7f out) (ups++s.H) n' [] (Qeb b Wk (Qeb b s.W W1)) with
     | some m3=> some ⟨.fin (.ret res) m3.H m3.n,m3.W,UJ P B s.c s.H s.n out live (ups++s.H) n' (List.range s.n) Wk::(∀d,Qxk P s.c.fn m3.H (mkT s.c.tmps.len live d)=some (res,resR))::L1⟩
     | none=> none
   | none=> none
 | _=> none
def Q5z (P:Program) (B:Lo) (b:Nat) (c:CF) (H:Qax) (n:Nat) (s:Option ST):Prop:=
 ∀out H' n' W' L',s=some ⟨.fin out H' n',W',L'⟩->QaA L'->∃R W2,FJ P B c H n out H' n' R W2/\∀i,i < b->(i∈W'<->i∈W2)
section
variable {P:Program} {F:FuncId->Bool} {J:World->Prop} {B:Lo} {c0 c:CF} {Hb H:Qax} {a n:Nat} {W Wf:List Nat}
theorem Qti (hF:∀g,F g=true->Qa1 P g=true) (hmix:P.follows .mixedOrders=true) {c1:CF} {H1:Qax} {n1:Nat} {s:SpD} (hu:Under H1 n1) (h:Q4E P F c1 H1 n1=some s):
 Shape H1 n1 s.H s.n s.R s.W/\Under s.H s.n/\F s.g=true/\s.c.fn=c1.fn/\s.c.roundOf=none/\s.c.defers=[]/\s.c.mode=.run/\
 ∀(S:Nat->Prop) (n N:Nat) (W:List Nat) (μ0 μ:Mu) (H0:Qax) (w0 w:World),Sofar B S n N W μ0 μ H0 H1 n1 w0 w->(∀i,S i->i < n)->s.n<=N->(∀i∈s.R,i < n->S i)->∀(fr1:Frame) (cs:List Frame),FrR Bot.no μ c1 fr1->
  ∃(xs' ys':Array Value) (fr2:Frame) (w':World) (μ':Mu),Sofar B S n N (W++s.W) μ0 μ' H0 s.H s.n w0 w'/\Ext μ μ'/\FrR ⟨[{target:=.fn (.func s.g) ys',args:=xs'}],.normal⟩ μ' s.c fr2/\fr2.fn=fr1.fn/\VRs μ' s.args (xs'++ys')/\Steps P (lone fr1 cs w) (lone fr2 cs w'):=by
 unfold Q4E at h;split at h
 ·rename_i id ops todo hmode1 htodo1 hds1 hro;split at h
  ·rename_i q hs;obtain ⟨pre,e1,e2,e3,e4,e5,e6,e7,e8⟩:=Qis (B:=B) hF hmix (QaP P B) hu hs;split at h
   ·rename_i c hop hpost;split at h
    ·rename_i x hcal;split at h
     ·rename_i g xs ys hx;cases hca:(c.args.isEmpty && F g && Nat.ble q.T.len 16000) with
      | false=> rw [hca] at h;cases h
      | true=>
        rw [hca] at h;simp only [cond_true,YO] at h;subst h;simp only [YB] at hca;have hlenT:=YL hca.2;have sh2:=QbZ q.recs _ _ _ _ _ _ e4 e2;refine ⟨sh2,e6,hca.1.2,rfl,rfl,rfl,rfl,fun S n N W μ0 μ H0 w0 w s1 hS hN hR fr1 cs hfr1=> ?_⟩;simp only at hN hR ⊢;have hro1:fr1.roundOf=none:=by
         have:=hfr1.round;rw [hro] at this;generalize fr1.roundOf=z at this ⊢;cases z with
         | none=> rfl
         | some z=> cases this
        obtain ⟨ha,hb,hd⟩:=hfr1.running hmode1;rw [htodo1] at hd;obtain ⟨L',hL,hL'⟩:=hd.code;have hd1:fr1.defers=[]:=by
         have:=hfr1.defers;rw [hds1] at this;exact this.empty
        rw [hpost] at e1;have hlen:ops.size=pre.length+(0+1):=by
         have:=congrArg List.length e1;simp at this;omega
        have hat:ops[pre.length]? =some q.o:=by
         rw [<-Array.getElem?_toList,e1,List.getElem?_append_right (Nat.le_refl _)];simp
        have hplen:q.recs.length=pre.length:=by have:=congrArg List.length e5;simpa using this
        have hown1:∀(j:Nat) r,q.recs[j]? =some r->ops[0+j]? =some r.o:=by
         intro j r hj;rw [Nat.zero_add];exact Qeq (l:=ops.toList) (l2:=[q.o]) (by rw [e5];exact e1.symm) rfl j r hj
        obtain ⟨A1,w2,μ2,s2,hT2,x2,st2⟩:=s1.seq hS e4 e2 e3 0 hown1 rfl hN hR ha hb (pre.length::List.range' (pre.length+1) 0) L' cs;have hin:step P (lone fr1 cs w)=.next (lone (Qbl fr1 fr1.tmps ops (List.range' 0 ops.size) L') cs w):=QbH ha hL;rw [range_split hlen] at hin;rw [hplen] at st2;have hwant:Region.wanted q.o (yielded ops A1)=true:=by rw [Qep hT2];exact e8
        have hvx:=Qtg (fr:=Qbl fr1 A1 ops (pre.length::List.range' (pre.length+1) 0) L') hT2 x _ hx;have hca':c.args=#[]:=by simpa [Array.isEmpty] using hca.1.1
        generalize hgx:(Qbl fr1 A1 ops (pre.length::List.range' (pre.length+1) 0) L').eval x=ux at hvx;cases hvx with
        | func q1 q2 q3 q4=>
          rename_i xs' ys';have hdv:(Deferred.ofValue ((Qbl fr1 A1 ops (pre.length::List.range' (pre.length+1) 0) L').eval x) (c.args.map (Qbl fr1 A1 ops (pre.length::List.range' (pre.length+1) 0) L').eval)).run P w2=.ok {target:=.fn (.func g) ys',args:=xs'} w2:=by
           rw [hgx,hca'];simp [Deferred.ofValue]
          have st3:=step_defer (cs:=cs) (w:=w2) ha hro1 hat hwant hop hcal hdv;rw [Qfl hat] at st3;have hdst:=Qgm e7;have hT3:TR μ2 (QgF q.T q.o.dst undef) (putA A1 undef q.o.dst):=hT2.putA hdst VR.undef;have st4:step P (lone {Qbl fr1 (putA A1 undef q.o.dst) ops (List.range' (pre.length+1) 0) L' with defers:={target:=.fn (.func g) ys',args:=xs'}::fr1.defers} cs w2)=
           .next (lone {fr1 with tmps:=putA A1 undef q.o.dst,todo:=L',defers:={target:=.fn (.func g) ys',args:=xs'}::fr1.defers} cs w2):=
           QcD (fr:={fr1 with defers:={target:=.fn (.func g) ys',args:=xs'}::fr1.defers}) (A:=putA A1 undef q.o.dst) (ops:=ops) (k:=L') ha
          have k1:VRs μ2 xs xs':=⟨q1,q3⟩
          have k2:VRs μ2 ys ys':=⟨q2,q4⟩
          refine ⟨xs',ys',{fr1 with tmps:=putA A1 undef q.o.dst,todo:=L',defers:={target:=.fn (.func g) ys',args:=xs'}::fr1.defers},w2,μ2,s2,x2,⟨hfr1.fn,Q3h (by rw [QdK];exact hlenT) hT3,fun _=> hL'.mono x2,.of_empty (by simp [hd1]), ?_,hfr1.kind,by rw [<-hro];exact hfr1.round.mono x2⟩,rfl,k1.append k2,.head hin (st2.trans (.head st3 (.one st4)))⟩;have:=hfr1.mode;rw [hmode1] at this;show MR μ2 .run fr1.mode;generalize fr1.mode=z at this ⊢;cases this;exact .run
     ·cases h
    ·cases h
   ·cases h
  ·cases h
 ·cases h
theorem Qsz (hF:∀g,F g=true->Qa1 P g=true) (hJ:∀w,B.has w->J w) (hmix:P.follows .mixedOrders=true) {k b:Nat} {out:OO} {live:List (Nat×Value)} {ups:Qax} {n':Nat} {Wk:List Nat} {res:Value} {resR:List Nat} (hu:Under H n):
 Q5z P B b c H n (Qzw P F J B k b c H n out live ups n' Wk res resR):=by
 intro o H' nz W' L' h ha;unfold Qzw at h;split at h
 ·rename_i c1 H1 n1 W1 L1 hs1;split at h
  ·rename_i s hs2;split at h
   ·rename_i m3 hm3;simp only [YO,ST.mk.injEq,SR.fin.injEq] at h;obtain ⟨⟨rfl,rfl,rfl⟩,rfl,rfl⟩:=h;obtain ⟨⟨d,td,hU⟩,hres,hL1⟩:=ha;have hres:=hres d;obtain ⟨R1,W1',g1,a1⟩:=QbV hF hJ hmix k b c H n [] 0 [] [] _ hu hs1 hL1;have g1:GoJ P B c H n c1 H1 n1 R1 W1':=g1;simp only at a1;have hu1:Under H1 n1:=hu.shape g1.shape;obtain ⟨sh2,hu2,hFg,hfn2,hro2,hds2,hmode2,hsp⟩:=Qti (B:=B) hF hmix hu1 hs2;have hu3:Under (ups++s.H) n':=hu2.shape hU.shape;obtain ⟨Rr,Wr,sh3,ar,br,hsem⟩:=Qk5 (B:=B) hF hmix (QaP P B) hu3 hm3;have hu4:Under m3.H m3.n:=hu3.shape sh3;have shAll:=((g1.shape.trans sh2).trans hU.shape).trans sh3;have l1:=g1.shape.le;have l2:=sh2.le;have l3:=hU.shape.le;have l4:=sh3.le;refine ⟨(((R1++s.R)++List.range s.n)++Rr)++resR,((W1'++s.W)++Wk)++Wr,⟨⟨shAll.le,shAll.keep,shAll.top,fun i hi=> List.mem_append_left _ (shAll.sub i hi),shAll.wlt⟩,fun S μ w fr cs hok hB hS hf hfr0 hR=> ?_⟩,fun i hi=> ?_⟩
    ·simp only [List.mem_append] at hR;have sf0:Sofar B S n m3.n [] μ μ H H n w w:=⟨Post.refl hok,hB,hf⟩
     obtain ⟨fr1,w1,μ1,s1,hfr1,hr1,hfn1,st1,x1⟩:=sf0.goj hS g1 (by omega) (fun i hi=> hR i (.inl (.inl (.inl (.inl hi))))) hfr0 cs;obtain ⟨xs',ys',fr2,w2,μ2,s2,x2,hfr2,hfnq,hvargs,st2⟩:=hsp S n m3.n _ μ μ1 H w w1 s1 hS (by omega) (fun i hi=> hR i (.inl (.inl (.inl (.inr hi))))) fr1 cs hfr1;obtain ⟨fr3,w3,μ3,s3,hfr3,hr3,hfn3,st3,x3⟩:=s2.goj hS hU (by omega) (fun i hi=> hR i (.inl (.inl (.inr hi)))) hfr2 cs;have hd3:fr3.defers=[{target:=.fn (.func s.g) ys',args:=xs'}]:=by
      have:=hfr3.defers;exact this.empty
     have hun:Qts μ3 (Q7f out) {fr3 with defers:=[]}/\fr3.mode≠.run:=by
      have hm:=hfr3.mode;simp only at hm;generalize fr3.mode=q at hm ⊢;cases out with
      | ret v=>
        simp only [Q3y] at hm;cases hm;exact ⟨.inl ⟨rfl,rfl⟩,fun e=> by cases e⟩
      | pan v=>
        simp only [Q3y] at hm;cases hm with
        | pan hvr=> exact ⟨.inr ⟨_,hvr,rfl⟩,fun e=> by cases e⟩
     have st6:step P (lone fr3 cs w3)=.next (lone (Frame.enter P s.g (xs'++ys') .deferred) ({fr3 with defers:=[]}::cs) w3):=
      Qfu hun.2 hd3 rfl (QgU (hF s.g hFg) _ w3)
     obtain ⟨w4,μ4,s4,x4,st7⟩:=hsem S n m3.n _ μ μ3 H w w3 s3 hS (Nat.le_refl _) (fun i hi=> hR i (.inl (.inr hi))) _ {fr3 with defers:=[]} cs (hvargs.mono x3) hun.1
     obtain ⟨fn,v',hfn,hresr,hvr⟩:=Qpw hu4 s4.post.ok (hfr3.tmps.mono x4) hres (fun i hi hlt=> by
      rcases Nat.lt_or_ge i n with h1 | h1
      ·exact .inl (hR i (.inr hi) h1)
      ·exact .inr ⟨h1,hlt⟩)
     have hfnE:fr3.fn=fr.fn:=by rw [hfn3,hfnq,hfn1]
     have hro3:fr3.roundOf=none:=by
      have:=hfr3.round;simp only [hro2] at this;generalize fr3.roundOf=z at this ⊢;cases z with
      | none=> rfl
      | some z=> cases this
     have hleave:({fr3 with defers:=[],mode:=.returning}:Frame).leaving P w4 (.returned v'):=⟨rfl,rfl,hfr3.kind,fn,by rw [<-hfn,hfr3.fn],hresr⟩
     have hst:Steps P (lone fr cs w) (lone {fr3 with defers:=[],mode:=.returning} cs w4):=
      st1.trans (st2.trans (st3.trans (.head st6 st7)))
     refine ⟨.ret v',w4,μ4,s4.post.lists (fun i hi=> by simp [List.append_assoc]),.ret hvr,fun _=> ⟨_,hst,hfnE,hleave⟩,fun c1 cs' e=> ?_⟩;subst e;exact hst.trans (.one (step_leave_returned hleave))
    ·rw [br i hi,Qb2 hi,Qb2 hi,a1 i hi];simp only [List.mem_append,List.not_mem_nil,false_or]
   ·cases h
  ·cases h
 ·cases h
def landU (a:Nat) (s:Option ST) (slots:List Nat) (wks keeps:List (Nat×KS)) (fz:List Fz):Option (FuncId×Nat×Option Nat×OO×List Value×Qax×List Obj×List Prop):=match s with
 | some ⟨.at c H _,W,L⟩=> bif QjC a H W wks keeps fz && c.todo.all Qdu then
  match Q7m c.mode,c.defers with
  | some o,[]=> match Qwp (coV H a (Qtj a (keeps.map (·.1))) fz 4) o,coL (coV H a (Qtj a (keeps.map (·.1))) fz 4) (slots.map (Qcd c.tmps)),Q31 H a (Qtj a (keeps.map (·.1))) fz wks,QiD H a (Qtj a (keeps.map (·.1))) fz keeps with
    | some (o1,L0),some (vs,L1),some (ws,L3),some (os,L2)=> some (c.fn,c.tmps.len,c.roundOf,o1,vs,ws,os,L0++(L1++(L3++(L2++L))))
    | _,_,_,_=> none
  | _,_=> none
   else none
 | _=> none
def FinU (P:Program) (B:Lo) (c0:CF) (Hb:Qax) (a:Nat) (out:OO) (live:List (Nat×Value)) (ws:Qax) (os:List Obj) (Wf:List Nat):Prop:=
 ∃(d:Nat->Value) (td:List Item),GoE P B c0 Hb a ⟨c0.fn,mkT c0.tmps.len live d,td,[],Q3y out,c0.roundOf⟩ (Qb5 Hb a ws os) (a+1+os.length) Wf
theorem GoE.landU (hF:∀g,F g=true->Qa1 P g=true) (hJ:∀w,B.has w->J w) (hmix:P.follows .mixedOrders=true) {wks:List (Nat×KS)} (hu:Under Hb a) (hw:Writable Hb a (wks.map (·.1))) (h:GoE P B c0 Hb a c H n (wks.map (·.1))) {fuel:Nat} {sc:Qaz} {slots:List Nat} {keeps:List (Nat×KS)} {fz:List Fz} {out:OO} {vs:List Value} {ws:Qax} {os:List Obj} {L:List Prop}
 (e:CE.landU a (Qam P F J B fuel a c H n sc 0 [] []) slots wks keeps fz=some (c0.fn,c0.tmps.len,c0.roundOf,out,vs,ws,os,L)) (hL:QaA L) (hlen:Nat.ble c0.tmps.len 16000=true) (hro:c0.roundOf=none):
 FinU P B c0 Hb a out (slots.zip vs) ws os (wks.map (·.1)):=by
 unfold CE.landU at e;split at e
 ·rename_i c' H' n' W' L' hs;cases hqq:(QjC a H' W' wks keeps fz && c'.todo.all Qdu) with
  | false=> rw [hqq] at e;cases e
  | true=>
    rw [hqq] at e;simp only [cond_true] at e;rw [YB] at hqq;obtain ⟨hq,hplain⟩:=hqq;split at e
    ·rename_i o0 hoo hdf;split at e
     ·rename_i o1 L0 vs0 L1 ws0 L3 os0 L2 ho1 hvs hws hos;simp only [YO,YR] at e;obtain ⟨e1,e2,e6,rfl,rfl,rfl,rfl,rfl⟩:=e;obtain ⟨hL0,hLr⟩:=QaN hL;obtain ⟨hL1,hLr⟩:=QaN hLr;obtain ⟨hL3,hLr⟩:=QaN hLr;obtain ⟨hL2,hL4⟩:=QaN hLr;obtain ⟨R,W2,hgo,hiff⟩:=QbV hF hJ hmix fuel a c H n sc 0 [] [] _ h.under hs hL4;have hg:=(h.step hgo).widen (Wf:=wks.map (·.1)) (fun i hi hm=> by
       rcases List.mem_append.1 hm with hm | hm
       ·exact hm
       ·have hi':i∈W':=(hiff i hi).2 (.inr hm);unfold QjC at hq;simp only [YB] at hq;simpa using List.all_eq_true.1 hq.1.1.1.1 i hi') hw
      have hd:∀t,∃d,Qbc d/\∀μ v',VR μ (Qcd c'.tmps t) v'->VR μ d v':=fun t=> Qe0 _
      have wslt:∀i o,Qa2 ws0 i=some o->i < a:=fun i o ho=> by
       have hq':=hq;unfold QjC at hq';simp only [YB] at hq';have hin:i∈wks.map (·.1):=Decidable.of_not_not fun e=> by
        have:=(Qlc wks ws0 L3 hws i).1.2 e;rw [this] at ho;cases ho
       obtain ⟨k,hk,rfl⟩:=List.mem_map.1 hin;exact YL (List.all_eq_true.1 hq'.1.1.1.2 k hk)
      have hmo:=Q4C hoo;refine ⟨fun t=> Classical.choose (hd t),c'.todo,Qik hu wslt,by omega,fun Z μ w fr cs hok hB hf hfr=> ?_⟩;obtain ⟨fr',w',μ',hp,hfr',ha,hb,hst⟩:=hg.sem Z μ w fr cs hok hB hf hfr;obtain ⟨μ1,im1,hco,hpost,hfree,_⟩:=Qkn hu hw hg.under hq hok hf hp hws hos hL3 hL2;refine ⟨fr',w',μ1,hpost,⟨by rw [hfr'.fn,e1], ?_,fun hpn=> ?_, ?_, ?_,hfr'.kind, ?_⟩,ha,hb,hst⟩
      ·refine hfr'.tmps.merge e2 (YL hlen) (fun p hp v' hv=> ?_) fun t=> Classical.choose_spec (hd t)
       obtain ⟨i,hi⟩:=List.getElem?_of_mem hp;rw [List.getElem?_zip_eq_some] at hi;obtain ⟨hi1,hi2⟩:=hi;obtain ⟨u,L',ha,hb,hc⟩:=(QpG _ _ _ hvs).2 i p.2 hi2;rw [List.getElem?_map,hi1] at ha;simp only [Option.map_some,YO] at ha;subst ha;exact Qdm hco 4 _ _ _ _ hb (hc hL1) hv
      ·refine (hfr'.todo ?_).plain hplain;rw [hmo];unfold Qwp at ho1;split at ho1
       ·rfl
       ·split at ho1
        ·simp only [YO,YR] at ho1;obtain ⟨rfl,_⟩:=ho1;cases hpn
        ·cases ho1
      ·have:=hfr'.defers;rw [hdf] at this;exact .of_empty this.empty
      ·have hm:=hfr'.mode;rw [hmo] at hm;show MR μ1 (Q3y _) fr'.mode;generalize fr'.mode=z at hm ⊢;unfold Qwp at ho1;split at ho1
       ·split at ho1
        ·simp only [YO,YR] at ho1;obtain ⟨rfl,_⟩:=ho1;simp only [Q3y] at hm ⊢;cases hm;exact .ret
        ·cases ho1
       ·split at ho1
        ·rename_i hv2;simp only [YO,YR] at ho1;obtain ⟨rfl,rfl⟩:=ho1;simp only [Q3y] at hm ⊢;cases hm with
         | pan hvr=> exact .pan (Qdm hco 4 _ _ _ _ hv2 hL0 hvr)
        ·cases ho1
      ·have:=hfr'.round;rw [e6,hro] at this;show RoR μ1 c0.roundOf fr'.roundOf;rw [hro];generalize fr'.roundOf=x at this ⊢;cases x with
       | none=> trivial
       | some x=> cases this
     ·cases e
    ·cases e
 ·cases e
theorem FrR.lowZ {Z:Bot} {μ μ0:Mu} {fr:Frame} (hμ:∀b,b < a->μ0 b=μ b) (hs:∀t,QnK a 4 (Qcd c.tmps t)=true\/Qbc (Qcd c.tmps t)) (hp:c.todo.all Qdu=true) (hd:c.defers=[]) (hm:c.mode=.run) (hr:c.roundOf=none) (h:FrR Z μ c fr):FrR Z μ0 c fr:=by
 have hpans:c.mode.pans=false:=by rw [hm];rfl
 refine ⟨h.fn,QrH hμ hs h.tmps,fun _=> (h.todo hpans).plain hp, ?_, ?_,h.kind, ?_⟩
 ·have:=h.defers;rw [hd] at this ⊢;exact .of_empty this.empty
 ·have:=h.mode;rw [hm] at this ⊢;generalize fr.mode=ds at this ⊢;cases this;exact .run
 ·have:=h.round;rw [hr] at this ⊢;generalize fr.roundOf=x at this ⊢;cases x with
  | none=> trivial
  | some x=> cases this
theorem FinU.uj {out:OO} {live:List (Nat×Value)} {ws:Qax} {os:List Obj} (h:FinU P B c0 Hb a out live ws os Wf) (hub:Under Hb a) (hws:∀i o,Qa2 ws i=some o->i < a/\i∈Wf) (hWf:∀i∈Wf,i < a) (hs:∀t,QnK a 4 (Qcd c0.tmps t)=true\/Qbc (Qcd c0.tmps t)) (hp:c0.todo.all Qdu=true) (hd:c0.defers=[]) (hm:c0.mode=.run) (hr:c0.roundOf=none) (hob:∀i o,Qa2 Hb i=some o->Q3H a o):
 UJ P B c0 Hb a out live ((ws++((a,Qb0)::QaR (a+1) os))++Hb) (a+1+os.length) (List.range a) Wf:=by
 have hG:(ws++((a,Qb0)::QaR (a+1) os))++Hb=Qb5 Hb a ws os:=by unfold Qb5;simp
 rw [hG];obtain ⟨d,td,h⟩:=h;refine ⟨d,td,⟨by omega,fun i hi hw=> ?_,fun i hi=> ?_,fun i hi=> List.mem_range.2 (hWf i hi),fun i hi=> by have:=hWf i hi;omega⟩,fun S μ w fr cs Z hok hB hS hf hfr hR=> ?_⟩
 ·rw [QdV];cases hg:Qa2 ws i with
  | some o=> exact absurd (hws i o hg).2 hw
  | none=> simp only;rw [if_neg (by omega),if_neg (by omega)]
 ·rw [QdV];cases hg:Qa2 ws i with
  | some o=> have:=(hws i o hg).1;omega
  | none=> simp only;rw [if_neg (by omega),if_neg (by omega)]
 ·have hSeq:S=fun i=> i < a:=funext fun i=> propext ⟨hS i,fun hi=> hR i (List.mem_range.2 hi) hi⟩
  subst hSeq;let μc:Mu:=fun i=> if i < a then μ i else none
  have hμc:∀b,b < a->μc b=μ b:=fun b hb=> by show (if b < a then μ b else none)=μ b;rw [if_pos hb]
  have hokc:Ok B.B (fun i=> i < a) μc (Qa2 Hb) w:=by
   refine ⟨fun i o hi hg hl=> ?_,fun i o im hi hg hl him=> ?_,fun i j oi oj x y hi hj hne hg1 hg2 l1 l2 m1 m2 r1 r2=> ?_,fun i o hi hg hr=> ?_,fun i j oi oj x y z hi hj hg1 hg2 r1 l2 m1 m2 hrw=> ?_⟩
   ·obtain ⟨im,him,hor⟩:=hok.rel i o hi hg hl;exact ⟨im,(hμc i hi).trans him,OR.low hμc (hob i o hg) hor⟩
   ·exact hok.low i o im hi hg hl ((hμc i hi).symm.trans him)
   ·exact hok.inj i j oi oj x y hi hj hne hg1 hg2 l1 l2 ((hμc i hi).symm.trans m1) ((hμc j hj).symm.trans m2) r1 r2
   ·obtain ⟨im,him,hx⟩:=hok.reg i o hi hg hr;exact ⟨im,(hμc i hi).trans him,hx⟩
   ·exact hok.sep i j oi oj x y z hi hj hg1 hg2 r1 l2 ((hμc i hi).symm.trans m1) ((hμc j hj).symm.trans m2) hrw
  have hfc:∀i,a<=i->μc i=none:=fun i hi=> by show (if i < a then μ i else none)=none;rw [if_neg (by omega)]
  obtain ⟨fr',w',μ',hpost,hfr',hro',hfn',hst⟩:=h.sem Z μc w fr cs hokc hB hfc (hfr.lowZ hμc hs hp hd hm hr);have hfree:∀i,a+1+os.length<=i->μ' i=none:=fun i hi=> by rw [hpost.ext i (by omega)];exact hfc i (by omega)
  let μ2:Mu:=fun i=> if i < a+1+os.length then μ' i else μ i
  have hμ2:∀i,i < a+1+os.length->μ2 i=μ' i:=fun i hi=> by show (if i < a+1+os.length then μ' i else μ i)=μ' i;rw [if_pos hi]
  have ext2:Ext μ' μ2:=fun k im hk=> by
   rcases Nat.lt_or_ge k (a+1+os.length) with h1 | h1
   ·rw [hμ2 k h1];exact hk
   ·rw [hfree k h1] at hk;cases hk
  have Slt:∀i,(i < a\/a<=i/\i < a+1+os.length)->i < a+1+os.length:=fun i h=> by omega
  refine ⟨fr',w',μ2,⟨?_,by omega,fun i hi=> ?_,fun i hi hw=> ?_,hpost.grow,fun b hb hx=> hpost.frame b hb fun i hiW hi im him=> hx i hiW hi im ((hμc i hi).symm.trans him),fun i hiW hi=> ?_,fun i im o h1 h2 ho hl him=> ?_,fun i im o hc ho hr him b x hx=> ?_,hpost.os,hpost.tape,hpost.output⟩,hfr'.mono ext2,hro',hfn',hst⟩
  ·have ok:=hpost.ok;refine ⟨fun i o hi hg hl=> ?_,fun i o im hi hg hl him=> ?_,fun i j oi oj x y hi hj hne hg1 hg2 l1 l2 m1 m2 r1 r2=> ?_,fun i o hi hg hr=> ?_,fun i j oi oj x y z hi hj hg1 hg2 r1 l2 m1 m2 hrw=> ?_⟩
   ·obtain ⟨im,him,hor⟩:=ok.rel i o hi hg hl;exact ⟨im,(hμ2 i (Slt i hi)).trans him,hor.keep ext2 rfl⟩
   ·exact ok.low i o im hi hg hl ((hμ2 i (Slt i hi)).symm.trans him)
   ·exact ok.inj i j oi oj x y hi hj hne hg1 hg2 l1 l2 ((hμ2 i (Slt i hi)).symm.trans m1) ((hμ2 j (Slt j hj)).symm.trans m2) r1 r2
   ·obtain ⟨im,him,hx⟩:=ok.reg i o hi hg hr;exact ⟨im,(hμ2 i (Slt i hi)).trans him,hx⟩
   ·exact ok.sep i j oi oj x y z hi hj hg1 hg2 r1 l2 ((hμ2 i (Slt i hi)).symm.trans m1) ((hμ2 j (Slt j hj)).symm.trans m2) hrw
  ·rcases Nat.lt_or_ge i a with h1 | h1
   ·rw [hμ2 i (by omega),hpost.ext i (by omega),hμc i h1]
   ·show (if i < a+1+os.length then μ' i else μ i)=μ i;rw [if_neg (by omega)]
  ·exact hpost.keep i hi hw
  ·obtain ⟨p,q,im,s,t⟩:=hpost.wr i hiW hi;exact ⟨p,q,im,(hμc i hi).symm.trans s,t⟩
  ·obtain ⟨p,q⟩:=hpost.fresh i im o h1 h2 ho hl ((hμ2 i h2).symm.trans him);exact ⟨p,q.imp id fun ⟨k,x,y,⟨im',m,m2⟩,z⟩=> ⟨k,x,y,⟨im',(hμc k y).symm.trans m,m2⟩,z⟩⟩
  ·have hlt:i < a+1+os.length:=by omega
   rcases hpost.rf i im o hc ho hr ((hμ2 i hlt).symm.trans him) b x hx with e | ⟨k,kim,ko,p,q,r,s,t,u⟩ | ⟨k,p,q,⟨im',m,m2⟩,z⟩
   ·exact .inl e
   ·exact .inr (.inl ⟨k,kim,ko,p,q,r,s,(hμc k q).symm.trans t,u⟩)
   ·exact .inr (.inr ⟨k,p,q,⟨im',(hμc k q).symm.trans m,m2⟩,z⟩)
theorem FinU.ujB {fn:FuncId} {len:Nat} {l:List Value} {todo:List Item} {out:OO} {live:List (Nat×Value)} {ws:Qax} {os:List Obj} {ex:List Nat} (h:FinU P B ⟨fn,ofList len l,todo,[],.run,none⟩ Hb a out live ws os Wf) (e:Q64 a l todo none Hb ws Wf ex=true) (hx:Q6p a Hb ex):
 UJ P B ⟨fn,ofList len l,todo,[],.run,none⟩ Hb a out live ((ws++((a,Qb0)::QaR (a+1) os))++Hb) (a+1+os.length) (List.range a) Wf:=by
 simp only [Q64,YB] at e;obtain ⟨e1,e2,e3,e4,e5,e6,e7,e8⟩:=e;have e8:=YL e8;refine h.uj (Qau e4) (fun i o ho=> ?_) (fun i hi=> YL (List.all_eq_true.1 e7 i hi)) (fun t=> ?_) e2 rfl rfl rfl (fun i o ho=> ?_)
 ·have:=List.all_eq_true.1 e6 _ (QjV ho);simp only [YB] at this;exact ⟨YL this.1,by simpa using this.2⟩
 ·simp only [Qcd,ofList];rw [QjL _ _ _ _ (by omega)];split
  ·rename_i ht;have ht:t < l.length:=by omega
   refine .inl (List.all_eq_true.1 e1 _ ?_);rw [Nat.sub_zero,List.getD_eq_getElem?_getD,List.getElem?_eq_getElem ht];exact List.getElem_mem ht
  ·rw [Tri.get_lf];exact .inr (Qgq (by simp [Go.undef,af]))
 ·have:=List.all_eq_true.1 e5 _ (QjV ho);simp only [Bool.or_eq_true] at this;rcases this with h1 | h1
  ·exact Qoy hx h1 ho
  ·exact QtB h1
theorem GoE.endsTx {c0 c:CF} {H:Qax} {n:Nat} {s:Option ST} (hok0:Q5z P B 1 c H n s) (h:GoE P B c0 H00 1 c H n []) {fz:List Fz} {out:Value} {L:List Prop}
 (e:QaY s fz=some (out,L)) (hL:QaA L):EndsT P B c0 out:=by
 unfold QaY at e;split at e
 ·rename_i v H' n' W' L';cases hW:W'.isEmpty with
  | false=> rw [hW] at e;cases e
  | true=>
    rw [hW] at e;simp only [cond_true] at e;split at e
    ·rename_i t R2 L2 hst;simp only [YO,YR] at e;obtain ⟨rfl,rfl⟩:=e;obtain ⟨hL2,hL1⟩:=QaN hL;have hWe:W'=[]:=by simpa using hW
     subst hWe;obtain ⟨R,W2,hfj,hiff⟩:=hok0 _ _ _ _ _ rfl hL1;intro μ w fr cs im hok hB hf him hfr;obtain ⟨out',w',μ',hp,ho,he⟩:=h.fj hfj μ w fr cs hok hB hf hfr;have hnoW:∀i,i∈[]++W2->¬i < 1:=fun i hi hlt=> by
      have:=(hiff i hlt).2 (by simpa using hi);simp at this
     have hbel:Below w.heap.size w w':=⟨hp.os,hp.tape,hp.output,hp.grow,fun b hb=> hp.frame b hb fun i hi hl=> absurd hl (hnoW i hi)⟩
     cases ho with
     | ret hvr=>
       rename_i v';refine ⟨v',w',hbel, ?_,he⟩;have hu':Under H' n':=h.under.shape hfj.shape;have hle:=hp.le
       -- of what is looked at, all is there
       have hall:∀r,(Qa2 H' r).isSome->r < 1\/1<=r/\r < n':=fun r hr=> by
        have:r < n':=by
         cases hg:Qa2 H' r with
         | none=> rw [hg] at hr;cases hr
         | some o=> exact hu'.lt hg
        omega
       have hok2:Ok B.B (fun _=> True) μ' (Qa2 H') w':=
        ⟨fun i o _ ho=> hp.ok.rel i o (hall i (by rw [ho];rfl)) ho,fun i o im _ ho=> hp.ok.low i o im (hall i (by rw [ho];rfl)) ho,
         fun i j oi oj a b _ _ hij hoi hoj=> hp.ok.inj i j oi oj a b (hall i (by rw [hoi];rfl)) (hall j (by rw [hoj];rfl)) hij hoi hoj,
         fun i o _ ho=> hp.ok.reg i o (hall i (by rw [ho];rfl)) ho,fun i j oi oj a b x _ _ hoi hoj=> hp.ok.sep i j oi oj a b x (hall i (by rw [hoi];rfl)) (hall j (by rw [hoj];rfl)) hoi hoj⟩
       refine (QeC hok2 3 v v' t R2 L2 hst hL2 (fun _ _=> trivial) hvr).mono fun b x hx=> ?_
       have hw:=Qdx hx;unfold fmU at hx;split at hx
       ·rename_i hc;obtain ⟨i,_,o,im2,hio,him2,hcase⟩:=hc;have hi:=hall i (by rw [hio];rfl);have old0:∀i,i < 1->i=0:=fun i h=> by omega
        have keep0:Qa2 H' 0=some Qb0:=by
         rw [hp.keep 0 (by omega) fun e=> hnoW 0 e (by omega)];rfl
        have mu0:μ' 0=some im:=by rw [hp.ext 0 (by omega)];exact him
        have below:b < w.heap.size->im.fm b=some x->QnE im.fm w w' b=some x:=fun h1 h2=> by unfold QnE;rw [if_pos h1];exact h2
        have above:w.heap.size<=b->QnE im.fm w w' b=some x:=fun h1=> by unfold QnE;rw [if_neg (by omega)];exact hw
        have from0:im.fm b=some x->QnE im.fm w w' b=some x:=fun h=> by
         refine below ?_ h;exact Qhs hok (i:=0) (o:=Qb0) (show 0 < 1 by omega) rfl trivial him h
        rcases hcase with ⟨hreg,hne⟩ | ⟨hl,hb⟩
        ·cases hfx:im2.fm b with
         | none=> exact absurd hfx hne
         | some y=>
           obtain ⟨im3,him3,hf3⟩:=hp.ok.reg i o hi hio hreg;rw [him2] at him3;cases him3;have:=hf3 b y hfx;rw [hw] at this;cases this;rcases hi with hi | hi
           ·rw [old0 i hi,mu0] at him2;cases him2;exact from0 hfx
           ·rcases hp.rf i im2 o (.inl hi) hio hreg him2 b x hfx with c | ⟨k,kim,ko,hk,_,hko,_,hkm,hkb⟩ | ⟨k,hk,hkn,_⟩
            ·exact above c
            ·rw [old0 k hk,him] at hkm;cases hkm;exact from0 hkb
            ·exact absurd hkn (hnoW k hk)
        ·rcases hi with hi | hi
         ·rw [old0 i hi,keep0] at hio;cases hio;exact hl.elim
         ·rcases (hp.fresh i im2 o hi.1 hi.2 hio hl him2).2 with c | ⟨k,hk,hkn,_⟩
          ·exact above (by omega)
          ·exact absurd hkn (hnoW k hk)
       ·cases hx
    ·cases e
 ·cases e
theorem GoE.endsD {c0 c:CF} {H:Qax} {n:Nat} (hF:∀g,F g=true->Qa1 P g=true) (hJ:∀w,B.has w->J w) (hmix:P.follows .mixedOrders=true) (h:GoE P B c0 H00 1 c H n []) {k:Nat} {o:OO} {live:List (Nat×Value)} {ups:Qax} {n':Nat} {Wk:List Nat} {res:Value} {resR:List Nat} {fz:List Fz} {out:Value} {L:List Prop}
 (e:QaY (Qzw P F J B k 1 c H n o live ups n' Wk res resR) fz=some (out,L)) (hL:QaA L):EndsT P B c0 out:=GoE.endsTx (Qsz hF hJ hmix h.under) h e hL
end
def Quw (n:Int):Nat:=2 ^ n.toNat
def Qtl (a n:Int):Nat:=a.toNat >>> n.toNat
def Q2w (a b:Int):Nat:=a.toNat &&& b.toNat
def orN (a b:Int):Nat:=a.toNat ||| b.toNat
theorem Q4Z {n:Int} (h1:n<=62):Quw n<=4611686018427387904:=by unfold Quw;exact Nat.le_trans (Nat.pow_le_pow_right (by decide) (show n.toNat<=62 by omega)) (by decide)
theorem Q4G {a n:Int}:Qtl a n<=a.toNat:=by unfold Qtl;rw [Nat.shiftRight_eq_div_pow];exact Nat.div_le_self _ _
theorem Q0L {n:Int} (h1:n<=62):(2:Nat) ^ n.toNat<=2 ^ 62:=Nat.pow_le_pow_right (by decide) (by omega)
theorem Q1w {P:Program} {t:TypeId} {yk:IntKind} {n:Int} (h0:0<=n) (h1:n<=62):Qm1 P .shl t (.int .i64 1) (.int yk n) (.int .i64 ((Quw n:Nat):Int)):=fun x y w=> by
 unfold Quw;have e:min n.toNat (IntKind.bits IntKind.i64)=n.toNat:=Nat.min_eq_left (by show n.toNat<=64;omega);have hp:=Q0L h1;have e2:(2:Int) ^ n.toNat=((2 ^ n.toNat:Nat):Int):=by rw [Int.natCast_pow];rfl
 have e3:IntKind.wrap IntKind.i64 (1 * 2 ^ min n.toNat (IntKind.bits IntKind.i64))=((2 ^ n.toNat:Nat):Int):=by
  rw [e,Int.one_mul,e2];generalize 2 ^ n.toNat=z at *;exact Qin (by omega) (by omega)
 have hn:¬n < 0:=by omega
 simp only [eqGuard,binOp,Op.shift,hn,if_false,e3];simp
theorem Q47 {P:Program} {t:TypeId} {yk:IntKind} {a n:Int} (ha:0<=a) (h0:0<=n) (h1:n<=62):Qm1 P .shr t (.int .i64 a) (.int yk n) (.int .i64 ((Qtl a n:Nat):Int)):=fun x y w=> by
 unfold Qtl;obtain ⟨b,rfl⟩:∃b:Nat,a=b:=⟨a.toNat,by omega⟩
 have e:min n.toNat (IntKind.bits IntKind.i64)=n.toNat:=Nat.min_eq_left (by show n.toNat<=64;omega);have e3:Int.fdiv (b:Int) (2 ^ min n.toNat (IntKind.bits IntKind.i64))=((((b:Int)).toNat >>> n.toNat:Nat):Int):=by
  rw [e,Int.fdiv_eq_ediv_of_nonneg _ (Int.le_of_lt (Int.pow_pos (by decide))),Int.toNat_natCast,Nat.shiftRight_eq_div_pow,Int.natCast_ediv,Int.natCast_pow];rfl
 have hn:¬n < 0:=by omega
 simp only [eqGuard,binOp,Op.shift,hn,if_false,e3];simp
theorem Qjv {a:Int} (ha:0<=a):BitVec.ofInt (IntKind.bits IntKind.i64) a=BitVec.ofNat 64 a.toNat:=by
 obtain ⟨b,rfl⟩:∃b:Nat,a=b:=⟨a.toNat,by omega⟩
 rw [Int.toNat_natCast];exact BitVec.ofInt_natCast 64 b
theorem Q3U {P:Program} {t:TypeId} {a b:Int} (ha:0<=a) (ha2:a<=9223372036854775807) (hb:0<=b) (hb2:b<=9223372036854775807):Qm1 P .and t (.int .i64 a) (.int .i64 b) (.int .i64 ((Q2w a b:Nat):Int)):=fun x y w=> by
 unfold Q2w;have e:IntKind.wrap IntKind.i64 ((BitVec.toNat (BitVec.ofInt (IntKind.bits IntKind.i64) a &&& BitVec.ofInt (IntKind.bits IntKind.i64) b):Nat):Int)=((a.toNat &&& b.toNat:Nat):Int):=by
  rw [Qjv ha,Qjv hb];have e3:BitVec.toNat (BitVec.ofNat 64 a.toNat &&& BitVec.ofNat 64 b.toNat)=a.toNat &&& b.toNat:=by
   rw [BitVec.toNat_and,BitVec.toNat_ofNat,BitVec.toNat_ofNat,Nat.mod_eq_of_lt (a:=a.toNat) (by omega),Nat.mod_eq_of_lt (a:=b.toNat) (by omega)]
  show IntKind.wrap IntKind.i64 ((BitVec.toNat (BitVec.ofNat 64 a.toNat &&& BitVec.ofNat 64 b.toNat):Nat):Int)=_;rw [e3];have:=Nat.and_le_left (n:=a.toNat) (m:=b.toNat);exact Qin (by omega) (by omega)
 simp only [eqGuard,binOp,Op.intBits,ne_eq,not_true_eq_false,if_false,e];simp
theorem Q60 {P:Program} {t:TypeId} {a b:Int} (ha:0<=a) (ha2:a<=9223372036854775807) (hb:0<=b) (hb2:b<=9223372036854775807):Qm1 P .or t (.int .i64 a) (.int .i64 b) (.int .i64 ((orN a b:Nat):Int)):=fun x y w=> by
 unfold orN;have e:IntKind.wrap IntKind.i64 ((BitVec.toNat (BitVec.ofInt (IntKind.bits IntKind.i64) a ||| BitVec.ofInt (IntKind.bits IntKind.i64) b):Nat):Int)=((a.toNat ||| b.toNat:Nat):Int):=by
  rw [Qjv ha,Qjv hb];have e3:BitVec.toNat (BitVec.ofNat 64 a.toNat ||| BitVec.ofNat 64 b.toNat)=a.toNat ||| b.toNat:=by
   rw [BitVec.toNat_or,BitVec.toNat_ofNat,BitVec.toNat_ofNat,Nat.mod_eq_of_lt (a:=a.toNat) (by omega),Nat.mod_eq_of_lt (a:=b.toNat) (by omega)]
  show IntKind.wrap IntKind.i64 ((BitVec.toNat (BitVec.ofNat 64 a.toNat ||| BitVec.ofNat 64 b.toNat):Nat):Int)=_;rw [e3];have:=Nat.or_lt_two_pow (n:=63) (x:=a.toNat) (y:=b.toNat) (by omega) (by omega);exact Qin (by omega) (by omega)
 simp only [eqGuard,binOp,Op.intBits,ne_eq,not_true_eq_false,if_false,e];simp
theorem Qrn {P:Program} {F:FuncId->Bool} {J:World->Prop} (hF:∀g,F g=true->Qa1 P g=true) (hmix:P.follows .mixedOrders=true) {g:FuncId} {args:Array Value} {out:Value} {fuel:Nat} (hs:args.all simple=true) (ho:simple out=true) (ho2:af out=true) (h:Qq4 (QmR P F Qb4 fuel g args (Qft 0 []) ([]:List (Array Value×TypeId)).length) out []=true):Qaq P J g args out:=fun fm w args' _ _ ha=> by
 have e:args'=args:=by
  refine Array.ext ha.1.symm fun i h1 h2=> ?_
  have k1:args[i]? =some args[i]:=by simp [h2]
  have k2:args'[i]? =some args'[i]:=by simp [h1]
  exact (ha.2 i _ _ k1 k2).simple_eq (Array.all_eq_true'.1 hs _ (Array.getElem_mem h2))
 subst e;have hc:=Qnm hF hmix (at':=[]) (args':=args') h (w:=w) (I:=fun _=> True) (hI:=fun _ _ _ _=> trivial) (QaP _ _) trivial rfl (fun i x a h=> by simp at h) ⟨rfl,fun i v v' h1 h2=> by rw [h1] at h2;cases h2;exact QbX (Array.all_eq_true'.1 hs v (Array.mem_of_getElem? h1))⟩;refine hc.mono fun e w' ⟨v',n',H',μ',he,hp,hv,hb,hun,hbel⟩=> ⟨out,by rw [he,QiO ho2 hv],hbel,.simple ho⟩
def Qa6 {α:Type} (m:Nat) (e:α->List Value) (x:α):List Value:=(e x).map (QgE m)
def QwW {α:Type} (e:α->List Value):Prop:=∀x,∀v∈e x,simple v=true\/Qg7 v=true
section
variable {α:Type} {e:α->List Value} {m r j z:Nat} {rs:List (Nat×Nat)} {frs:List (Nat×Array Value)} {xs:List α} {rsT:List Nat}
theorem QaQ (h:∀x,(e x).all (fun v=> simple v || Qg7 v)=true):QwW e:=fun x v hv=> by
 have:=List.all_eq_true.1 (h x) v hv;simpa using this
theorem Qg9 (v:Value) (h:simple v=true\/Qg7 v=true):(simple v=true/\QgE m v=v)\/(Qg7 v=true/\QgE m v=Qa4 m v):=by
 unfold QgE;cases hs:simple v with
 | true=> exact .inl ⟨rfl,rfl⟩
 | false=> rw [hs] at h;exact .inr ⟨by simpa using h,rfl⟩
theorem Qw0 (he:QwW e) (hm:(r,j)∈rs) (x:α):AllX m rs frs (Qa6 r e x) (Qa6 j e x):=by
 have key:∀l:List Value,(∀v∈l,simple v=true\/Qg7 v=true)->AllX m rs frs (l.map (QgE r)) (l.map (QgE j)):=by
  intro l;induction l with
  | nil=> intro _;trivial
  | cons v l ih=>
    intro h;refine ⟨?_,ih fun u hu=> h u (List.mem_cons_of_mem _ hu)⟩;show Qs8 m rs frs (QgE r v) (QgE j v);rcases Qg9 (m:=r) v (h v (by simp)) with ⟨a,b⟩ | ⟨a,b⟩ <;> rcases Qg9 (m:=j) v (h v (by simp)) with ⟨c,d⟩ | ⟨c,d⟩
    ·rw [b,d];exact .simple a
    ·rw [b];unfold QgE;rw [a];exact .simple a
    ·rw [d];unfold QgE;rw [c];exact .simple c
    ·rw [b,d];exact .reg hm a
 exact key _ (he x)
theorem Qvg {e1 e2:α->List Value} (h:∀x,AllX m rs frs (e1 x) (e2 x)):QaX m rs frs (Qac e1 xs) (Qac e2 xs):=by
 unfold QaX Qac;simp only;induction xs with
 | nil=> trivial
 | cons x xs ih=> simp only [List.flatMap_cons];exact (h x).append ih
theorem QaK (he:QwW e) (hm:(r,j)∈rs):QaX m rs frs (Qac (Qa6 r e) xs) (Qac (Qa6 j e) xs):=Qvg (Qw0 he hm)
theorem Qei {cs:Array Value} {vs:List Value} {x:α} (h:QaX m rs frs cs (Qac e xs)) (hx:AllX m rs frs vs (e x)):QaX m rs frs (cs++vs.toArray) (Qac e (xs++[x])):=by
 unfold QaX at h ⊢;rw [<-Qcb];simp only [Array.toList_append];exact AllX.append h hx
theorem Qfa {vs:List Value} {x:α} (hx:AllX m rs frs vs (e x)):QaX m rs frs vs.toArray (Qac e [x]):=by
 unfold QaX Qac;simpa using hx
theorem Qvv {vs:List Value} {x:α} (h:AllX m rs frs vs (e x)):∀k:Nat,QaX m rs frs (Qac (fun (_:α)=> vs) (List.replicate k x)) (Qac e (List.replicate k x))
 | 0=> trivial
 | k+1=> by
   unfold QaX Qac;simp only [List.replicate_succ,List.flatMap_cons];exact h.append (Qvv h k)
theorem Qcl (he:QwW e) (hm:m∈rsT):Qbj rsT (Qac (Qa6 m e) xs) (Qac e xs):=by
 have key:∀l:List Value,(∀v∈l,simple v=true\/Qg7 v=true)->∀(i:Nat) v v1,(l.map (QgE m))[i]? =some v->l[i]? =some v1->Q2z rsT v v1:=by
  intro l h i v v1 h1 h2;rw [List.getElem?_map,h2] at h1;simp only [Option.map_some,YO] at h1;subst h1;rcases Qg9 (m:=m) v1 (h v1 (List.mem_of_getElem? h2)) with ⟨a,b⟩ | ⟨a,b⟩
  ·exact .inl ⟨by rw [b];exact a,b.symm⟩
  ·exact .inr ⟨m,hm,b,a⟩
 have e0:Qac (Qa6 m e) xs=((xs.flatMap e).map (QgE m)).toArray:=by
  unfold Qac Qa6;rw [List.map_flatMap]
 refine ⟨by rw [e0];simp [Qac],fun i v v1 h1 h2=> ?_⟩;rw [e0] at h1;refine key (xs.flatMap e) (fun v hv=> ?_) i v v1 (by simpa using h1) (by simpa [Qac] using h2);obtain ⟨x,_,hx⟩:=List.mem_flatMap.1 hv;exact he x v hx
theorem QeZ {a:Nat} {t:TypeId} {fl:Nat×Nat} (he:QwW e) (hm:m < a):Q3H a (.cells (Qac (Qa6 m e) xs) t fl):=fun i v hv=> by
 have:v∈Qac (Qa6 m e) xs:=Array.mem_of_getElem? hv;simp only [Qac,List.mem_toArray,List.mem_flatMap,Qa6,List.mem_map] at this;obtain ⟨x,_,u,hu,rfl⟩:=this;rcases Qg9 (m:=m) u (he x u hu) with ⟨h1,h2⟩ | ⟨h1,h2⟩
 ·rw [h2];exact .inl (QnN h1)
 ·rw [h2];refine .inl ?_;show Q3A a (Qa4 m u)=true;have:Nat.blt m a=true:=Nat.ble_eq_true_of_le hm;unfold Q3A;rw [show simple (Qa4 m u)=false from rfl,Bool.false_or];exact this
end
def QbD (zs:List Value) (_:Unit):List Value:=zs
theorem Qys {zc:Array Value} {z n:Nat} (hz:zc.size=z) (h0:0 < z):madeCells zc (n * z)=Qac (QbD zc.toList) (List.replicate n ()):=by
 have hl:∀x,(QbD zc.toList x).length=z:=fun x=> by simp [QbD,hz]
 refine Array.ext_getElem? fun i=> ?_
 by_cases hi:i < n * z
 ·have hk:i / z < n:=(Nat.div_lt_iff_lt_mul h0).2 hi;have hj:i % z < z:=Nat.mod_lt _ h0;have e:i / z * z+i % z=i:=by rw [Nat.mul_comm];exact Nat.div_add_mod i z
  have:=Qpa (e:=QbD zc.toList) (xs:=List.replicate n ()) hl (k:=i / z) (j:=i % z) (by simpa using hk) hj;rw [e] at this;rw [this];have hj':i % z < zc.size:=by rw [hz];exact hj
  simp only [madeCells,Array.getElem?_map,Array.getElem?_range,hi,if_true,Option.map_some,hz,QbD];simp [hj']
 ·have a:(madeCells zc (n * z)).size=n * z:=size_madeCells _ _;have b:(Qac (QbD zc.toList) (List.replicate n ())).size=n * z:=by rw [Qbf hl];simp
  rw [Array.getElem?_eq_none (by omega),Array.getElem?_eq_none (by omega)]
def Q7o (P:Program) (t e z bytes:Nat) (zs:List Value):Bool:=match und P t with
 | some (.slice e')=> Nat.beq e' e && match inf P e with
   | some i=> match i.zero with
     | some zv=> Nat.beq i.size z && (Nat.beq i.bytes bytes && (Nat.blt 0 z && (Nat.beq zv.cells.size z && (eqL (eqV 2) zv.cells.toList zs && zs.all simple))))
     | none=> false
   | none=> false
 | _=> false
theorem QfS {P:Program} {t e z bytes:Nat} {zs:List Value} (h:Q7o P t e z bytes zs=true) {l:Int} {k k':IntKind} (h0:0<=l) (hb:bytes * l<=281474976710656) (hn:l<=9223372036854775807):
 QfK P t (.int k l) (.int k' l)=some (e,Qac (QbD zs) (List.replicate l.toNat ()),l.toNat,z):=by
 unfold Q7o at h;split at h
 ·rename_i e' hu;split at h
  ·rename_i i hi;split at h
   ·rename_i zv hz;simp only [YB] at h;obtain ⟨h1,h2,h3,h4,h5,h6,h7⟩:=h;have h1:=YE h1;have h2:=YE h2;have h3:=YE h3;have h4:0 < z:=YL h4;have h5:=YE h5;have h6:=Qe5 (QdT 2) _ _ h6;subst h1 h2 h3;have e1:=Qys (n:=l.toNat) h5 h4;rw [h6] at e1;have hall:(madeCells zv.cells (l.toNat * i.size)).all simple=true:=by
     rw [e1,Array.all_eq_true'];intro v hv;simp only [Qac,List.mem_toArray,List.mem_flatMap,QbD] at hv;obtain ⟨_,_,hv⟩:=hv;exact List.all_eq_true.1 h7 v hv
    simp only [QfK,hu,hi,hz,decide_eq_true h0,decide_eq_true hb,decide_eq_true hn,decide_eq_true (Int.le_refl l),hall,Bool.and_self,cond_true];rw [e1]
   ·simp at h
  ·simp at h
 ·cases h
section
variable {α:Type} {e:α->List Value} {m z:Nat} {rs:List (Nat×Nat)} {frs:List (Nat×Array Value)} {xs:List α}
theorem QbJ {zs:List Value} {x:α} (h:AllX m rs frs zs (e x)):∀k:Nat,QaX m rs frs (Qac (QbD zs) (List.replicate k ())) (Qac e (List.replicate k x))
 | 0=> trivial
 | k+1=> by
   unfold QaX Qac;simp only [List.replicate_succ,List.flatMap_cons];exact AllX.append h (QbJ h k)
theorem AllX.take {l k:List Value}:∀(n:Nat) {l k:List Value},AllX m rs frs l k->AllX m rs frs (l.take n) (k.take n)
 | 0,_,_,_=> trivial
 | _+1,[],[],_=> trivial
 | n+1,_::_,_::_,h=> ⟨h.1,AllX.take (l:=[]) (k:=[]) n h.2⟩
 | _+1,[],_::_,h=> h.elim
 | _+1,_::_,[],h=> h.elim
theorem AllX.drop {l k:List Value}:∀(n:Nat) {l k:List Value},AllX m rs frs l k->AllX m rs frs (l.drop n) (k.drop n)
 | 0,_,_,h=> h
 | _+1,[],[],_=> trivial
 | n+1,_::_,_::_,h=> AllX.drop (l:=[]) (k:=[]) n h.2
 | _+1,[],_::_,h=> h.elim
 | _+1,_::_,[],h=> h.elim
theorem QwD {cs:Array Value} {vs:List Value} {x:α} {k:Nat} (hz:∀y,(e y).length=z) (h:QaX m rs frs cs (Qac e xs)) (hk:k < xs.length) (hx:AllX m rs frs vs (e x)):QaX m rs frs (splice cs (k * z) vs.toArray) (Qac e (xs.set k x)):=by
 have hlen:=(AllX.get hx).1;rw [hz x] at hlen;rw [<-(QlR hz hk).2];unfold QaX at h ⊢;unfold splice;simp only [hz x,<-hlen];exact AllX.append (AllX.append (AllX.take (l:=[]) (k:=[]) _ h) hx) (AllX.drop (l:=[]) (k:=[]) _ h)
theorem Qih {cs:Array Value} {vs:List Value} {x:α} {k:Nat} (hz:∀y,(e y).length=z) (h:QaX m rs frs cs (Qac e xs)) (hk:k < xs.length) (hx:AllX m rs frs vs (e x)):QaX m rs frs (splice cs (0+k * z) vs.toArray) (Qac e (xs.set k x)):=by
 rw [Nat.zero_add];exact QwD hz h hk hx
theorem Qf0 (h:∀x,(e x).length=z) {k z':Nat} (hk:k < xs.length) {x:α} {cs:Array Value} (hc:cs=(e x).toArray) (hz:z'=z):0+k * z+z'<=(Qac e xs).size/\splice (Qac e xs) (0+k * z) cs=Qac e (xs.set k x):=by
 subst hz;rw [Nat.zero_add];exact Q5a h hk hc
theorem Q1v (h:∀x,(e x).length=z) {k z':Nat} (hk:k < xs.length) (hz:z'=z):0+k * z+z'<=(Qac e xs).size:=by
 subst hz;rw [Nat.zero_add];exact Qtm h hk
end
end Go.CE

noncomputable abbrev Go.CE.YP:Go.Program:=Go.Proofs.Tryz.prog
namespace Go.Proofs.YtiabgkiccaodmaaGreat
open Go Go.CE Go.RowKit
abbrev pA (b o:Nat):Value:=.pointer (some ⟨b,o,none⟩)
def J0:World->Prop:=fun _=> True
theorem Qbw:∀w w':World,(∀b,b < w.heap.size->w'.heap[b]? =w.heap[b]?)->J0 w->J0 w':=fun _ _ _ _=> trivial
theorem Qab:YP.follows .mixedOrders=true:=by decide+kernel
theorem okF:∀g,Qa1 YP g=true->Qa1 YP g=true:=fun _ h=> h
end Go.Proofs.YtiabgkiccaodmaaGreat

namespace Go.Proofs.YtiabgkiccaodmaaGreat
open Go Go.CE Go.RowKit
noncomputable section
set_option maxRecDepth 100000
def inB (x lo hi:Int):Bool:=decide (lo<=x) && decide (x<=hi)
structure Span where
 lo:Int
 hi:Int
deriving Inhabited
def Qa7 (s:Span):List Value:=[.int .i64 s.lo,.int .i64 s.hi]
def QbE (a b lo hi:Int):Bool:=decide (lo<=a) && (decide (a<=b) && decide (b<=hi))
def QxA (B:Lo) (x lo hi:Int):List Prop:=[(!ltq x lo)=true]++([]:List Prop)
def Q3x (x lo hi:Int):Qaz:=[(3,hvT)]
theorem Q6e (B:Lo) (x lo hi:Int):QaY (Qam YP (Qa1 YP) J0 B 6 1 (Qaj YP 69 15 (([.int .i64 x,.int .i64 lo,.int .i64 hi]).map (Qat 0 4))) H00 1
 (Q3x x lo hi++[(7,hvT)]) 0 [] []) []=some (.bool true,
 [(!ltq hi x)=true]++QxA B x lo hi):=by kernel_rfl
theorem Q51 (B:Lo) (x lo hi:Int):QaY (Qam YP (Qa1 YP) J0 B 6 1 (Qaj YP 69 15 (([.int .i64 x,.int .i64 lo,.int .i64 hi]).map (Qat 0 4))) H00 1
 (Q3x x lo hi++[(7,hvF)]) 0 [] []) []=some (.bool false,
 [(!ltq hi x)=false]++QxA B x lo hi):=by kernel_rfl
theorem Q6z (B:Lo) (x lo hi:Int):QaY (Qam YP (Qa1 YP) J0 B 6 1 (Qaj YP 69 15 (([.int .i64 x,.int .i64 lo,.int .i64 hi]).map (Qat 0 4))) H00 1
 [(3,hvF)] 0 [] []) []=some (.bool false,
 [(!ltq x lo)=false]):=by kernel_rfl
set_option maxHeartbeats 4000000 in
theorem Q6M (x lo hi:Int)  {B:Lo} (hJ:∀w,B.has w->J0 w):EndsT YP B (Qaj YP 69 15 (([.int .i64 x,.int .i64 lo,.int .i64 hi]).map (Qat 0 4))) (.bool (inB x lo hi)):=by
 by_cases q0:(lo:Int)<=(x)
 ·have hp0:QaA (QxA B x lo hi):=by
   exact ⟨(Qdj q0),trivial⟩
  by_cases q1:(x:Int)<=(hi)
  ·exact (GoE.endsT okF hJ Qab GoE.start (Q6e B x lo hi)
    ⟨(Qdj q1),hp0⟩).cast (by (simp [inB, *];done))
  ·exact (GoE.endsT okF hJ Qab GoE.start (Q51 B x lo hi)
    ⟨(Qdi (Int.not_le.1 q1)),hp0⟩).cast (by (simp [inB, *];done))
 ·exact (GoE.endsT okF hJ Qab GoE.start (Q6z B x lo hi)
   ⟨(Qdi (Int.not_le.1 q0)),trivial⟩).cast (by (simp [inB, *];done))
theorem rin (x lo hi:Int)  :Qaq YP J0 69 #[.int .i64 x,.int .i64 lo,.int .i64 hi] (.bool (inB x lo hi)):=
 QaE (ts:=[.int .i64 x,.int .i64 lo,.int .i64 hi]) Qbw (c0:=Qaj YP 69 15 (([.int .i64 x,.int .i64 lo,.int .i64 hi]).map (Qat 0 4))) (by kernel_rfl) (by kernel_rfl) fun B hJ=> Q6M x lo hi  hJ
def Qpb (B:Lo) (a b lo hi:Int):List Prop:=[(!ltq a lo)=true]++([]:List Prop)
def Quj (a b lo hi:Int):Qaz:=[(5,hvT)]
def QoI (B:Lo) (a b lo hi:Int):List Prop:=[(!ltq b a)=true]++Qpb B a b lo hi
def Qub (a b lo hi:Int):Qaz:=Quj a b lo hi++[(11,hvT)]
theorem Q0H (B:Lo) (a b lo hi:Int):QaY (Qam YP (Qa1 YP) J0 B 6 1 (Qaj YP 70 24 (([.agg #[.int .i64 a,.int .i64 b],.int .i64 lo,.int .i64 hi]).map (Qat 0 4))) H00 1
 (Qub a b lo hi++[(17,hvT)]) 0 [] []) []=some (.bool true,
 [(!ltq hi b)=true]++QoI B a b lo hi):=by kernel_rfl
theorem Q3f (B:Lo) (a b lo hi:Int):QaY (Qam YP (Qa1 YP) J0 B 6 1 (Qaj YP 70 24 (([.agg #[.int .i64 a,.int .i64 b],.int .i64 lo,.int .i64 hi]).map (Qat 0 4))) H00 1
 (Qub a b lo hi++[(17,hvF)]) 0 [] []) []=some (.bool false,
 [(!ltq hi b)=false]++QoI B a b lo hi):=by kernel_rfl
theorem Q2Q (B:Lo) (a b lo hi:Int):QaY (Qam YP (Qa1 YP) J0 B 6 1 (Qaj YP 70 24 (([.agg #[.int .i64 a,.int .i64 b],.int .i64 lo,.int .i64 hi]).map (Qat 0 4))) H00 1
 (Quj a b lo hi++[(11,hvF)]) 0 [] []) []=some (.bool false,
 [(!ltq b a)=false]++Qpb B a b lo hi):=by kernel_rfl
theorem Q3o (B:Lo) (a b lo hi:Int):QaY (Qam YP (Qa1 YP) J0 B 6 1 (Qaj YP 70 24 (([.agg #[.int .i64 a,.int .i64 b],.int .i64 lo,.int .i64 hi]).map (Qat 0 4))) H00 1
 [(5,hvF)] 0 [] []) []=some (.bool false,
 [(!ltq a lo)=false]):=by kernel_rfl
set_option maxHeartbeats 4000000 in
theorem Q4i (a b lo hi:Int)  {B:Lo} (hJ:∀w,B.has w->J0 w):EndsT YP B (Qaj YP 70 24 (([.agg #[.int .i64 a,.int .i64 b],.int .i64 lo,.int .i64 hi]).map (Qat 0 4))) (.bool (QbE a b lo hi)):=by
 by_cases q0:(lo:Int)<=(a)
 ·have hp0:QaA (Qpb B a b lo hi):=by
   exact ⟨(Qdj q0),trivial⟩
  by_cases q1:(a:Int)<=(b)
  ·have hp1:QaA (QoI B a b lo hi):=by
    exact ⟨(Qdj q1),hp0⟩
   by_cases q2:(b:Int)<=(hi)
   ·exact (GoE.endsT okF hJ Qab GoE.start (Q0H B a b lo hi)
     ⟨(Qdj q2),hp1⟩).cast (by (simp [QbE, *];done))
   ·exact (GoE.endsT okF hJ Qab GoE.start (Q3f B a b lo hi)
     ⟨(Qdi (Int.not_le.1 q2)),hp1⟩).cast (by (simp [QbE, *];done))
  ·exact (GoE.endsT okF hJ Qab GoE.start (Q2Q B a b lo hi)
    ⟨(Qdi (Int.not_le.1 q1)),hp0⟩).cast (by (simp [QbE, *];done))
 ·exact (GoE.endsT okF hJ Qab GoE.start (Q3o B a b lo hi)
   ⟨(Qdi (Int.not_le.1 q0)),trivial⟩).cast (by (simp [QbE, *];done))
theorem Qwz (a b lo hi:Int)  :Qaq YP J0 70 #[.agg #[.int .i64 a,.int .i64 b],.int .i64 lo,.int .i64 hi] (.bool (QbE a b lo hi)):=
 QaE (ts:=[.agg #[.int .i64 a,.int .i64 b],.int .i64 lo,.int .i64 hi]) Qbw (c0:=Qaj YP 70 24 (([.agg #[.int .i64 a,.int .i64 b],.int .i64 lo,.int .i64 hi]).map (Qat 0 4))) (by kernel_rfl) (by kernel_rfl) fun B hJ=> Q4i a b lo hi  hJ
abbrev Qnl (xs:List Span):Value:=slT xs.length (Qac Qa7 xs)
end
end Go.Proofs.YtiabgkiccaodmaaGreat

namespace Go.Proofs.YtiabgkiccaodmaaGreat
open Go Go.CE Go.RowKit
noncomputable section
set_option maxRecDepth 100000
def QxS (B:Lo) (n lo hi:Int):List Prop:=[(!ltq n lo)=true]++([]:List Prop)
def Q38 (n lo hi:Int):Qaz:=[(3,hvT)]
theorem Q5J (B:Lo) (n lo hi:Int):QaY (Qam YP (Qa1 YP) J0 B 6 1 (Qaj YP 76 15 (([.int .i64 n,.int .i64 lo,.int .i64 hi]).map (Qat 0 4))) H00 1
 (Q38 n lo hi++[(7,hvT)]) 0 [] []) []=some (.bool true,
 [(!ltq hi n)=true]++QxS B n lo hi):=by kernel_rfl
theorem Q5Q (B:Lo) (n lo hi:Int):QaY (Qam YP (Qa1 YP) J0 B 6 1 (Qaj YP 76 15 (([.int .i64 n,.int .i64 lo,.int .i64 hi]).map (Qat 0 4))) H00 1
 (Q38 n lo hi++[(7,hvF)]) 0 [] []) []=some (.bool false,
 [(!ltq hi n)=false]++QxS B n lo hi):=by kernel_rfl
theorem Q5w (B:Lo) (n lo hi:Int):QaY (Qam YP (Qa1 YP) J0 B 6 1 (Qaj YP 76 15 (([.int .i64 n,.int .i64 lo,.int .i64 hi]).map (Qat 0 4))) H00 1
 [(3,hvF)] 0 [] []) []=some (.bool false,
 [(!ltq n lo)=false]):=by kernel_rfl
set_option maxHeartbeats 4000000 in
theorem Q6Q (n lo hi:Int)  {B:Lo} (hJ:∀w,B.has w->J0 w):EndsT YP B (Qaj YP 76 15 (([.int .i64 n,.int .i64 lo,.int .i64 hi]).map (Qat 0 4))) (.bool (inB n lo hi)):=by
 by_cases q0:(lo:Int)<=(n)
 ·have hp0:QaA (QxS B n lo hi):=by
   exact ⟨(Qdj q0),trivial⟩
  by_cases q1:(n:Int)<=(hi)
  ·exact (GoE.endsT okF hJ Qab GoE.start (Q5J B n lo hi)
    ⟨(Qdj q1),hp0⟩).cast (by (simp [inB, *];done))
  ·exact (GoE.endsT okF hJ Qab GoE.start (Q5Q B n lo hi)
    ⟨(Qdi (Int.not_le.1 q1)),hp0⟩).cast (by (simp [inB, *];done))
 ·exact (GoE.endsT okF hJ Qab GoE.start (Q5w B n lo hi)
   ⟨(Qdi (Int.not_le.1 q0)),trivial⟩).cast (by (simp [inB, *];done))
theorem pIn (n lo hi:Int)  :Qaq YP J0 76 #[.int .i64 n,.int .i64 lo,.int .i64 hi] (.bool (inB n lo hi)):=
 QaE (ts:=[.int .i64 n,.int .i64 lo,.int .i64 hi]) Qbw (c0:=Qaj YP 76 15 (([.int .i64 n,.int .i64 lo,.int .i64 hi]).map (Qat 0 4))) (by kernel_rfl) (by kernel_rfl) fun B hJ=> Q6Q n lo hi  hJ
def QfY (xs:List Int) (lo hi:Int) (i:Int):List Value:=[.int .i64 lo,.int .i64 hi,Qa4 1 (slT xs.length (Qac Qal xs)),.int .i64 (↑xs.length:Int),.int .i64 i]
def Qdo (xs:List Int) (lo hi:Int) (i:Int):List Obj:=[]
def QfX:List Item:=([.code [1,0,1,0,0],.inLoop [1,0,1,0,0],.inBlock 0,.code [1,1]]).map (it (Qar YP 100))
def Qx1 (B:Lo) (c0:CF) (xs:List Int) (lo hi:Int) (i:Int):Prop:=∃dJ:Nat->Value,(∀t,Qbc (dJ t))/\GoE YP B c0 H00 1 (Qa9 100 21 (([1,2,9,10,11]:List Nat).zip (QfY xs lo hi i)) dJ QfX) (Qa5 (Qdo xs lo hi i)) (2+(Qdo xs lo hi i).length) []
def Qny (B:Lo) (xs:List Int) (lo hi:Int) (i:Int) (dJ0:Nat->Value):List Prop:=[i=(↑i.toNat:Int)/\Int.toNat i < List.length xs/\Array.extract (Qac Qal xs) (Int.toNat i * TypeInfo.size Tryz.t3) (Int.toNat i * TypeInfo.size Tryz.t3+TypeInfo.size Tryz.t3)=#[.int .i64 (xs.getD i.toNat default)],ltq i (↑xs.length:Int)=true]++([]:List Prop)
def QqB (xs:List Int) (lo hi:Int) (i:Int) (dJ0:Nat->Value):Qaz:=[(0,hvT),(1,Qaf.tidx i.toNat #[.int .i64 (xs.getD i.toNat default)])]
theorem Qyz (B:Lo) (xs:List Int) (lo hi:Int) (i:Int) (dJ0:Nat->Value):landM (Qam YP (Qa1 YP) J0 B 16 1 (Qa9 100 21 (([1,2,9,10,11]:List Nat).zip (QfY xs lo hi i)) dJ0 QfX) (Qa5 (Qdo xs lo hi i)) (2+(Qdo xs lo hi i).length)
 (QqB xs lo hi i dJ0++[(7,Qaf.pure (.bool true) []),(9,hvI (i+1))]) 0 [] []) [1,2,9,10,11] [] []=some ⟨100,21,QfX,[],.run,none,QfY xs lo hi (i+1),Qdo xs lo hi (i+1),
 [wq (i+1)=i+1,QaA []/\Qaq YP J0 76 #[.int .i64 (xs.getD i.toNat default),.int .i64 lo,.int .i64 hi] (.bool true)]++Qny B xs lo hi i dJ0⟩:=by kernel_rfl
theorem Qyw (B:Lo) (xs:List Int) (lo hi:Int) (i:Int) (dJ0:Nat->Value):QaY (Qam YP (Qa1 YP) J0 B 16 1 (Qa9 100 21 (([1,2,9,10,11]:List Nat).zip (QfY xs lo hi i)) dJ0 QfX) (Qa5 (Qdo xs lo hi i)) (2+(Qdo xs lo hi i).length)
 (QqB xs lo hi i dJ0++[(7,Qaf.pure (.bool false) [])]) 0 [] []) []=some (.bool false,
 [QaA []/\Qaq YP J0 76 #[.int .i64 (xs.getD i.toNat default),.int .i64 lo,.int .i64 hi] (.bool false)]++Qny B xs lo hi i dJ0):=by kernel_rfl
theorem Q01 (B:Lo) (xs:List Int) (lo hi:Int) (i:Int) (dJ0:Nat->Value):QaY (Qam YP (Qa1 YP) J0 B 9 1 (Qa9 100 21 (([1,2,9,10,11]:List Nat).zip (QfY xs lo hi i)) dJ0 QfX) (Qa5 (Qdo xs lo hi i)) (2+(Qdo xs lo hi i).length)
 [(0,hvF)] 0 [] []) []=some (.bool true,
 [ltq i (↑xs.length:Int)=false]):=by kernel_rfl
theorem QxM (B:Lo) (xs:List Int) (lo hi:Int):landM (Qam YP (Qa1 YP) J0 B 7 1 (Qaj YP 100 21 (([slI xs,.int .i64 lo,.int .i64 hi]).map (Qat 0 4))) H00 1
 [] 0 [] []) [1,2,9,10,11] [] []=some ⟨100,21,QfX,[],.run,none,QfY xs lo hi (0),Qdo xs lo hi (0),
 []⟩:=by kernel_rfl
set_option maxHeartbeats 4000000 in
theorem Qyv (xs:List Int) (lo hi:Int)  (hfacts:xs.length<=9223372036854775807) {B:Lo} (hJ:∀w,B.has w->J0 w) {c0:CF}:∀m:Nat,(∀(i:Int),xs.length - i.toNat=m->∀(h0:0<=i),Qx1 B c0 xs lo hi i->EndsT YP B c0 (.bool ((xs.drop i.toNat).all (fun x=> inB x lo hi)))):=by
 intro m0;induction m0 using Nat.strongRecOn with
 | _ m0 ih0=>
   intro i hm0 h0 ⟨dJ0,hdJ0,hg0⟩;by_cases q0:(i:Int) < ((↑xs.length:Int))
   ·have hp0:QaA (Qny B xs lo hi i dJ0):=by
     exact ⟨⟨by omega,by omega,(Qae (z:=1) (fun _=> rfl) (by omega))⟩,⟨(QaW q0),trivial⟩⟩
    cases q1:inB (xs.getD i.toNat default) lo hi with
    | true=>
      exact ((ih0 _ (by omega)) (i+1) rfl (by omega)
       (hg0.landM okF hJ Qab (Qyz B xs lo hi i dJ0)
       ⟨(QaL (by omega) (by omega)),⟨⟨trivial,(by have t_:=pIn (xs.getD i.toNat default) (lo) (hi);rw [q1] at t_;exact t_)⟩,hp0⟩⟩ (by kernel_rfl) (by kernel_rfl))).cast (by (rw [Qh2 (i:=i)];(· simp_all);(· omega);(· omega)))
    | false=>
      exact (GoE.endsT okF hJ Qab hg0 (Qyw B xs lo hi i dJ0)
       ⟨⟨trivial,(by have t_:=pIn (xs.getD i.toNat default) (lo) (hi);rw [q1] at t_;exact t_)⟩,hp0⟩).cast (by (rw [Qh2 (i:=i)];(· simp_all);(· omega);(· omega)))
   ·exact (GoE.endsT okF hJ Qab hg0 (Q01 B xs lo hi i dJ0)
     ⟨(Qbh (Int.not_lt.1 q0)),trivial⟩).cast (by (rw [QhD (i:=i)];(· simp_all);(· omega)))
set_option maxHeartbeats 4000000 in
theorem Q1o (xs:List Int) (lo hi:Int)  (hfacts:xs.length<=9223372036854775807) {B:Lo} (hJ:∀w,B.has w->J0 w):EndsT YP B (Qaj YP 100 21 (([slI xs,.int .i64 lo,.int .i64 hi]).map (Qat 0 4))) (.bool (xs.all (fun x=> inB x lo hi))):=by
 exact ((Qyv xs lo hi hfacts hJ _) (0) rfl (by omega)
  (GoE.start.landM okF hJ Qab (QxM B xs lo hi)
  trivial (by kernel_rfl) (by kernel_rfl))).cast (by rfl)
theorem QuH (xs:List Int) (lo hi:Int)  :Qaq YP J0 100 #[slI xs,.int .i64 lo,.int .i64 hi] (.bool (xs.all (fun x=> inB x lo hi))):=
 Qcw (ts:=[slI xs,.int .i64 lo,.int .i64 hi]) (xs.length<=9223372036854775807) (fun _ _ ht=> ht.ln (i:=0) rfl) Qbw (c0:=Qaj YP 100 21 (([slI xs,.int .i64 lo,.int .i64 hi]).map (Qat 0 4))) (by kernel_rfl) (by kernel_rfl) fun hfacts B hJ=> Q1o xs lo hi  hfacts hJ
theorem Qwq (B:Lo) (n a b:Int):QaY (Qam YP (Qa1 YP) J0 B 6 1 (Qaj YP 73 11 (([.int .i64 n,.agg #[.int .i64 a,.int .i64 b]]).map (Qat 0 4))) H00 1
 [(7,Qaf.pure (.bool true) [])] 0 [] []) []=some (.bool true,
 [QaA []/\Qaq YP J0 76 #[.int .i64 n,.int .i64 a,.int .i64 b] (.bool true)]):=by kernel_rfl
theorem QvS (B:Lo) (n a b:Int):QaY (Qam YP (Qa1 YP) J0 B 6 1 (Qaj YP 73 11 (([.int .i64 n,.agg #[.int .i64 a,.int .i64 b]]).map (Qat 0 4))) H00 1
 [(7,Qaf.pure (.bool false) [])] 0 [] []) []=some (.bool false,
 [QaA []/\Qaq YP J0 76 #[.int .i64 n,.int .i64 a,.int .i64 b] (.bool false)]):=by kernel_rfl
set_option maxHeartbeats 4000000 in
theorem Qyr (n a b:Int)  {B:Lo} (hJ:∀w,B.has w->J0 w):EndsT YP B (Qaj YP 73 11 (([.int .i64 n,.agg #[.int .i64 a,.int .i64 b]]).map (Qat 0 4))) (.bool (inB n a b)):=by
 cases q0:inB n a b with
 | true=>
   exact (GoE.endsT okF hJ Qab GoE.start (Qwq B n a b)
    ⟨⟨trivial,(by have t_:=pIn (n) (a) (b);rw [q0] at t_;exact t_)⟩,trivial⟩).cast (by rfl)
 | false=>
   exact (GoE.endsT okF hJ Qab GoE.start (QvS B n a b)
    ⟨⟨trivial,(by have t_:=pIn (n) (a) (b);rw [q0] at t_;exact t_)⟩,trivial⟩).cast (by rfl)
theorem Qxg (n a b:Int)  :Qaq YP J0 73 #[.int .i64 n,.agg #[.int .i64 a,.int .i64 b]] (.bool (inB n a b)):=
 QaE (ts:=[.int .i64 n,.agg #[.int .i64 a,.int .i64 b]]) Qbw (c0:=Qaj YP 73 11 (([.int .i64 n,.agg #[.int .i64 a,.int .i64 b]]).map (Qat 0 4))) (by kernel_rfl) (by kernel_rfl) fun B hJ=> Qyr n a b  hJ
def Qhr (B:Lo) (a b lo hi:Int):List Prop:=[(!ltq a lo)=true]++([]:List Prop)
def QkD (a b lo hi:Int):Qaz:=[(5,hvT)]
def Qhd (B:Lo) (a b lo hi:Int):List Prop:=[(!ltq b a)=true]++Qhr B a b lo hi
def Qkz (a b lo hi:Int):Qaz:=QkD a b lo hi++[(11,hvT)]
theorem Qsn (B:Lo) (a b lo hi:Int):QaY (Qam YP (Qa1 YP) J0 B 6 1 (Qaj YP 109 24 (([.agg #[.int .i64 a,.int .i64 b],.int .i64 lo,.int .i64 hi]).map (Qat 0 4))) H00 1
 (Qkz a b lo hi++[(17,hvT)]) 0 [] []) []=some (.bool true,
 [(!ltq hi b)=true]++Qhd B a b lo hi):=by kernel_rfl
theorem QrX (B:Lo) (a b lo hi:Int):QaY (Qam YP (Qa1 YP) J0 B 6 1 (Qaj YP 109 24 (([.agg #[.int .i64 a,.int .i64 b],.int .i64 lo,.int .i64 hi]).map (Qat 0 4))) H00 1
 (Qkz a b lo hi++[(17,hvF)]) 0 [] []) []=some (.bool false,
 [(!ltq hi b)=false]++Qhd B a b lo hi):=by kernel_rfl
theorem QrR (B:Lo) (a b lo hi:Int):QaY (Qam YP (Qa1 YP) J0 B 6 1 (Qaj YP 109 24 (([.agg #[.int .i64 a,.int .i64 b],.int .i64 lo,.int .i64 hi]).map (Qat 0 4))) H00 1
 (QkD a b lo hi++[(11,hvF)]) 0 [] []) []=some (.bool false,
 [(!ltq b a)=false]++Qhr B a b lo hi):=by kernel_rfl
theorem QqD (B:Lo) (a b lo hi:Int):QaY (Qam YP (Qa1 YP) J0 B 6 1 (Qaj YP 109 24 (([.agg #[.int .i64 a,.int .i64 b],.int .i64 lo,.int .i64 hi]).map (Qat 0 4))) H00 1
 [(5,hvF)] 0 [] []) []=some (.bool false,
 [(!ltq a lo)=false]):=by kernel_rfl
set_option maxHeartbeats 4000000 in
theorem Qt5 (a b lo hi:Int)  {B:Lo} (hJ:∀w,B.has w->J0 w):EndsT YP B (Qaj YP 109 24 (([.agg #[.int .i64 a,.int .i64 b],.int .i64 lo,.int .i64 hi]).map (Qat 0 4))) (.bool (QbE a b lo hi)):=by
 by_cases q0:(lo:Int)<=(a)
 ·have hp0:QaA (Qhr B a b lo hi):=by
   exact ⟨(Qdj q0),trivial⟩
  by_cases q1:(a:Int)<=(b)
  ·have hp1:QaA (Qhd B a b lo hi):=by
    exact ⟨(Qdj q1),hp0⟩
   by_cases q2:(b:Int)<=(hi)
   ·exact (GoE.endsT okF hJ Qab GoE.start (Qsn B a b lo hi)
     ⟨(Qdj q2),hp1⟩).cast (by (simp [QbE, *];done))
   ·exact (GoE.endsT okF hJ Qab GoE.start (QrX B a b lo hi)
     ⟨(Qdi (Int.not_le.1 q2)),hp1⟩).cast (by (simp [QbE, *];done))
  ·exact (GoE.endsT okF hJ Qab GoE.start (QrR B a b lo hi)
    ⟨(Qdi (Int.not_le.1 q1)),hp0⟩).cast (by (simp [QbE, *];done))
 ·exact (GoE.endsT okF hJ Qab GoE.start (QqD B a b lo hi)
   ⟨(Qdi (Int.not_le.1 q0)),trivial⟩).cast (by (simp [QbE, *];done))
theorem Qj7 (a b lo hi:Int)  :Qaq YP J0 109 #[.agg #[.int .i64 a,.int .i64 b],.int .i64 lo,.int .i64 hi] (.bool (QbE a b lo hi)):=
 QaE (ts:=[.agg #[.int .i64 a,.int .i64 b],.int .i64 lo,.int .i64 hi]) Qbw (c0:=Qaj YP 109 24 (([.agg #[.int .i64 a,.int .i64 b],.int .i64 lo,.int .i64 hi]).map (Qat 0 4))) (by kernel_rfl) (by kernel_rfl) fun B hJ=> Qt5 a b lo hi  hJ
theorem QuM (B:Lo) (a b most:Int):QaY (Qam YP (Qa1 YP) J0 B 6 1 (Qaj YP 102 8 (([.agg #[.int .i64 a,.int .i64 b],.int .i64 most]).map (Qat 0 4))) H00 1
 [(4,Qaf.pure (.bool true) [])] 0 [] []) []=some (.bool true,
 [QaA []/\Qaq YP J0 109 #[.agg #[.int .i64 a,.int .i64 b],.int .i64 0,.int .i64 most] (.bool true)]):=by kernel_rfl
theorem QwG (B:Lo) (a b most:Int):QaY (Qam YP (Qa1 YP) J0 B 6 1 (Qaj YP 102 8 (([.agg #[.int .i64 a,.int .i64 b],.int .i64 most]).map (Qat 0 4))) H00 1
 [(4,Qaf.pure (.bool false) [])] 0 [] []) []=some (.bool false,
 [QaA []/\Qaq YP J0 109 #[.agg #[.int .i64 a,.int .i64 b],.int .i64 0,.int .i64 most] (.bool false)]):=by kernel_rfl
set_option maxHeartbeats 4000000 in
theorem Q0q (a b most:Int)  {B:Lo} (hJ:∀w,B.has w->J0 w):EndsT YP B (Qaj YP 102 8 (([.agg #[.int .i64 a,.int .i64 b],.int .i64 most]).map (Qat 0 4))) (.bool (QbE a b 0 most)):=by
 cases q0:QbE a b 0 most with
 | true=>
   exact (GoE.endsT okF hJ Qab GoE.start (QuM B a b most)
    ⟨⟨trivial,(by have t_:=Qj7 (a) (b) (0) (most);rw [q0] at t_;exact t_)⟩,trivial⟩).cast (by rfl)
 | false=>
   exact (GoE.endsT okF hJ Qab GoE.start (QwG B a b most)
    ⟨⟨trivial,(by have t_:=Qj7 (a) (b) (0) (most);rw [q0] at t_;exact t_)⟩,trivial⟩).cast (by rfl)
theorem QyP (a b most:Int)  :Qaq YP J0 102 #[.agg #[.int .i64 a,.int .i64 b],.int .i64 most] (.bool (QbE a b 0 most)):=
 QaE (ts:=[.agg #[.int .i64 a,.int .i64 b],.int .i64 most]) Qbw (c0:=Qaj YP 102 8 (([.agg #[.int .i64 a,.int .i64 b],.int .i64 most]).map (Qat 0 4))) (by kernel_rfl) (by kernel_rfl) fun B hJ=> Q0q a b most  hJ
def QdF (xs:List Span) (most:Int) (i:Int):List Value:=[.int .i64 most,Qa4 1 (slT xs.length (Qac Qa7 xs)),.int .i64 (↑xs.length:Int),.int .i64 i]
def QbP (xs:List Span) (most:Int) (i:Int):List Obj:=[]
def QdB:List Item:=([.code [1,0,1,0,0],.inLoop [1,0,1,0,0],.inBlock 0,.code [1,1]]).map (it (Qar YP 101))
def Qqu (B:Lo) (c0:CF) (xs:List Span) (most:Int) (i:Int):Prop:=∃dJ:Nat->Value,(∀t,Qbc (dJ t))/\GoE YP B c0 H00 1 (Qa9 101 18 (([1,7,8,9]:List Nat).zip (QdF xs most i)) dJ QdB) (Qa5 (QbP xs most i)) (2+(QbP xs most i).length) []
def Qfp (xs:List Span) (i:Int):Array Value:=#[.int .i64 (Span.lo (xs.getD i.toNat default)),.int .i64 (Span.hi (xs.getD i.toNat default))]
def QgO (B:Lo) (xs:List Span) (most:Int) (i:Int) (dJ0:Nat->Value):List Prop:=[i=(↑i.toNat:Int)/\Int.toNat i < List.length xs/\Array.extract (Qac Qa7 xs) (Int.toNat i * TypeInfo.size Tryz.t25) (Int.toNat i * TypeInfo.size Tryz.t25+TypeInfo.size Tryz.t25)=(Qfp xs i),ltq i (↑xs.length:Int)=true]++([]:List Prop)
def Qkx (xs:List Span) (most:Int) (i:Int) (dJ0:Nat->Value):Qaz:=[(0,hvT),(1,Qaf.tidx i.toNat (Qfp xs i))]
theorem Qr7 (B:Lo) (xs:List Span) (most:Int) (i:Int) (dJ0:Nat->Value):landM (Qam YP (Qa1 YP) J0 B 16 1 (Qa9 101 18 (([1,7,8,9]:List Nat).zip (QdF xs most i)) dJ0 QdB) (Qa5 (QbP xs most i)) (2+(QbP xs most i).length)
 (Qkx xs most i dJ0++[(7,Qaf.pure (.bool true) []),(9,hvI (i+1))]) 0 [] []) [1,7,8,9] [] []=some ⟨101,18,QdB,[],.run,none,QdF xs most (i+1),QbP xs most (i+1),
 [wq (i+1)=i+1,QaA []/\Qaq YP J0 102 #[.agg (Qfp xs i),.int .i64 most] (.bool true)]++QgO B xs most i dJ0⟩:=by kernel_rfl
theorem Qru (B:Lo) (xs:List Span) (most:Int) (i:Int) (dJ0:Nat->Value):QaY (Qam YP (Qa1 YP) J0 B 16 1 (Qa9 101 18 (([1,7,8,9]:List Nat).zip (QdF xs most i)) dJ0 QdB) (Qa5 (QbP xs most i)) (2+(QbP xs most i).length)
 (Qkx xs most i dJ0++[(7,Qaf.pure (.bool false) [])]) 0 [] []) []=some (.bool false,
 [QaA []/\Qaq YP J0 102 #[.agg (Qfp xs i),.int .i64 most] (.bool false)]++QgO B xs most i dJ0):=by kernel_rfl
theorem Qrd (B:Lo) (xs:List Span) (most:Int) (i:Int) (dJ0:Nat->Value):QaY (Qam YP (Qa1 YP) J0 B 9 1 (Qa9 101 18 (([1,7,8,9]:List Nat).zip (QdF xs most i)) dJ0 QdB) (Qa5 (QbP xs most i)) (2+(QbP xs most i).length)
 [(0,hvF)] 0 [] []) []=some (.bool true,
 [ltq i (↑xs.length:Int)=false]):=by kernel_rfl
theorem Qr4 (B:Lo) (xs:List Span) (most:Int):landM (Qam YP (Qa1 YP) J0 B 7 1 (Qaj YP 101 18 (([Qnl xs,.int .i64 most]).map (Qat 0 4))) H00 1
 [] 0 [] []) [1,7,8,9] [] []=some ⟨101,18,QdB,[],.run,none,QdF xs most (0),QbP xs most (0),
 []⟩:=by kernel_rfl
set_option maxHeartbeats 4000000 in
theorem Qrp (xs:List Span) (most:Int)  (hfacts:xs.length<=9223372036854775807) {B:Lo} (hJ:∀w,B.has w->J0 w) {c0:CF}:∀m:Nat,(∀(i:Int),xs.length - i.toNat=m->∀(h0:0<=i),Qqu B c0 xs most i->EndsT YP B c0 (.bool ((xs.drop i.toNat).all (fun s=> QbE s.lo s.hi 0 most)))):=by
 intro m0;induction m0 using Nat.strongRecOn with
 | _ m0 ih0=>
   intro i hm0 h0 ⟨dJ0,hdJ0,hg0⟩;by_cases q0:(i:Int) < ((↑xs.length:Int))
   ·have hp0:QaA (QgO B xs most i dJ0):=by
     exact ⟨⟨by omega,by omega,(Qae (z:=2) (fun _=> rfl) (by omega))⟩,⟨(QaW q0),trivial⟩⟩
    cases q1:QbE (Span.lo (xs.getD i.toNat default)) (Span.hi (xs.getD i.toNat default)) 0 most with
    | true=>
      exact ((ih0 _ (by omega)) (i+1) rfl (by omega)
       (hg0.landM okF hJ Qab (Qr7 B xs most i dJ0)
       ⟨(QaL (by omega) (by omega)),⟨⟨trivial,(by have t_:=QyP (Span.lo (xs.getD i.toNat default)) (Span.hi (xs.getD i.toNat default)) (most);rw [q1] at t_;exact t_)⟩,hp0⟩⟩ (by kernel_rfl) (by kernel_rfl))).cast (by (rw [Qh2 (i:=i)];(· simp_all);(· omega);(· omega)))
    | false=>
      exact (GoE.endsT okF hJ Qab hg0 (Qru B xs most i dJ0)
       ⟨⟨trivial,(by have t_:=QyP (Span.lo (xs.getD i.toNat default)) (Span.hi (xs.getD i.toNat default)) (most);rw [q1] at t_;exact t_)⟩,hp0⟩).cast (by (rw [Qh2 (i:=i)];(· simp_all);(· omega);(· omega)))
   ·exact (GoE.endsT okF hJ Qab hg0 (Qrd B xs most i dJ0)
     ⟨(Qbh (Int.not_lt.1 q0)),trivial⟩).cast (by (rw [QhD (i:=i)];(· simp_all);(· omega)))
set_option maxHeartbeats 4000000 in
theorem Qtt (xs:List Span) (most:Int)  (hfacts:xs.length<=9223372036854775807) {B:Lo} (hJ:∀w,B.has w->J0 w):EndsT YP B (Qaj YP 101 18 (([Qnl xs,.int .i64 most]).map (Qat 0 4))) (.bool (xs.all (fun s=> QbE s.lo s.hi 0 most))):=by
 exact ((Qrp xs most hfacts hJ _) (0) rfl (by omega)
  (GoE.start.landM okF hJ Qab (Qr4 B xs most)
  trivial (by kernel_rfl) (by kernel_rfl))).cast (by rfl)
theorem Qix (xs:List Span) (most:Int)  :Qaq YP J0 101 #[Qnl xs,.int .i64 most] (.bool (xs.all (fun s=> QbE s.lo s.hi 0 most))):=
 Qcw (ts:=[Qnl xs,.int .i64 most]) (xs.length<=9223372036854775807) (fun _ _ ht=> ht.ln (i:=0) rfl) Qbw (c0:=Qaj YP 101 18 (([Qnl xs,.int .i64 most]).map (Qat 0 4))) (by kernel_rfl) (by kernel_rfl) fun hfacts B hJ=> Qtt xs most  hfacts hJ
end
end Go.Proofs.YtiabgkiccaodmaaGreat

namespace Go.Proofs.YtiabgkiccaodmaaGreat
open Go Go.CE Go.RowKit
set_option maxRecDepth 100000
theorem QaU {x lo hi:Int}:inB x lo hi=true<->lo<=x/\x<=hi:=by simp [inB]
end Go.Proofs.YtiabgkiccaodmaaGreat

namespace Go.Proofs.YtiabgkiccaodmaaGreat
open Go Go.CE Go.RowKit
set_option maxRecDepth 100000
theorem Q4n (B:Lo) (a b:Int):QaY (Qam YP (Qa1 YP) J0 B 6 1 (Qaj YP 30 5 (([.agg #[.int .i64 a,.int .i64 b]]).map (Qat 0 4))) H00 1
 [(3,Qaf.pure (.bool true) [])] 0 [] []) []=some (.bool true,
 [QaA []/\Qaq YP J0 70 #[.agg #[.int .i64 a,.int .i64 b],.int .i64 1,.int .i64 60] (.bool true)]):=by kernel_rfl
theorem Q4R (B:Lo) (a b:Int):QaY (Qam YP (Qa1 YP) J0 B 6 1 (Qaj YP 30 5 (([.agg #[.int .i64 a,.int .i64 b]]).map (Qat 0 4))) H00 1
 [(3,Qaf.pure (.bool false) [])] 0 [] []) []=some (.bool false,
 [QaA []/\Qaq YP J0 70 #[.agg #[.int .i64 a,.int .i64 b],.int .i64 1,.int .i64 60] (.bool false)]):=by kernel_rfl
set_option maxHeartbeats 4000000 in
theorem Q5o (a b:Int)  {B:Lo} (hJ:∀w,B.has w->J0 w):EndsT YP B (Qaj YP 30 5 (([.agg #[.int .i64 a,.int .i64 b]]).map (Qat 0 4))) (.bool (QbE a b 1 60)):=by
 cases q0:QbE a b 1 60 with
 | true=>
   exact (GoE.endsT okF hJ Qab GoE.start (Q4n B a b)
    ⟨⟨trivial,(by have t_:=Qwz (a) (b) (1) (60);rw [q0] at t_;exact t_)⟩,trivial⟩).cast (by rfl)
 | false=>
   exact (GoE.endsT okF hJ Qab GoE.start (Q4R B a b)
    ⟨⟨trivial,(by have t_:=Qwz (a) (b) (1) (60);rw [q0] at t_;exact t_)⟩,trivial⟩).cast (by rfl)
theorem Q7i (a b:Int)  :Qaq YP J0 30 #[.agg #[.int .i64 a,.int .i64 b]] (.bool (QbE a b 1 60)):=
 QaE (ts:=[.agg #[.int .i64 a,.int .i64 b]]) Qbw (c0:=Qaj YP 30 5 (([.agg #[.int .i64 a,.int .i64 b]]).map (Qat 0 4))) (by kernel_rfl) (by kernel_rfl) fun B hJ=> Q5o a b  hJ
end Go.Proofs.YtiabgkiccaodmaaGreat

namespace Go.Proofs.YtiabgkiccaodmaaGreat
open Go Go.CE Go.RowKit
set_option maxRecDepth 100000
theorem Q1O (B:Lo) (a b:Int):QaY (Qam YP (Qa1 YP) J0 B 6 1 (Qaj YP 103 5 (([.agg #[.int .i64 a,.int .i64 b]]).map (Qat 0 4))) H00 1
 [] 0 [] []) []=some (.int .i64 b,
 []):=by kernel_rfl
set_option maxHeartbeats 4000000 in
theorem Q4b (a b:Int)  {B:Lo} (hJ:∀w,B.has w->J0 w):EndsT YP B (Qaj YP 103 5 (([.agg #[.int .i64 a,.int .i64 b]]).map (Qat 0 4))) (.int .i64 b):=by
 exact (GoE.endsT okF hJ Qab GoE.start (Q1O B a b)
  trivial).cast (by rfl)
theorem Q5P (a b:Int)  :Qaq YP J0 103 #[.agg #[.int .i64 a,.int .i64 b]] (.int .i64 b):=
 QaE (ts:=[.agg #[.int .i64 a,.int .i64 b]]) Qbw (c0:=Qaj YP 103 5 (([.agg #[.int .i64 a,.int .i64 b]]).map (Qat 0 4))) (by kernel_rfl) (by kernel_rfl) fun B hJ=> Q4b a b  hJ
theorem Q3R (B:Lo) (a b:Int):QaY (Qam YP (Qa1 YP) J0 B 6 1 (Qaj YP 104 5 (([.agg #[.int .i64 a,.int .i64 b]]).map (Qat 0 4))) H00 1
 [] 0 [] []) []=some (.int .i64 a,
 []):=by kernel_rfl
set_option maxHeartbeats 4000000 in
theorem Q5C (a b:Int)  {B:Lo} (hJ:∀w,B.has w->J0 w):EndsT YP B (Qaj YP 104 5 (([.agg #[.int .i64 a,.int .i64 b]]).map (Qat 0 4))) (.int .i64 a):=by
 exact (GoE.endsT okF hJ Qab GoE.start (Q3R B a b)
  trivial).cast (by rfl)
theorem Q7k (a b:Int)  :Qaq YP J0 104 #[.agg #[.int .i64 a,.int .i64 b]] (.int .i64 a):=
 QaE (ts:=[.agg #[.int .i64 a,.int .i64 b]]) Qbw (c0:=Qaj YP 104 5 (([.agg #[.int .i64 a,.int .i64 b]]).map (Qat 0 4))) (by kernel_rfl) (by kernel_rfl) fun B hJ=> Q5C a b  hJ
end Go.Proofs.YtiabgkiccaodmaaGreat

namespace Go.Proofs.YtiabgkiccaodmaaGreat
open Go Go.CE Go.RowKit
set_option maxRecDepth 100000
end Go.Proofs.YtiabgkiccaodmaaGreat

namespace Go.Proofs.YtiabgkiccaodmaaGreat
open Go Go.CE Go.RowKit
set_option maxRecDepth 100000

end Go.Proofs.YtiabgkiccaodmaaGreat

namespace Go.Proofs.YtiabgkiccaodmaaGreat
open Go Go.CE Go.RowKit
def inN (n:Int):Value:=.int .i64 n
def Qdb (g:FuncId):Bool:=Nat.ble 3 g && (Nat.blt g 171 && !([]:List Nat).any (Nat.beq g))
theorem Qbg:∀g,Qdb g=true->Qa1 YP g=true:=by
 have h:(List.range 171).all (fun g=> !(Qdb g) || Qa1 YP g)=true:=by decide+kernel
 intro g hg;have hg':=hg;simp only [Qdb,YB] at hg;have h1:g < 171:=YL hg.2.1;have:=List.all_eq_true.1 h g (List.mem_range.2 h1);rw [hg'] at this;simpa using this
end Go.Proofs.YtiabgkiccaodmaaGreat

namespace Go.Proofs.YtiabgkiccaodmaaGreat
open Go Go.CE Go.RowKit
def Q4c:Memo:=
 ⟨19,#[.agg #[.slice (some ⟨1,0,none⟩) 6 1,inN 20,inN 21,.slice (some ⟨2,0,none⟩) 2 2,inN 6,inN 17],inN 1],[(1,.cells #[inN 0,inN 2,inN 4,inN 3,inN 1,inN (-1)] 3 (0,0)),(2,.cells #[inN 0,inN 1,inN 1,inN 3] 25 (0,0))],3,.tuple #[.slice (some ⟨146,0,none⟩) 2 1,.slice (some ⟨363,0,none⟩) 6 1,inN 0],[(363,.cells #[inN 7,inN 8,inN 9,inN 13,inN 14,inN 15] 3 (0,0)),(146,.cells #[inN 8,inN 14] 3 (0,0))],420⟩
theorem Q1R:QbG Q4c (Q4c.run YP Qdb Qb4 100000)=true:=by decide+kernel
def QsK:Memo:=
 ⟨20,#[.agg #[.slice (some ⟨421,0,none⟩) 6 1,inN 20,inN 21,.slice (some ⟨422,0,none⟩) 2 2,inN 6,inN 17],.agg #[inN 0,inN 16]],[(421,.cells #[inN 0,inN 2,inN 4,inN 3,inN 1,inN (-1)] 3 (0,0)),(422,.cells #[inN 0,inN 1,inN 1,inN 3] 25 (0,0))],423,.tuple #[.agg #[inN 1,inN 8],inN 0],[],589⟩
theorem Qv2:QbG QsK (QsK.run YP Qdb Qb4 100000)=true:=by decide+kernel
def Qs1:Memo:=
 ⟨29,#[.agg #[.slice (some ⟨591,0,none⟩) 6 1,inN 20,inN 21,.slice (some ⟨592,0,none⟩) 2 2,inN 6,inN 17],.agg #[inN 1,inN 2],inN 1],[(591,.cells #[inN 0,inN 2,inN 4,inN 3,inN 1,inN (-1)] 3 (0,0)),(592,.cells #[inN 0,inN 1,inN 1,inN 3] 25 (0,0))],593,.tuple #[.slice (some ⟨823,0,none⟩) 1 2,inN 0],[(823,.cells #[inN 1,inN 8] 29 (0,0))],826⟩
theorem Qwj:QbG Qs1 (Qs1.run YP Qdb Qb4 100000)=true:=by decide+kernel
def Qow:Memo:=
 ⟨125,#[.agg #[inN 130,inN 4,inN 95,.slice (some ⟨915,0,none⟩) 60 1]],[(915,.cells #[.bool false,.bool false,.bool false,.bool false,.bool false,.bool false,.bool false,.bool false,.bool false,.bool false,.bool false,.bool false,.bool false,.bool false,.bool false,.bool false,.bool false,.bool false,.bool false,.bool false,.bool false,.bool false,.bool false,.bool false,.bool false,.bool false,.bool false,.bool false,.bool false,.bool false,.bool true,.bool false,.bool false,.bool false,.bool false,.bool false,.bool false,.bool false,.bool false,.bool false,.bool false,.bool false,.bool false,.bool false,.bool false,.bool false,.bool false,.bool false,.bool false,.bool false,.bool false,.bool false,.bool false,.bool false,.bool false,.bool false,.bool false,.bool false,.bool false,.bool false] 4 (0,0))],932,inN 56,[],935⟩
theorem Qsu:QbG Qow (Qow.drun YP Qdb Qb4 100000)=true:=by decide+kernel
def Qps:Memo:=
 ⟨125,#[.agg #[inN 70,inN 2,inN 55,.slice (some ⟨915,0,none⟩) 60 1]],[(915,.cells #[.bool false,.bool false,.bool false,.bool false,.bool false,.bool false,.bool false,.bool false,.bool false,.bool false,.bool false,.bool false,.bool false,.bool false,.bool false,.bool false,.bool false,.bool false,.bool false,.bool false,.bool false,.bool false,.bool false,.bool false,.bool false,.bool false,.bool false,.bool false,.bool false,.bool false,.bool true,.bool false,.bool false,.bool false,.bool false,.bool false,.bool false,.bool false,.bool false,.bool false,.bool false,.bool false,.bool false,.bool false,.bool false,.bool false,.bool false,.bool false,.bool false,.bool false,.bool false,.bool false,.bool false,.bool false,.bool false,.bool false,.bool false,.bool false,.bool false,.bool false] 4 (0,0))],936,inN (-1),[],939⟩
theorem QtA:QbG Qps (Qps.drun YP Qdb Qb4 100000)=true:=by decide+kernel
def QmX:Memo:=
 ⟨125,#[.agg #[inN 130,inN 4,inN 130,.slice (some ⟨1044,0,none⟩) 60 1]],[(1044,.cells #[.bool false,.bool false,.bool false,.bool false,.bool false,.bool false,.bool false,.bool false,.bool false,.bool false,.bool false,.bool false,.bool false,.bool false,.bool false,.bool false,.bool false,.bool false,.bool false,.bool false,.bool false,.bool false,.bool false,.bool false,.bool false,.bool false,.bool false,.bool false,.bool false,.bool false,.bool true,.bool false,.bool false,.bool false,.bool false,.bool false,.bool false,.bool false,.bool false,.bool false,.bool false,.bool false,.bool false,.bool false,.bool false,.bool false,.bool false,.bool false,.bool false,.bool false,.bool false,.bool false,.bool false,.bool false,.bool false,.bool false,.bool false,.bool false,.bool false,.bool false] 4 (0,0))],1059,inN (-1),[],1062⟩
theorem Qsc:QbG QmX (QmX.drun YP Qdb Qb4 100000)=true:=by decide+kernel
def Qm3:Memo:=
 ⟨125,#[.agg #[inN 70,inN 2,inN 30,.slice (some ⟨1044,0,none⟩) 60 1]],[(1044,.cells #[.bool false,.bool false,.bool false,.bool false,.bool false,.bool false,.bool false,.bool false,.bool false,.bool false,.bool false,.bool false,.bool false,.bool false,.bool false,.bool false,.bool false,.bool false,.bool false,.bool false,.bool false,.bool false,.bool false,.bool false,.bool false,.bool false,.bool false,.bool false,.bool false,.bool false,.bool true,.bool false,.bool false,.bool false,.bool false,.bool false,.bool false,.bool false,.bool false,.bool false,.bool false,.bool false,.bool false,.bool false,.bool false,.bool false,.bool false,.bool false,.bool false,.bool false,.bool false,.bool false,.bool false,.bool false,.bool false,.bool false,.bool false,.bool false,.bool false,.bool false] 4 (0,0))],1063,inN 50,[],1066⟩
theorem QrM:QbG Qm3 (Qm3.drun YP Qdb Qb4 100000)=true:=by decide+kernel
def Ql6:Memo:=
 ⟨125,#[.agg #[inN 130,inN 3,inN 130,.slice (some ⟨1103,0,none⟩) 60 1]],[(1103,.cells #[.bool false,.bool false,.bool false,.bool false,.bool false,.bool false,.bool false,.bool false,.bool false,.bool false,.bool false,.bool false,.bool false,.bool false,.bool false,.bool false,.bool false,.bool false,.bool false,.bool false,.bool true,.bool false,.bool false,.bool false,.bool false,.bool false,.bool false,.bool false,.bool false,.bool false,.bool false,.bool false,.bool false,.bool false,.bool false,.bool false,.bool false,.bool false,.bool false,.bool false,.bool true,.bool false,.bool false,.bool false,.bool false,.bool false,.bool false,.bool false,.bool false,.bool false,.bool false,.bool false,.bool false,.bool false,.bool false,.bool false,.bool false,.bool false,.bool false,.bool false] 4 (0,0))],1118,inN (-1),[],1121⟩
theorem QrV:QbG Ql6 (Ql6.drun YP Qdb Qb4 100000)=true:=by decide+kernel
def QmE:Memo:=
 ⟨125,#[.agg #[inN 70,inN 1,inN 30,.slice (some ⟨1103,0,none⟩) 60 1]],[(1103,.cells #[.bool false,.bool false,.bool false,.bool false,.bool false,.bool false,.bool false,.bool false,.bool false,.bool false,.bool false,.bool false,.bool false,.bool false,.bool false,.bool false,.bool false,.bool false,.bool false,.bool false,.bool true,.bool false,.bool false,.bool false,.bool false,.bool false,.bool false,.bool false,.bool false,.bool false,.bool false,.bool false,.bool false,.bool false,.bool false,.bool false,.bool false,.bool false,.bool false,.bool false,.bool true,.bool false,.bool false,.bool false,.bool false,.bool false,.bool false,.bool false,.bool false,.bool false,.bool false,.bool false,.bool false,.bool false,.bool false,.bool false,.bool false,.bool false,.bool false,.bool false] 4 (0,0))],1122,inN (-1),[],1125⟩
theorem QqA:QbG QmE (QmE.drun YP Qdb Qb4 100000)=true:=by decide+kernel
def Qm8:Memo:=
 ⟨125,#[.agg #[inN 130,inN 2,inN 90,.slice (some ⟨1229,0,none⟩) 60 1]],[(1229,.cells #[.bool false,.bool false,.bool false,.bool false,.bool false,.bool false,.bool false,.bool false,.bool false,.bool false,.bool false,.bool false,.bool false,.bool false,.bool false,.bool false,.bool false,.bool false,.bool false,.bool false,.bool false,.bool false,.bool false,.bool false,.bool false,.bool false,.bool false,.bool false,.bool false,.bool false,.bool true,.bool false,.bool false,.bool false,.bool false,.bool false,.bool false,.bool false,.bool false,.bool false,.bool false,.bool false,.bool false,.bool false,.bool false,.bool false,.bool false,.bool false,.bool false,.bool false,.bool false,.bool false,.bool false,.bool false,.bool false,.bool false,.bool false,.bool false,.bool false,.bool false] 4 (0,0))],1247,inN (-1),[],1250⟩
theorem Qrq:QbG Qm8 (Qm8.drun YP Qdb Qb4 100000)=true:=by decide+kernel
def QmP:Memo:=
 ⟨125,#[.agg #[inN 130,inN 4,inN 90,.slice (some ⟨1229,0,none⟩) 60 1]],[(1229,.cells #[.bool false,.bool false,.bool false,.bool false,.bool false,.bool false,.bool false,.bool false,.bool false,.bool false,.bool false,.bool false,.bool false,.bool false,.bool false,.bool false,.bool false,.bool false,.bool false,.bool false,.bool false,.bool false,.bool false,.bool false,.bool false,.bool false,.bool false,.bool false,.bool false,.bool false,.bool true,.bool false,.bool false,.bool false,.bool false,.bool false,.bool false,.bool false,.bool false,.bool false,.bool false,.bool false,.bool false,.bool false,.bool false,.bool false,.bool false,.bool false,.bool false,.bool false,.bool false,.bool false,.bool false,.bool false,.bool false,.bool false,.bool false,.bool false,.bool false,.bool false] 4 (0,0))],1251,inN 55,[],1254⟩
theorem Qsb:QbG QmP (QmP.drun YP Qdb Qb4 100000)=true:=by decide+kernel
def Qlu:Memo:=
 ⟨125,#[.agg #[inN 130,inN 3,inN 90,.slice (some ⟨1229,0,none⟩) 60 1]],[(1229,.cells #[.bool false,.bool false,.bool false,.bool false,.bool false,.bool false,.bool false,.bool false,.bool false,.bool false,.bool false,.bool false,.bool false,.bool false,.bool false,.bool false,.bool false,.bool false,.bool false,.bool false,.bool false,.bool false,.bool false,.bool false,.bool false,.bool false,.bool false,.bool false,.bool false,.bool false,.bool true,.bool false,.bool false,.bool false,.bool false,.bool false,.bool false,.bool false,.bool false,.bool false,.bool false,.bool false,.bool false,.bool false,.bool false,.bool false,.bool false,.bool false,.bool false,.bool false,.bool false,.bool false,.bool false,.bool false,.bool false,.bool false,.bool false,.bool false,.bool false,.bool false] 4 (0,0))],1255,inN (-1),[],1258⟩
theorem Qrt:QbG Qlu (Qlu.drun YP Qdb Qb4 100000)=true:=by decide+kernel
end Go.Proofs.YtiabgkiccaodmaaGreat

namespace Go.Proofs.YtiabgkiccaodmaaGreat
open Go Go.CE Go.RowKit
noncomputable def Qnc:Orc:=Qek [Qow,Qps]
theorem QnD (B:Lo):Qjz YP B Qnc:=Qbe Qbg Qab (QaP _ _) Qsu (Qbe Qbg Qab (QaP _ _) QtA (QiK _ _))
def QsP:Memo:=
 ⟨38,#[.agg #[.slice (some ⟨827,0,none⟩) 2 1,.slice (some ⟨828,0,none⟩) 2 2,inN 20,inN 30,.slice (some ⟨832,0,none⟩) 3 3,inN 100],.slice (some ⟨833,0,none⟩) 2 1,inN 60,.agg #[.slice (some ⟨834,0,none⟩) 2 1,.slice (some ⟨835,0,none⟩) 2 1,.slice (some ⟨839,0,none⟩) 3 1]],[(834,.cells #[inN 4,inN 2] 3 (0,0)),(835,.cells #[inN 30,inN 30] 3 (0,0)),(838,.cells #[inN 130,inN 30] 3 (0,0)),(837,.cells #[inN 0,inN 55] 3 (0,0)),(836,.cells #[inN 95,inN 0] 3 (0,0)),(839,.cells #[.slice (some ⟨836,0,none⟩) 2 1,.slice (some ⟨837,0,none⟩) 2 1,.slice (some ⟨838,0,none⟩) 2 1] 22 (0,0)),(833,.cells #[inN 0,inN 1] 3 (0,0)),(827,.cells #[inN 130,inN 70] 3 (0,0)),(828,.cells #[inN 3,inN 4,inN 1,inN 2] 25 (0,0)),(831,.cells #[inN 130,inN 130,inN 30,inN 30] 25 (0,0)),(830,.cells #[inN 0,inN 0,inN 50,inN 60] 25 (0,0)),(829,.cells #[inN 90,inN 100,inN 0,inN 0] 25 (0,0)),(832,.cells #[.slice (some ⟨829,0,none⟩) 2 2,inN 50,inN 70,.slice (some ⟨830,0,none⟩) 2 2,inN 30,inN 40,.slice (some ⟨831,0,none⟩) 2 2,inN 90,inN 100] 118 (0,0))],840,.tuple #[.slice (some ⟨930,0,none⟩) 2 1,.slice (some ⟨939,0,none⟩) 2 1,inN 0],[(939,.cells #[inN 0,inN 5] 3 (0,0)),(930,.cells #[inN 56,inN (-1)] 3 (0,0))],946⟩
theorem QuU:QbG QsP (QsP.run YP Qdb Qnc 100000)=true:=by decide+kernel
end Go.Proofs.YtiabgkiccaodmaaGreat

namespace Go.Proofs.YtiabgkiccaodmaaGreat
open Go Go.CE Go.RowKit
noncomputable def Qlv:Orc:=Qek [QmX,Qm3,Ql6,QmE]
theorem QnG (B:Lo):Qjz YP B Qlv:=Qbe Qbg Qab (QaP _ _) Qsc (Qbe Qbg Qab (QaP _ _) QrM (Qbe Qbg Qab (QaP _ _) QrV (Qbe Qbg Qab (QaP _ _) QqA (QiK _ _))))
def QsG:Memo:=
 ⟨43,#[.agg #[.slice (some ⟨947,0,none⟩) 2 1,.slice (some ⟨948,0,none⟩) 2 2,inN 20,inN 30,.slice (some ⟨952,0,none⟩) 3 3,inN 100],.slice (some ⟨953,0,none⟩) 1 1,inN 60],[(953,.cells #[inN 2] 3 (0,0)),(947,.cells #[inN 130,inN 70] 3 (0,0)),(948,.cells #[inN 3,inN 4,inN 1,inN 2] 25 (0,0)),(951,.cells #[inN 130,inN 130,inN 30,inN 30] 25 (0,0)),(950,.cells #[inN 0,inN 0,inN 50,inN 60] 25 (0,0)),(949,.cells #[inN 90,inN 100,inN 0,inN 0] 25 (0,0)),(952,.cells #[.slice (some ⟨949,0,none⟩) 2 2,inN 50,inN 70,.slice (some ⟨950,0,none⟩) 2 2,inN 30,inN 40,.slice (some ⟨951,0,none⟩) 2 2,inN 90,inN 100] 118 (0,0))],954,.tuple #[.slice (some ⟨1125,0,none⟩) 2 2,inN 0],[(1125,.cells #[inN (-1),inN (-1),inN 50,inN (-1)] 81 (0,0))],1126⟩
theorem Qww:QbG QsG (QsG.run YP Qdb Qlv 100000)=true:=by decide+kernel
end Go.Proofs.YtiabgkiccaodmaaGreat

namespace Go.Proofs.YtiabgkiccaodmaaGreat
open Go Go.CE Go.RowKit
def Qnq:Memo:=
 ⟨125,#[.agg #[inN 130,inN 3,inN 90,.slice (some ⟨1229,0,none⟩) 60 1]],[(1229,.cells #[.bool false,.bool false,.bool false,.bool false,.bool false,.bool false,.bool false,.bool false,.bool false,.bool false,.bool false,.bool false,.bool false,.bool false,.bool false,.bool false,.bool false,.bool false,.bool false,.bool false,.bool false,.bool false,.bool false,.bool false,.bool false,.bool false,.bool false,.bool false,.bool false,.bool false,.bool true,.bool false,.bool false,.bool false,.bool false,.bool false,.bool false,.bool false,.bool false,.bool false,.bool false,.bool false,.bool false,.bool false,.bool false,.bool false,.bool false,.bool false,.bool false,.bool false,.bool false,.bool false,.bool false,.bool false,.bool false,.bool false,.bool false,.bool false,.bool false,.bool false] 4 (0,0))],1259,inN (-1),[],1262⟩
theorem Qqd:QbG Qnq (Qnq.drun YP Qdb Qb4 100000)=true:=by decide+kernel
def Qmr:Memo:=
 ⟨125,#[.agg #[inN 130,inN 3,inN 90,.slice (some ⟨1229,0,none⟩) 60 1]],[(1229,.cells #[.bool false,.bool false,.bool false,.bool false,.bool false,.bool false,.bool false,.bool false,.bool false,.bool false,.bool false,.bool false,.bool false,.bool false,.bool false,.bool false,.bool false,.bool false,.bool false,.bool false,.bool false,.bool false,.bool false,.bool false,.bool false,.bool false,.bool false,.bool false,.bool false,.bool false,.bool true,.bool false,.bool false,.bool false,.bool false,.bool false,.bool false,.bool false,.bool false,.bool false,.bool false,.bool false,.bool false,.bool false,.bool false,.bool false,.bool false,.bool false,.bool false,.bool false,.bool false,.bool false,.bool false,.bool false,.bool false,.bool false,.bool false,.bool false,.bool false,.bool false] 4 (0,0))],1263,inN (-1),[],1266⟩
theorem Qr0:QbG Qmr (Qmr.drun YP Qdb Qb4 100000)=true:=by decide+kernel
def QlU:Memo:=
 ⟨125,#[.agg #[inN 130,inN 3,inN 90,.slice (some ⟨1229,0,none⟩) 60 1]],[(1229,.cells #[.bool false,.bool false,.bool false,.bool false,.bool false,.bool false,.bool false,.bool false,.bool false,.bool false,.bool false,.bool false,.bool false,.bool false,.bool false,.bool false,.bool false,.bool false,.bool false,.bool false,.bool false,.bool false,.bool false,.bool false,.bool false,.bool false,.bool false,.bool false,.bool false,.bool false,.bool true,.bool false,.bool false,.bool false,.bool false,.bool false,.bool false,.bool false,.bool false,.bool false,.bool false,.bool false,.bool false,.bool false,.bool false,.bool false,.bool false,.bool false,.bool false,.bool false,.bool false,.bool false,.bool false,.bool false,.bool false,.bool false,.bool false,.bool false,.bool false,.bool false] 4 (0,0))],1267,inN (-1),[],1270⟩
theorem Qre:QbG QlU (QlU.drun YP Qdb Qb4 100000)=true:=by decide+kernel
def Qmv:Memo:=
 ⟨125,#[.agg #[inN 130,inN 3,inN 90,.slice (some ⟨1229,0,none⟩) 60 1]],[(1229,.cells #[.bool false,.bool false,.bool false,.bool false,.bool false,.bool false,.bool false,.bool false,.bool false,.bool false,.bool false,.bool false,.bool false,.bool false,.bool false,.bool false,.bool false,.bool false,.bool false,.bool false,.bool false,.bool false,.bool false,.bool false,.bool false,.bool false,.bool false,.bool false,.bool false,.bool false,.bool true,.bool false,.bool false,.bool false,.bool false,.bool false,.bool false,.bool false,.bool false,.bool false,.bool false,.bool false,.bool false,.bool false,.bool false,.bool false,.bool false,.bool false,.bool false,.bool false,.bool false,.bool false,.bool false,.bool false,.bool false,.bool false,.bool false,.bool false,.bool false,.bool false] 4 (0,0))],1271,inN (-1),[],1274⟩
theorem Qrc:QbG Qmv (Qmv.drun YP Qdb Qb4 100000)=true:=by decide+kernel
def Qlx:Memo:=
 ⟨125,#[.agg #[inN 130,inN 3,inN 90,.slice (some ⟨1229,0,none⟩) 60 1]],[(1229,.cells #[.bool false,.bool false,.bool false,.bool false,.bool false,.bool false,.bool false,.bool false,.bool false,.bool false,.bool false,.bool false,.bool false,.bool false,.bool false,.bool false,.bool false,.bool false,.bool false,.bool false,.bool false,.bool false,.bool false,.bool false,.bool false,.bool false,.bool false,.bool false,.bool false,.bool false,.bool true,.bool false,.bool false,.bool false,.bool false,.bool false,.bool false,.bool false,.bool false,.bool false,.bool false,.bool false,.bool false,.bool false,.bool false,.bool false,.bool false,.bool false,.bool false,.bool false,.bool false,.bool false,.bool false,.bool false,.bool false,.bool false,.bool false,.bool false,.bool false,.bool false] 4 (0,0))],1275,inN (-1),[],1278⟩
theorem QqW:QbG Qlx (Qlx.drun YP Qdb Qb4 100000)=true:=by decide+kernel
def QmK:Memo:=
 ⟨125,#[.agg #[inN 130,inN 3,inN 90,.slice (some ⟨1229,0,none⟩) 60 1]],[(1229,.cells #[.bool false,.bool false,.bool false,.bool false,.bool false,.bool false,.bool false,.bool false,.bool false,.bool false,.bool false,.bool false,.bool false,.bool false,.bool false,.bool false,.bool false,.bool false,.bool false,.bool false,.bool false,.bool false,.bool false,.bool false,.bool false,.bool false,.bool false,.bool false,.bool false,.bool false,.bool true,.bool false,.bool false,.bool false,.bool false,.bool false,.bool false,.bool false,.bool false,.bool false,.bool false,.bool false,.bool false,.bool false,.bool false,.bool false,.bool false,.bool false,.bool false,.bool false,.bool false,.bool false,.bool false,.bool false,.bool false,.bool false,.bool false,.bool false,.bool false,.bool false] 4 (0,0))],1279,inN (-1),[],1282⟩
theorem QrS:QbG QmK (QmK.drun YP Qdb Qb4 100000)=true:=by decide+kernel
def Qne:Memo:=
 ⟨125,#[.agg #[inN 130,inN 4,inN 0,.slice (some ⟨1388,0,none⟩) 55 1]],[(1388,.cells #[.bool false,.bool false,.bool false,.bool false,.bool false,.bool false,.bool false,.bool false,.bool false,.bool false,.bool false,.bool false,.bool false,.bool false,.bool false,.bool false,.bool false,.bool false,.bool false,.bool false,.bool false,.bool false,.bool false,.bool false,.bool false,.bool false,.bool false,.bool false,.bool false,.bool false,.bool true,.bool false,.bool false,.bool false,.bool false,.bool false,.bool false,.bool false,.bool false,.bool false,.bool false,.bool false,.bool false,.bool false,.bool false,.bool false,.bool false,.bool false,.bool false,.bool false,.bool false,.bool false,.bool false,.bool false,.bool false] 4 (0,0))],1401,inN 32,[],1404⟩
theorem QqC:QbG Qne (Qne.drun YP Qdb Qb4 100000)=true:=by decide+kernel
def Qmx:Memo:=
 ⟨125,#[.agg #[inN 130,inN 4,inN 90,.slice (some ⟨1453,0,none⟩) 55 1]],[(1453,.cells #[.bool false,.bool false,.bool false,.bool false,.bool false,.bool false,.bool false,.bool false,.bool false,.bool false,.bool false,.bool false,.bool false,.bool false,.bool false,.bool false,.bool false,.bool false,.bool false,.bool false,.bool false,.bool false,.bool false,.bool false,.bool false,.bool false,.bool false,.bool false,.bool false,.bool false,.bool true,.bool false,.bool false,.bool false,.bool false,.bool false,.bool false,.bool false,.bool false,.bool false,.bool false,.bool false,.bool false,.bool false,.bool false,.bool false,.bool false,.bool false,.bool false,.bool false,.bool false,.bool false,.bool false,.bool false,.bool false] 4 (0,0))],1468,inN (-1),[],1471⟩
theorem Qrv:QbG Qmx (Qmx.drun YP Qdb Qb4 100000)=true:=by decide+kernel
def Qmz:Memo:=
 ⟨125,#[.agg #[inN 70,inN 2,inN 0,.slice (some ⟨1453,0,none⟩) 55 1]],[(1453,.cells #[.bool false,.bool false,.bool false,.bool false,.bool false,.bool false,.bool false,.bool false,.bool false,.bool false,.bool false,.bool false,.bool false,.bool false,.bool false,.bool false,.bool false,.bool false,.bool false,.bool false,.bool false,.bool false,.bool false,.bool false,.bool false,.bool false,.bool false,.bool false,.bool false,.bool false,.bool true,.bool false,.bool false,.bool false,.bool false,.bool false,.bool false,.bool false,.bool false,.bool false,.bool false,.bool false,.bool false,.bool false,.bool false,.bool false,.bool false,.bool false,.bool false,.bool false,.bool false,.bool false,.bool false,.bool false,.bool false] 4 (0,0))],1473,inN 35,[],1476⟩
theorem QqU:QbG Qmz (Qmz.drun YP Qdb Qb4 100000)=true:=by decide+kernel
def Qls:Memo:=
 ⟨125,#[.agg #[inN 130,inN 4,inN 0,.slice (some ⟨1525,0,none⟩) 55 1]],[(1525,.cells #[.bool false,.bool false,.bool false,.bool false,.bool false,.bool false,.bool false,.bool false,.bool false,.bool false,.bool false,.bool false,.bool false,.bool false,.bool false,.bool false,.bool false,.bool false,.bool false,.bool false,.bool false,.bool false,.bool false,.bool false,.bool false,.bool false,.bool false,.bool false,.bool false,.bool false,.bool true,.bool false,.bool false,.bool false,.bool false,.bool false,.bool false,.bool false,.bool false,.bool false,.bool false,.bool false,.bool false,.bool false,.bool false,.bool false,.bool false,.bool false,.bool false,.bool false,.bool false,.bool false,.bool false,.bool false,.bool false] 4 (0,0))],1540,inN 32,[],1543⟩
theorem QpQ:QbG Qls (Qls.drun YP Qdb Qb4 100000)=true:=by decide+kernel
def Qms:Memo:=
 ⟨125,#[.agg #[inN 130,inN 4,inN 90,.slice (some ⟨1596,0,none⟩) 55 1]],[(1596,.cells #[.bool false,.bool false,.bool false,.bool false,.bool false,.bool false,.bool false,.bool false,.bool false,.bool false,.bool false,.bool false,.bool false,.bool false,.bool false,.bool false,.bool false,.bool false,.bool false,.bool false,.bool false,.bool false,.bool false,.bool false,.bool false,.bool false,.bool false,.bool false,.bool false,.bool false,.bool true,.bool false,.bool false,.bool false,.bool false,.bool false,.bool false,.bool false,.bool false,.bool false,.bool false,.bool false,.bool false,.bool false,.bool false,.bool false,.bool false,.bool false,.bool false,.bool false,.bool false,.bool false,.bool false,.bool false,.bool false] 4 (0,0))],1613,inN (-1),[],1616⟩
theorem Qrz:QbG Qms (Qms.drun YP Qdb Qb4 100000)=true:=by decide+kernel
def Qnd:Memo:=
 ⟨125,#[.agg #[inN 70,inN 2,inN 50,.slice (some ⟨1596,0,none⟩) 55 1]],[(1596,.cells #[.bool false,.bool false,.bool false,.bool false,.bool false,.bool false,.bool false,.bool false,.bool false,.bool false,.bool false,.bool false,.bool false,.bool false,.bool false,.bool false,.bool false,.bool false,.bool false,.bool false,.bool false,.bool false,.bool false,.bool false,.bool false,.bool false,.bool false,.bool false,.bool false,.bool false,.bool true,.bool false,.bool false,.bool false,.bool false,.bool false,.bool false,.bool false,.bool false,.bool false,.bool false,.bool false,.bool false,.bool false,.bool false,.bool false,.bool false,.bool false,.bool false,.bool false,.bool false,.bool false,.bool false,.bool false,.bool false] 4 (0,0))],1618,inN (-1),[],1621⟩
theorem Qry:QbG Qnd (Qnd.drun YP Qdb Qb4 100000)=true:=by decide+kernel
end Go.Proofs.YtiabgkiccaodmaaGreat

namespace Go.Proofs.YtiabgkiccaodmaaGreat
open Go Go.CE Go.RowKit
noncomputable def Qk6:Orc:=Qek [Qm8,QmP,Qlu,Qnq,Qmr,QlU,Qmv,Qlx,QmK]
theorem Qnf (B:Lo):Qjz YP B Qk6:=Qbe Qbg Qab (QaP _ _) Qrq (Qbe Qbg Qab (QaP _ _) Qsb (Qbe Qbg Qab (QaP _ _) Qrt (Qbe Qbg Qab (QaP _ _) Qqd (Qbe Qbg Qab (QaP _ _) Qr0 (Qbe Qbg Qab (QaP _ _) Qre (Qbe Qbg Qab (QaP _ _) Qrc (Qbe Qbg Qab (QaP _ _) QqW (Qbe Qbg Qab (QaP _ _) QrS (QiK _ _)))))))))
def Qpj:Memo:=
 ⟨48,#[.agg #[.slice (some ⟨1127,0,none⟩) 2 1,.slice (some ⟨1128,0,none⟩) 2 2,inN 20,inN 30,.slice (some ⟨1132,0,none⟩) 3 3,inN 100],.slice (some ⟨1133,0,none⟩) 2 1,inN 60,inN 0],[(1133,.cells #[inN 0,inN 1] 3 (0,0)),(1127,.cells #[inN 130,inN 70] 3 (0,0)),(1128,.cells #[inN 3,inN 4,inN 1,inN 2] 25 (0,0)),(1131,.cells #[inN 130,inN 130,inN 30,inN 30] 25 (0,0)),(1130,.cells #[inN 0,inN 0,inN 50,inN 60] 25 (0,0)),(1129,.cells #[inN 90,inN 100,inN 0,inN 0] 25 (0,0)),(1132,.cells #[.slice (some ⟨1129,0,none⟩) 2 2,inN 50,inN 70,.slice (some ⟨1130,0,none⟩) 2 2,inN 30,inN 40,.slice (some ⟨1131,0,none⟩) 2 2,inN 90,inN 100] 118 (0,0))],1134,.tuple #[inN 750,inN 0],[],1282⟩
theorem QsH:QbG Qpj (Qpj.run YP Qdb Qk6 100000)=true:=by decide+kernel
end Go.Proofs.YtiabgkiccaodmaaGreat

namespace Go.Proofs.YtiabgkiccaodmaaGreat
open Go Go.CE Go.RowKit
def QlG:Memo:=
 ⟨125,#[.agg #[inN 130,inN 4,inN 130,.slice (some ⟨1681,0,none⟩) 55 1]],[(1681,.cells #[.bool false,.bool false,.bool false,.bool false,.bool false,.bool false,.bool false,.bool false,.bool false,.bool false,.bool false,.bool false,.bool false,.bool false,.bool false,.bool false,.bool false,.bool false,.bool false,.bool false,.bool false,.bool false,.bool false,.bool false,.bool false,.bool false,.bool false,.bool false,.bool false,.bool false,.bool true,.bool false,.bool false,.bool false,.bool false,.bool false,.bool false,.bool false,.bool false,.bool false,.bool false,.bool false,.bool false,.bool false,.bool false,.bool false,.bool false,.bool false,.bool false,.bool false,.bool false,.bool false,.bool false,.bool false,.bool false] 4 (0,0))],1696,inN (-1),[],1699⟩
theorem QpM:QbG QlG (QlG.drun YP Qdb Qb4 100000)=true:=by decide+kernel
def QmY:Memo:=
 ⟨125,#[.agg #[inN 70,inN 2,inN 30,.slice (some ⟨1681,0,none⟩) 55 1]],[(1681,.cells #[.bool false,.bool false,.bool false,.bool false,.bool false,.bool false,.bool false,.bool false,.bool false,.bool false,.bool false,.bool false,.bool false,.bool false,.bool false,.bool false,.bool false,.bool false,.bool false,.bool false,.bool false,.bool false,.bool false,.bool false,.bool false,.bool false,.bool false,.bool false,.bool false,.bool false,.bool true,.bool false,.bool false,.bool false,.bool false,.bool false,.bool false,.bool false,.bool false,.bool false,.bool false,.bool false,.bool false,.bool false,.bool false,.bool false,.bool false,.bool false,.bool false,.bool false,.bool false,.bool false,.bool false,.bool false,.bool false] 4 (0,0))],1701,inN 50,[],1704⟩
theorem Qqk:QbG QmY (QmY.drun YP Qdb Qb4 100000)=true:=by decide+kernel
end Go.Proofs.YtiabgkiccaodmaaGreat

namespace Go.Proofs.YtiabgkiccaodmaaGreat
open Go Go.CE Go.RowKit
noncomputable def Qk4:Orc:=Qek [Qne,Qmx,Qmz,Qls,Qms,Qnd,QlG,QmY]
theorem Qnu (B:Lo):Qjz YP B Qk4:=Qbe Qbg Qab (QaP _ _) QqC (Qbe Qbg Qab (QaP _ _) Qrv (Qbe Qbg Qab (QaP _ _) QqU (Qbe Qbg Qab (QaP _ _) QpQ (Qbe Qbg Qab (QaP _ _) Qrz (Qbe Qbg Qab (QaP _ _) Qry (Qbe Qbg Qab (QaP _ _) QpM (Qbe Qbg Qab (QaP _ _) Qqk (QiK _ _))))))))
def QoO:Memo:=
 ⟨51,#[.agg #[.slice (some ⟨1283,0,none⟩) 2 1,.slice (some ⟨1284,0,none⟩) 2 2,inN 20,inN 30,.slice (some ⟨1288,0,none⟩) 3 3,inN 100],inN 55],[(1283,.cells #[inN 130,inN 70] 3 (0,0)),(1284,.cells #[inN 3,inN 4,inN 1,inN 2] 25 (0,0)),(1287,.cells #[inN 130,inN 130,inN 30,inN 30] 25 (0,0)),(1286,.cells #[inN 0,inN 0,inN 50,inN 60] 25 (0,0)),(1285,.cells #[inN 90,inN 100,inN 0,inN 0] 25 (0,0)),(1288,.cells #[.slice (some ⟨1285,0,none⟩) 2 2,inN 50,inN 70,.slice (some ⟨1286,0,none⟩) 2 2,inN 30,inN 40,.slice (some ⟨1287,0,none⟩) 2 2,inN 90,inN 100] 118 (0,0))],1289,.tuple #[.slice (some ⟨1762,0,none⟩) 2 1,inN 110,inN 0],[(1762,.cells #[inN 0,inN 1] 3 (0,0))],1763⟩
theorem Qt1:QbG QoO (QoO.run YP Qdb Qk4 100000)=true:=by decide+kernel
end Go.Proofs.YtiabgkiccaodmaaGreat

namespace Go.Proofs.YtiabgkiccaodmaaGreat
open Go Go.CE Go.RowKit
noncomputable def Q37:Orc:=Qek [Q4c,QsK,Qs1,QsP,QsG,Qpj,QoO]
theorem QyQ (B:Lo):Qjz YP B Q37:=Qfm Qbg Qab (QaP _ _) Q1R (Qfm Qbg Qab (QaP _ _) Qv2 (Qfm Qbg Qab (QaP _ _) Qwj (Qfm Qbg Qab (QnD _) QuU (Qfm Qbg Qab (QnG _) Qww (Qfm Qbg Qab (Qnf _) QsH (Qfm Qbg Qab (Qnu _) Qt1 (QiK _ _)))))))
theorem QyJ:Qq4 (QmR YP Qdb Q37 100000 17 #[] (Qft 0 []) ([]:List (Array Value×TypeId)).length) (.bool true) []=true:=by decide+kernel
theorem QwC (w:World):Calls YP 17 #[] w fun e w'=> e=.returned (.bool true)/\Below w.heap.size w w':=by
 have hc:=Qnm Qbg Qab (at':=[]) (args':=#[]) QyJ (w:=w) (I:=fun _=> True) (hI:=fun _ _ _ _=> trivial) (QyQ _) trivial rfl (fun i x a h=> by simp at h) ⟨rfl,fun i v v' h=> by simp at h⟩;intro cs;obtain ⟨e,w',fr,⟨v',n',H',μ',he,hp,hv,hb,hun,hbel⟩,h1,h2,h3⟩:=hc cs;exact ⟨e,w',fr,⟨by rw [he,QiO rfl hv],hbel⟩,h1,h2,h3⟩
theorem known:Qaq YP J0 17 #[] (.bool true):=fun fm w args' _ _ ha=> by
 have e:args'=#[]:=by exact Array.eq_empty_of_size_eq_zero ha.1.symm
 subst e;exact (QwC w).mono fun _ _ h=> ⟨_,h.1,h.2,.simple rfl⟩
end Go.Proofs.YtiabgkiccaodmaaGreat

namespace Go.Proofs.YtiabgkiccaodmaaGreat
open Go Go.CE Go.RowKit
set_option maxRecDepth 100000
end Go.Proofs.YtiabgkiccaodmaaGreat

namespace Go.Proofs.YtiabgkiccaodmaaGreat
open Go Go.CE Go.RowKit
def Quu:Sh:=shS [.int,.int]
theorem Qph {cs:List Value} (h:Quu.ok cs):∃s:Span,cs=Qa7 s:=by
 obtain ⟨_,_,rfl,⟨a,_,rfl⟩,_,_,rfl,⟨b,_,rfl⟩,rfl⟩:=h;exact ⟨⟨a,b⟩,rfl⟩
theorem Q45 {v:Value} (h:Sh.arg .int v):∃z:Int,v=.int .i64 z:=by
 obtain ⟨z,_,h⟩:=h;exact ⟨z,by simpa using h⟩
end Go.Proofs.YtiabgkiccaodmaaGreat

