/- TX 2: frames that defer a function that recovers. -/
import Derived.Test.YtiabgkiccaodmaaGreatZMO08
import Derived.Test.YtiabgkiccaodmaaGreatZMO06
import Derived.Test.YtiabgkiccaodmaaGreatProg
set_option linter.all false
namespace Go.CE
open Go Go.RowKit

def Q4q:OO->CM
 | .ret _=> .ret
 | .pan v=> .pan v
def Q8k:OO->Value
 | .ret _=> .nilIface
 | .pan v=> v
def Q8m:CM->Option OO
 | .run=> none
 | .ret=> some (.ret (.tuple #[]))
 | .pan v=> some (.pan v)
theorem Q5E {m:CM} {o:OO} (h:Q8m m=some o):m=Q4q o:=by
 cases m with
 | run=> cases h
 | ret=> cases h;rfl
 | pan v=> cases h;rfl
def Q6h (T:Tm):Tm:=ofList T.len ((List.range T.len).map (QbV T))
theorem Q34 {μ:Mu} {T:Tm} {A:Array Value} (hl:T.len<=16000) (h:TR μ T A):TR μ (Q6h T) A:=by
 refine ⟨h.1,fun t=> ?_⟩;simp only [Q6h,QbV,ofList];rw [QjM _ _ _ _ (by simp;omega)];split
 ·rename_i ht;have ht:t < T.len:=by simpa using ht
  have:=h.2 t;simp only [QbV] at this;rw [Nat.sub_zero,List.getD_eq_getElem?_getD,List.getElem?_map,List.getElem?_range ht];exact this
 ·rename_i ht;have ht:T.len<=t:=by simpa using ht
  rw [Tri.get_lf];have hA:A.getD t undef=undef:=by
   rw [Array.getD_eq_getD_getElem?,Array.getElem?_eq_none (by rw [<-h.1];exact ht)];rfl
  rw [hA];exact VR.undef
structure SpD where
 c:CF
 H:Qar
 n:Nat
 g:FuncId
 args:Array Value
 R:List Nat
 W:List Nat
noncomputable def Q4V (P:Program) (F:FuncId->Bool) (c1:CF) (H:Qar) (n:Nat):Option SpD:=
 match c1.mode,c1.todo,c1.defers,c1.roundOf with
 | .run,.code (.region _ ops false)::todo,[],none=> match Q1y P F Qb3 0 ops c1 H n with
   | some s=> match s.o.op,s.post with
     | .defer c,[]=> match c.callee with
       | .value x=> match evC s.T x with
         | some (.func (.func g) xs ys)=> bif c.args.isEmpty && F g && Nat.ble s.T.len 16000 then some ⟨⟨c1.fn,Q6h (Qgy s.T s.o.dst undef),todo,[],.run,none⟩,s.H,s.n,g,xs++ys,Qnr s.recs,QiL s.recs⟩ else none
         | _=> none
       | _=> none
     | _,_=> none
   | none=> none
 | _,_,_,_=> none
def UJ (P:Program) (B:Lo) (c:CF) (H:Qar) (n:Nat) (out:OO) (live:List (Nat×Value)) (H':Qar) (n':Nat) (R W:List Nat):Prop:=
 ∃(d:Nat->Value) (td:List Item),GoJ P B c H n ⟨c.fn,mkT c.tmps.len live d,td,[],Q4q out,c.roundOf⟩ H' n' R W
noncomputable def Q0Y (P:Program) (F:FuncId->Bool) (J:World->Prop) (B:Lo) (k b:Nat) (c:CF) (H:Qar) (n:Nat) (out:OO) (live:List (Nat×Value)) (ups:Qar) (n':Nat) (Wk:List Nat) (res:Value) (resR:List Nat):Option ST:=
 match Qah P F J B k b c H n [] 0 [] [] with
 | some ⟨.at c1 H1 n1,W1,L1⟩=> match Q4V P F c1 H1 n1 with
   | some s=> match QnX P F Qb3 0 b s.g s.args (Q8k out) (ups++s.H) n' [] (Qeb b Wk (Qeb b s.W W1)) with
     | some m3=> some ⟨.fin (.ret res) m3.H m3.n,m3.W,UJ P B s.c s.H s.n out live (ups++s.H) n' (List.range s.n) Wk::(∀d,Q0m P s.c.fn m3.H (mkT s.c.tmps.len live d)=some (res,resR))::L1⟩
     | none=> none
   | none=> none
 | _=> none
def Q74 (P:Program) (B:Lo) (b:Nat) (c:CF) (H:Qar) (n:Nat) (s:Option ST):Prop:=
 ∀out H' n' W' L',s=some ⟨.fin out H' n',W',L'⟩->Qas L'->∃R W2,FJ P B c H n out H' n' R W2/\∀i,i < b->(i∈W'<->i∈W2)
section
variable {P:Program} {F:FuncId->Bool} {J:World->Prop} {B:Lo} {c0 c:CF} {Hb H:Qar} {a n:Nat} {W Wf:List Nat}
theorem Qto (hF:∀g,F g=true->Qau P g=true) (hmix:P.follows .mixedOrders=true) {c1:CF} {H1:Qar} {n1:Nat} {s:SpD} (hu:Under H1 n1) (h:Q4V P F c1 H1 n1=some s):
 Shape H1 n1 s.H s.n s.R s.W/\Under s.H s.n/\F s.g=true/\s.c.fn=c1.fn/\s.c.roundOf=none/\s.c.defers=[]/\s.c.mode=.run/\
 ∀(S:Nat->Prop) (n N:Nat) (W:List Nat) (μ0 μ:Mu) (H0:Qar) (w0 w:World),Sofar B S n N W μ0 μ H0 H1 n1 w0 w->(∀i,S i->i < n)->s.n<=N->(∀i∈s.R,i < n->S i)->∀(fr1:Frame) (cs:List Frame),FrR Bot.no μ c1 fr1->
  ∃(xs' ys':Array Value) (fr2:Frame) (w':World) (μ':Mu),Sofar B S n N (W++s.W) μ0 μ' H0 s.H s.n w0 w'/\Ext μ μ'/\FrR ⟨[{target:=.fn (.func s.g) ys',args:=xs'}],.normal⟩ μ' s.c fr2/\fr2.fn=fr1.fn/\VRs μ' s.args (xs'++ys')/\Steps P (lone fr1 cs w) (lone fr2 cs w'):=by
 unfold Q4V at h;split at h
 ·rename_i id ops todo hmode1 htodo1 hds1 hro;split at h
  ·rename_i q hs;obtain ⟨pre,e1,e2,e3,e4,e5,e6,e7,e8⟩:=QhL (B:=B) hF hmix (QaM P B) hu hs;split at h
   ·rename_i c hop hpost;split at h
    ·rename_i x hcal;split at h
     ·rename_i g xs ys hx;cases hca:(c.args.isEmpty && F g && Nat.ble q.T.len 16000) with
      | false=> rw [hca] at h;cases h
      | true=>
        rw [hca] at h;simp only [cond_true,YO] at h;subst h;simp only [YB] at hca;have hlenT:=YL hca.2;have sh2:=QbU q.recs _ _ _ _ _ _ e4 e2;refine ⟨sh2,e6,hca.1.2,rfl,rfl,rfl,rfl,fun S n N W μ0 μ H0 w0 w s1 hS hN hR fr1 cs hfr1=> ?_⟩;simp only at hN hR ⊢;have hro1:fr1.roundOf=none:=by
         have:=hfr1.round;rw [hro] at this;generalize fr1.roundOf=z at this ⊢;cases z with
         | none=> rfl
         | some z=> cases this
        obtain ⟨ha,hb,hd⟩:=hfr1.running hmode1;rw [htodo1] at hd;obtain ⟨L',hL,hL'⟩:=hd.code;have hd1:fr1.defers=[]:=by
         have:=hfr1.defers;rw [hds1] at this;exact this.empty
        rw [hpost] at e1;have hlen:ops.size=pre.length+(0+1):=by
         have:=congrArg List.length e1;simp at this;omega
        have hat:ops[pre.length]? =some q.o:=by
         rw [<-Array.getElem?_toList,e1,List.getElem?_append_right (Nat.le_refl _)];simp
        have hplen:q.recs.length=pre.length:=by have:=congrArg List.length e5;simpa using this
        have hown1:∀(j:Nat) r,q.recs[j]? =some r->ops[0+j]? =some r.o:=by
         intro j r hj;rw [Nat.zero_add];exact Qeg (l:=ops.toList) (l2:=[q.o]) (by rw [e5];exact e1.symm) rfl j r hj
        obtain ⟨A1,w2,μ2,s2,hT2,x2,st2⟩:=s1.seq hS e4 e2 e3 0 hown1 rfl hN hR ha hb (pre.length::List.range' (pre.length+1) 0) L' cs;have hin:step P (lone fr1 cs w)=.next (lone (QaZ fr1 fr1.tmps ops (List.range' 0 ops.size) L') cs w):=QbH ha hL;rw [range_split hlen] at hin;rw [hplen] at st2;have hwant:Region.wanted q.o (yielded ops A1)=true:=by rw [Qef hT2];exact e8
        have hvx:=QtA (fr:=QaZ fr1 A1 ops (pre.length::List.range' (pre.length+1) 0) L') hT2 x _ hx;have hca':c.args=#[]:=by simpa [Array.isEmpty] using hca.1.1
        generalize hgx:(QaZ fr1 A1 ops (pre.length::List.range' (pre.length+1) 0) L').eval x=ux at hvx;cases hvx with
        | func q1 q2 q3 q4=>
          rename_i xs' ys';have hdv:(Deferred.ofValue ((QaZ fr1 A1 ops (pre.length::List.range' (pre.length+1) 0) L').eval x) (c.args.map (QaZ fr1 A1 ops (pre.length::List.range' (pre.length+1) 0) L').eval)).run P w2=.ok {target:=.fn (.func g) ys',args:=xs'} w2:=by
           rw [hgx,hca'];simp [Deferred.ofValue]
          have st3:=step_defer (cs:=cs) (w:=w2) ha hro1 hat hwant hop hcal hdv;rw [Qfk hat] at st3;have hdst:=QfS e7;have hT3:TR μ2 (Qgy q.T q.o.dst undef) (putA A1 undef q.o.dst):=hT2.putA hdst VR.undef;have st4:step P (lone {QaZ fr1 (putA A1 undef q.o.dst) ops (List.range' (pre.length+1) 0) L' with defers:={target:=.fn (.func g) ys',args:=xs'}::fr1.defers} cs w2)=
           .next (lone {fr1 with tmps:=putA A1 undef q.o.dst,todo:=L',defers:={target:=.fn (.func g) ys',args:=xs'}::fr1.defers} cs w2):=
           QcD (fr:={fr1 with defers:={target:=.fn (.func g) ys',args:=xs'}::fr1.defers}) (A:=putA A1 undef q.o.dst) (ops:=ops) (k:=L') ha
          have k1:VRs μ2 xs xs':=⟨q1,q3⟩
          have k2:VRs μ2 ys ys':=⟨q2,q4⟩
          refine ⟨xs',ys',{fr1 with tmps:=putA A1 undef q.o.dst,todo:=L',defers:={target:=.fn (.func g) ys',args:=xs'}::fr1.defers},w2,μ2,s2,x2,⟨hfr1.fn,Q34 (by rw [QdK];exact hlenT) hT3,fun _=> hL'.mono x2,.of_empty (by simp [hd1]), ?_,hfr1.kind,by rw [<-hro];exact hfr1.round.mono x2⟩,rfl,k1.append k2,.head hin (st2.trans (.head st3 (.one st4)))⟩;have:=hfr1.mode;rw [hmode1] at this;show MR μ2 .run fr1.mode;generalize fr1.mode=z at this ⊢;cases this;exact .run
     ·cases h
    ·cases h
   ·cases h
  ·cases h
 ·cases h
theorem Qt8 (hF:∀g,F g=true->Qau P g=true) (hJ:∀w,B.has w->J w) (hmix:P.follows .mixedOrders=true) {k b:Nat} {out:OO} {live:List (Nat×Value)} {ups:Qar} {n':Nat} {Wk:List Nat} {res:Value} {resR:List Nat} (hu:Under H n):
 Q74 P B b c H n (Q0Y P F J B k b c H n out live ups n' Wk res resR):=by
 intro o H' nz W' L' h ha;unfold Q0Y at h;split at h
 ·rename_i c1 H1 n1 W1 L1 hs1;split at h
  ·rename_i s hs2;split at h
   ·rename_i m3 hm3;simp only [YO,ST.mk.injEq,SR.fin.injEq] at h;obtain ⟨⟨rfl,rfl,rfl⟩,rfl,rfl⟩:=h;obtain ⟨⟨d,td,hU⟩,hres,hL1⟩:=ha;have hres:=hres d;obtain ⟨R1,W1',g1,a1⟩:=QbS hF hJ hmix k b c H n [] 0 [] [] _ hu hs1 hL1;have g1:GoJ P B c H n c1 H1 n1 R1 W1':=g1;simp only at a1;have hu1:Under H1 n1:=hu.shape g1.shape;obtain ⟨sh2,hu2,hFg,hfn2,hro2,hds2,hmode2,hsp⟩:=Qto (B:=B) hF hmix hu1 hs2;have hu3:Under (ups++s.H) n':=hu2.shape hU.shape;obtain ⟨Rr,Wr,sh3,ar,br,hsem⟩:=Qky (B:=B) hF hmix (QaM P B) hu3 hm3;have hu4:Under m3.H m3.n:=hu3.shape sh3;have shAll:=((g1.shape.trans sh2).trans hU.shape).trans sh3;have l1:=g1.shape.le;have l2:=sh2.le;have l3:=hU.shape.le;have l4:=sh3.le;refine ⟨(((R1++s.R)++List.range s.n)++Rr)++resR,((W1'++s.W)++Wk)++Wr,⟨⟨shAll.le,shAll.keep,shAll.top,fun i hi=> List.mem_append_left _ (shAll.sub i hi),shAll.wlt⟩,fun S μ w fr cs hok hB hS hf hfr0 hR=> ?_⟩,fun i hi=> ?_⟩
    ·simp only [List.mem_append] at hR;have sf0:Sofar B S n m3.n [] μ μ H H n w w:=⟨Post.refl hok,hB,hf⟩
     obtain ⟨fr1,w1,μ1,s1,hfr1,hr1,hfn1,st1,x1⟩:=sf0.goj hS g1 (by omega) (fun i hi=> hR i (.inl (.inl (.inl (.inl hi))))) hfr0 cs;obtain ⟨xs',ys',fr2,w2,μ2,s2,x2,hfr2,hfnq,hvargs,st2⟩:=hsp S n m3.n _ μ μ1 H w w1 s1 hS (by omega) (fun i hi=> hR i (.inl (.inl (.inl (.inr hi))))) fr1 cs hfr1;obtain ⟨fr3,w3,μ3,s3,hfr3,hr3,hfn3,st3,x3⟩:=s2.goj hS hU (by omega) (fun i hi=> hR i (.inl (.inl (.inr hi)))) hfr2 cs;have hd3:fr3.defers=[{target:=.fn (.func s.g) ys',args:=xs'}]:=by
      have:=hfr3.defers;exact this.empty
     have hun:Qs6 μ3 (Q8k out) {fr3 with defers:=[]}/\fr3.mode≠.run:=by
      have hm:=hfr3.mode;simp only at hm;generalize fr3.mode=q at hm ⊢;cases out with
      | ret v=>
        simp only [Q4q] at hm;cases hm;exact ⟨.inl ⟨rfl,rfl⟩,fun e=> by cases e⟩
      | pan v=>
        simp only [Q4q] at hm;cases hm with
        | pan hvr=> exact ⟨.inr ⟨_,hvr,rfl⟩,fun e=> by cases e⟩
     have st6:step P (lone fr3 cs w3)=.next (lone (Frame.enter P s.g (xs'++ys') .deferred) ({fr3 with defers:=[]}::cs) w3):=
      Qfx hun.2 hd3 rfl (QgQ (hF s.g hFg) _ w3)
     obtain ⟨w4,μ4,s4,x4,st7⟩:=hsem S n m3.n _ μ μ3 H w w3 s3 hS (Nat.le_refl _) (fun i hi=> hR i (.inl (.inr hi))) _ {fr3 with defers:=[]} cs (hvargs.mono x3) hun.1
     obtain ⟨fn,v',hfn,hresr,hvr⟩:=Qo4 hu4 s4.post.ok (hfr3.tmps.mono x4) hres (fun i hi hlt=> by
      rcases Nat.lt_or_ge i n with h1 | h1
      ·exact .inl (hR i (.inr hi) h1)
      ·exact .inr ⟨h1,hlt⟩)
     have hfnE:fr3.fn=fr.fn:=by rw [hfn3,hfnq,hfn1]
     have hro3:fr3.roundOf=none:=by
      have:=hfr3.round;simp only [hro2] at this;generalize fr3.roundOf=z at this ⊢;cases z with
      | none=> rfl
      | some z=> cases this
     have hleave:({fr3 with defers:=[],mode:=.returning}:Frame).leaving P w4 (.returned v'):=⟨rfl,rfl,hfr3.kind,fn,by rw [<-hfn,hfr3.fn],hresr⟩
     have hst:Steps P (lone fr cs w) (lone {fr3 with defers:=[],mode:=.returning} cs w4):=
      st1.trans (st2.trans (st3.trans (.head st6 st7)))
     refine ⟨.ret v',w4,μ4,s4.post.lists (fun i hi=> by simp [List.append_assoc]),.ret hvr,fun _=> ⟨_,hst,hfnE,hleave⟩,fun c1 cs' e=> ?_⟩;subst e;exact hst.trans (.one (step_leave_returned hleave))
    ·rw [br i hi,Qb0 hi,Qb0 hi,a1 i hi];simp only [List.mem_append,List.not_mem_nil,false_or]
   ·cases h
  ·cases h
 ·cases h
def landU (a:Nat) (s:Option ST) (slots:List Nat) (wks keeps:List (Nat×KS)) (fz:List Fz):Option (FuncId×Nat×Option Nat×OO×List Value×Qar×List Obj×List Prop):=match s with
 | some ⟨.at c H _,W,L⟩=> bif Qkc a H W wks keeps fz && c.todo.all Qdp then
  match Q8m c.mode,c.defers with
  | some o,[]=> match Qw9 (coV H a (Qtf a (keeps.map (·.1))) fz 4) o,coL (coV H a (Qtf a (keeps.map (·.1))) fz 4) (slots.map (QbV c.tmps)),Q4s H a (Qtf a (keeps.map (·.1))) fz wks,QiB H a (Qtf a (keeps.map (·.1))) fz keeps with
    | some (o1,L0),some (vs,L1),some (ws,L3),some (os,L2)=> some (c.fn,c.tmps.len,c.roundOf,o1,vs,ws,os,L0++(L1++(L3++(L2++L))))
    | _,_,_,_=> none
  | _,_=> none
   else none
 | _=> none
def FinU (P:Program) (B:Lo) (c0:CF) (Hb:Qar) (a:Nat) (out:OO) (live:List (Nat×Value)) (ws:Qar) (os:List Obj) (Wf:List Nat):Prop:=
 ∃(d:Nat->Value) (td:List Item),GoE P B c0 Hb a ⟨c0.fn,mkT c0.tmps.len live d,td,[],Q4q out,c0.roundOf⟩ (QbM Hb a ws os) (a+1+os.length) Wf
theorem GoE.landU (hF:∀g,F g=true->Qau P g=true) (hJ:∀w,B.has w->J w) (hmix:P.follows .mixedOrders=true) {wks:List (Nat×KS)} (hu:Under Hb a) (hw:Writable Hb a (wks.map (·.1))) (h:GoE P B c0 Hb a c H n (wks.map (·.1))) {fuel:Nat} {sc:Qan} {slots:List Nat} {keeps:List (Nat×KS)} {fz:List Fz} {out:OO} {vs:List Value} {ws:Qar} {os:List Obj} {L:List Prop}
 (e:CE.landU a (Qah P F J B fuel a c H n sc 0 [] []) slots wks keeps fz=some (c0.fn,c0.tmps.len,c0.roundOf,out,vs,ws,os,L)) (hL:Qas L) (hlen:Nat.ble c0.tmps.len 16000=true) (hro:c0.roundOf=none):
 FinU P B c0 Hb a out (slots.zip vs) ws os (wks.map (·.1)):=by
 unfold CE.landU at e;split at e
 ·rename_i c' H' n' W' L' hs;cases hqq:(Qkc a H' W' wks keeps fz && c'.todo.all Qdp) with
  | false=> rw [hqq] at e;cases e
  | true=>
    rw [hqq] at e;simp only [cond_true] at e;rw [YB] at hqq;obtain ⟨hq,hplain⟩:=hqq;split at e
    ·rename_i o0 hoo hdf;split at e
     ·rename_i o1 L0 vs0 L1 ws0 L3 os0 L2 ho1 hvs hws hos;simp only [YO,YR] at e;obtain ⟨e1,e2,e6,rfl,rfl,rfl,rfl,rfl⟩:=e;obtain ⟨hL0,hLr⟩:=QaI hL;obtain ⟨hL1,hLr⟩:=QaI hLr;obtain ⟨hL3,hLr⟩:=QaI hLr;obtain ⟨hL2,hL4⟩:=QaI hLr;obtain ⟨R,W2,hgo,hiff⟩:=QbS hF hJ hmix fuel a c H n sc 0 [] [] _ h.under hs hL4;have hg:=(h.step hgo).widen (Wf:=wks.map (·.1)) (fun i hi hm=> by
       rcases List.mem_append.1 hm with hm | hm
       ·exact hm
       ·have hi':i∈W':=(hiff i hi).2 (.inr hm);unfold Qkc at hq;simp only [YB] at hq;simpa using List.all_eq_true.1 hq.1.1.1.1 i hi') hw
      have hd:∀t,∃d,Qbg d/\∀μ v',VR μ (QbV c'.tmps t) v'->VR μ d v':=fun t=> Qe3 _
      have wslt:∀i o,Qaw ws0 i=some o->i < a:=fun i o ho=> by
       have hq':=hq;unfold Qkc at hq';simp only [YB] at hq';have hin:i∈wks.map (·.1):=Decidable.of_not_not fun e=> by
        have:=(QkP wks ws0 L3 hws i).1.2 e;rw [this] at ho;cases ho
       obtain ⟨k,hk,rfl⟩:=List.mem_map.1 hin;exact YL (List.all_eq_true.1 hq'.1.1.1.2 k hk)
      have hmo:=Q5E hoo;refine ⟨fun t=> Classical.choose (hd t),c'.todo,QhR hu wslt,by omega,fun Z μ w fr cs hok hB hf hfr=> ?_⟩;obtain ⟨fr',w',μ',hp,hfr',ha,hb,hst⟩:=hg.sem Z μ w fr cs hok hB hf hfr;obtain ⟨μ1,im1,hco,hpost,hfree,_⟩:=QjX hu hw hg.under hq hok hf hp hws hos hL3 hL2;refine ⟨fr',w',μ1,hpost,⟨by rw [hfr'.fn,e1], ?_,fun hpn=> ?_, ?_, ?_,hfr'.kind, ?_⟩,ha,hb,hst⟩
      ·refine hfr'.tmps.merge e2 (YL hlen) (fun p hp v' hv=> ?_) fun t=> Classical.choose_spec (hd t)
       obtain ⟨i,hi⟩:=List.getElem?_of_mem hp;rw [List.getElem?_zip_eq_some] at hi;obtain ⟨hi1,hi2⟩:=hi;obtain ⟨u,L',ha,hb,hc⟩:=(QoB _ _ _ hvs).2 i p.2 hi2;rw [List.getElem?_map,hi1] at ha;simp only [Option.map_some,YO] at ha;subst ha;exact Qdl hco 4 _ _ _ _ hb (hc hL1) hv
      ·refine (hfr'.todo ?_).plain hplain;rw [hmo];unfold Qw9 at ho1;split at ho1
       ·rfl
       ·split at ho1
        ·simp only [YO,YR] at ho1;obtain ⟨rfl,_⟩:=ho1;cases hpn
        ·cases ho1
      ·have:=hfr'.defers;rw [hdf] at this;exact .of_empty this.empty
      ·have hm:=hfr'.mode;rw [hmo] at hm;show MR μ1 (Q4q _) fr'.mode;generalize fr'.mode=z at hm ⊢;unfold Qw9 at ho1;split at ho1
       ·split at ho1
        ·simp only [YO,YR] at ho1;obtain ⟨rfl,_⟩:=ho1;simp only [Q4q] at hm ⊢;cases hm;exact .ret
        ·cases ho1
       ·split at ho1
        ·rename_i hv2;simp only [YO,YR] at ho1;obtain ⟨rfl,rfl⟩:=ho1;simp only [Q4q] at hm ⊢;cases hm with
         | pan hvr=> exact .pan (Qdl hco 4 _ _ _ _ hv2 hL0 hvr)
        ·cases ho1
      ·have:=hfr'.round;rw [e6,hro] at this;show RoR μ1 c0.roundOf fr'.roundOf;rw [hro];generalize fr'.roundOf=x at this ⊢;cases x with
       | none=> trivial
       | some x=> cases this
     ·cases e
    ·cases e
 ·cases e
theorem FrR.lowZ {Z:Bot} {μ μ0:Mu} {fr:Frame} (hμ:∀b,b < a->μ0 b=μ b) (hs:∀t,QnC a 4 (QbV c.tmps t)=true\/Qbg (QbV c.tmps t)) (hp:c.todo.all Qdp=true) (hd:c.defers=[]) (hm:c.mode=.run) (hr:c.roundOf=none) (h:FrR Z μ c fr):FrR Z μ0 c fr:=by
 have hpans:c.mode.pans=false:=by rw [hm];rfl
 refine ⟨h.fn,Qqd hμ hs h.tmps,fun _=> (h.todo hpans).plain hp, ?_, ?_,h.kind, ?_⟩
 ·have:=h.defers;rw [hd] at this ⊢;exact .of_empty this.empty
 ·have:=h.mode;rw [hm] at this ⊢;generalize fr.mode=ds at this ⊢;cases this;exact .run
 ·have:=h.round;rw [hr] at this ⊢;generalize fr.roundOf=x at this ⊢;cases x with
  | none=> trivial
  | some x=> cases this
theorem FinU.uj {out:OO} {live:List (Nat×Value)} {ws:Qar} {os:List Obj} (h:FinU P B c0 Hb a out live ws os Wf) (hub:Under Hb a) (hws:∀i o,Qaw ws i=some o->i < a/\i∈Wf) (hWf:∀i∈Wf,i < a) (hs:∀t,QnC a 4 (QbV c0.tmps t)=true\/Qbg (QbV c0.tmps t)) (hp:c0.todo.all Qdp=true) (hd:c0.defers=[]) (hm:c0.mode=.run) (hr:c0.roundOf=none) (hob:∀i o,Qaw Hb i=some o->Q4p a o):
 UJ P B c0 Hb a out live ((ws++((a,Qbc)::QaA (a+1) os))++Hb) (a+1+os.length) (List.range a) Wf:=by
 have hG:(ws++((a,Qbc)::QaA (a+1) os))++Hb=QbM Hb a ws os:=by unfold QbM;simp
 rw [hG];obtain ⟨d,td,h⟩:=h;refine ⟨d,td,⟨by omega,fun i hi hw=> ?_,fun i hi=> ?_,fun i hi=> List.mem_range.2 (hWf i hi),fun i hi=> by have:=hWf i hi;omega⟩,fun S μ w fr cs Z hok hB hS hf hfr hR=> ?_⟩
 ·rw [QdJ];cases hg:Qaw ws i with
  | some o=> exact absurd (hws i o hg).2 hw
  | none=> simp only;rw [if_neg (by omega),if_neg (by omega)]
 ·rw [QdJ];cases hg:Qaw ws i with
  | some o=> have:=(hws i o hg).1;omega
  | none=> simp only;rw [if_neg (by omega),if_neg (by omega)]
 ·have hSeq:S=fun i=> i < a:=funext fun i=> propext ⟨hS i,fun hi=> hR i (List.mem_range.2 hi) hi⟩
  subst hSeq;let μc:Mu:=fun i=> if i < a then μ i else none
  have hμc:∀b,b < a->μc b=μ b:=fun b hb=> by show (if b < a then μ b else none)=μ b;rw [if_pos hb]
  have hokc:Ok B.B (fun i=> i < a) μc (Qaw Hb) w:=by
   refine ⟨fun i o hi hg hl=> ?_,fun i o im hi hg hl him=> ?_,fun i j oi oj x y hi hj hne hg1 hg2 l1 l2 m1 m2 r1 r2=> ?_,fun i o hi hg hr=> ?_,fun i j oi oj x y z hi hj hg1 hg2 r1 l2 m1 m2 hrw=> ?_⟩
   ·obtain ⟨im,him,hor⟩:=hok.rel i o hi hg hl;exact ⟨im,(hμc i hi).trans him,OR.low hμc (hob i o hg) hor⟩
   ·exact hok.low i o im hi hg hl ((hμc i hi).symm.trans him)
   ·exact hok.inj i j oi oj x y hi hj hne hg1 hg2 l1 l2 ((hμc i hi).symm.trans m1) ((hμc j hj).symm.trans m2) r1 r2
   ·obtain ⟨im,him,hx⟩:=hok.reg i o hi hg hr;exact ⟨im,(hμc i hi).trans him,hx⟩
   ·exact hok.sep i j oi oj x y z hi hj hg1 hg2 r1 l2 ((hμc i hi).symm.trans m1) ((hμc j hj).symm.trans m2) hrw
  have hfc:∀i,a<=i->μc i=none:=fun i hi=> by show (if i < a then μ i else none)=none;rw [if_neg (by omega)]
  obtain ⟨fr',w',μ',hpost,hfr',hro',hfn',hst⟩:=h.sem Z μc w fr cs hokc hB hfc (hfr.lowZ hμc hs hp hd hm hr);have hfree:∀i,a+1+os.length<=i->μ' i=none:=fun i hi=> by rw [hpost.ext i (by omega)];exact hfc i (by omega)
  let μ2:Mu:=fun i=> if i < a+1+os.length then μ' i else μ i
  have hμ2:∀i,i < a+1+os.length->μ2 i=μ' i:=fun i hi=> by show (if i < a+1+os.length then μ' i else μ i)=μ' i;rw [if_pos hi]
  have ext2:Ext μ' μ2:=fun k im hk=> by
   rcases Nat.lt_or_ge k (a+1+os.length) with h1 | h1
   ·rw [hμ2 k h1];exact hk
   ·rw [hfree k h1] at hk;cases hk
  have Slt:∀i,(i < a\/a<=i/\i < a+1+os.length)->i < a+1+os.length:=fun i h=> by omega
  refine ⟨fr',w',μ2,⟨?_,by omega,fun i hi=> ?_,fun i hi hw=> ?_,hpost.grow,fun b hb hx=> hpost.frame b hb fun i hiW hi im him=> hx i hiW hi im ((hμc i hi).symm.trans him),fun i hiW hi=> ?_,fun i im o h1 h2 ho hl him=> ?_,fun i im o hc ho hr him b x hx=> ?_,hpost.os,hpost.tape,hpost.output⟩,hfr'.mono ext2,hro',hfn',hst⟩
  ·have ok:=hpost.ok;refine ⟨fun i o hi hg hl=> ?_,fun i o im hi hg hl him=> ?_,fun i j oi oj x y hi hj hne hg1 hg2 l1 l2 m1 m2 r1 r2=> ?_,fun i o hi hg hr=> ?_,fun i j oi oj x y z hi hj hg1 hg2 r1 l2 m1 m2 hrw=> ?_⟩
   ·obtain ⟨im,him,hor⟩:=ok.rel i o hi hg hl;exact ⟨im,(hμ2 i (Slt i hi)).trans him,hor.keep ext2 rfl⟩
   ·exact ok.low i o im hi hg hl ((hμ2 i (Slt i hi)).symm.trans him)
   ·exact ok.inj i j oi oj x y hi hj hne hg1 hg2 l1 l2 ((hμ2 i (Slt i hi)).symm.trans m1) ((hμ2 j (Slt j hj)).symm.trans m2) r1 r2
   ·obtain ⟨im,him,hx⟩:=ok.reg i o hi hg hr;exact ⟨im,(hμ2 i (Slt i hi)).trans him,hx⟩
   ·exact ok.sep i j oi oj x y z hi hj hg1 hg2 r1 l2 ((hμ2 i (Slt i hi)).symm.trans m1) ((hμ2 j (Slt j hj)).symm.trans m2) hrw
  ·rcases Nat.lt_or_ge i a with h1 | h1
   ·rw [hμ2 i (by omega),hpost.ext i (by omega),hμc i h1]
   ·show (if i < a+1+os.length then μ' i else μ i)=μ i;rw [if_neg (by omega)]
  ·exact hpost.keep i hi hw
  ·obtain ⟨p,q,im,s,t⟩:=hpost.wr i hiW hi;exact ⟨p,q,im,(hμc i hi).symm.trans s,t⟩
  ·obtain ⟨p,q⟩:=hpost.fresh i im o h1 h2 ho hl ((hμ2 i h2).symm.trans him);exact ⟨p,q.imp id fun ⟨k,x,y,⟨im',m,m2⟩,z⟩=> ⟨k,x,y,⟨im',(hμc k y).symm.trans m,m2⟩,z⟩⟩
  ·have hlt:i < a+1+os.length:=by omega
   rcases hpost.rf i im o hc ho hr ((hμ2 i hlt).symm.trans him) b x hx with e | ⟨k,kim,ko,p,q,r,s,t,u⟩ | ⟨k,p,q,⟨im',m,m2⟩,z⟩
   ·exact .inl e
   ·exact .inr (.inl ⟨k,kim,ko,p,q,r,s,(hμc k q).symm.trans t,u⟩)
   ·exact .inr (.inr ⟨k,p,q,⟨im',(hμc k q).symm.trans m,m2⟩,z⟩)
theorem FinU.ujB {fn:FuncId} {len:Nat} {l:List Value} {todo:List Item} {out:OO} {live:List (Nat×Value)} {ws:Qar} {os:List Obj} {ex:List Nat} (h:FinU P B ⟨fn,ofList len l,todo,[],.run,none⟩ Hb a out live ws os Wf) (e:Q79 a l todo none Hb ws Wf ex=true) (hx:Q67 a Hb ex):
 UJ P B ⟨fn,ofList len l,todo,[],.run,none⟩ Hb a out live ((ws++((a,Qbc)::QaA (a+1) os))++Hb) (a+1+os.length) (List.range a) Wf:=by
 simp only [Q79,YB] at e;obtain ⟨e1,e2,e3,e4,e5,e6,e7,e8⟩:=e;have e8:=YL e8;refine h.uj (Qaj e4) (fun i o ho=> ?_) (fun i hi=> YL (List.all_eq_true.1 e7 i hi)) (fun t=> ?_) e2 rfl rfl rfl (fun i o ho=> ?_)
 ·have:=List.all_eq_true.1 e6 _ (Qkb ho);simp only [YB] at this;exact ⟨YL this.1,by simpa using this.2⟩
 ·simp only [QbV,ofList];rw [QjM _ _ _ _ (by omega)];split
  ·rename_i ht;have ht:t < l.length:=by omega
   refine .inl (List.all_eq_true.1 e1 _ ?_);rw [Nat.sub_zero,List.getD_eq_getElem?_getD,List.getElem?_eq_getElem ht];exact List.getElem_mem ht
  ·rw [Tri.get_lf];exact .inr (Qgp (by simp [Go.undef,af]))
 ·have:=List.all_eq_true.1 e5 _ (Qkb ho);simp only [Bool.or_eq_true] at this;rcases this with h1 | h1
  ·exact QoV hx h1 ho
  ·exact QtT h1
theorem GoE.endsTx {c0 c:CF} {H:Qar} {n:Nat} {s:Option ST} (hok0:Q74 P B 1 c H n s) (h:GoE P B c0 H00 1 c H n []) {fz:List Fz} {out:Value} {L:List Prop}
 (e:QaF s fz=some (out,L)) (hL:Qas L):EndsT P B c0 out:=by
 unfold QaF at e;split at e
 ·rename_i v H' n' W' L';cases hW:W'.isEmpty with
  | false=> rw [hW] at e;cases e
  | true=>
    rw [hW] at e;simp only [cond_true] at e;split at e
    ·rename_i t R2 L2 hst;simp only [YO,YR] at e;obtain ⟨rfl,rfl⟩:=e;obtain ⟨hL2,hL1⟩:=QaI hL;have hWe:W'=[]:=by simpa using hW
     subst hWe;obtain ⟨R,W2,hfj,hiff⟩:=hok0 _ _ _ _ _ rfl hL1;intro μ w fr cs im hok hB hf him hfr;obtain ⟨out',w',μ',hp,ho,he⟩:=h.fj hfj μ w fr cs hok hB hf hfr;have hnoW:∀i,i∈[]++W2->¬i < 1:=fun i hi hlt=> by
      have:=(hiff i hlt).2 (by simpa using hi);simp at this
     have hbel:Below w.heap.size w w':=⟨hp.os,hp.tape,hp.output,hp.grow,fun b hb=> hp.frame b hb fun i hi hl=> absurd hl (hnoW i hi)⟩
     cases ho with
     | ret hvr=>
       rename_i v';refine ⟨v',w',hbel, ?_,he⟩;have hu':Under H' n':=h.under.shape hfj.shape;have hle:=hp.le
       -- of what is looked at, all is there
       have hall:∀r,(Qaw H' r).isSome->r < 1\/1<=r/\r < n':=fun r hr=> by
        have:r < n':=by
         cases hg:Qaw H' r with
         | none=> rw [hg] at hr;cases hr
         | some o=> exact hu'.lt hg
        omega
       have hok2:Ok B.B (fun _=> True) μ' (Qaw H') w':=
        ⟨fun i o _ ho=> hp.ok.rel i o (hall i (by rw [ho];rfl)) ho,fun i o im _ ho=> hp.ok.low i o im (hall i (by rw [ho];rfl)) ho,
         fun i j oi oj a b _ _ hij hoi hoj=> hp.ok.inj i j oi oj a b (hall i (by rw [hoi];rfl)) (hall j (by rw [hoj];rfl)) hij hoi hoj,
         fun i o _ ho=> hp.ok.reg i o (hall i (by rw [ho];rfl)) ho,fun i j oi oj a b x _ _ hoi hoj=> hp.ok.sep i j oi oj a b x (hall i (by rw [hoi];rfl)) (hall j (by rw [hoj];rfl)) hoi hoj⟩
       refine (QeC hok2 3 v v' t R2 L2 hst hL2 (fun _ _=> trivial) hvr).mono fun b x hx=> ?_
       have hw:=Qdm hx;unfold fmU at hx;split at hx
       ·rename_i hc;obtain ⟨i,_,o,im2,hio,him2,hcase⟩:=hc;have hi:=hall i (by rw [hio];rfl);have old0:∀i,i < 1->i=0:=fun i h=> by omega
        have keep0:Qaw H' 0=some Qbc:=by
         rw [hp.keep 0 (by omega) fun e=> hnoW 0 e (by omega)];rfl
        have mu0:μ' 0=some im:=by rw [hp.ext 0 (by omega)];exact him
        have below:b < w.heap.size->im.fm b=some x->Qny im.fm w w' b=some x:=fun h1 h2=> by unfold Qny;rw [if_pos h1];exact h2
        have above:w.heap.size<=b->Qny im.fm w w' b=some x:=fun h1=> by unfold Qny;rw [if_neg (by omega)];exact hw
        have from0:im.fm b=some x->Qny im.fm w w' b=some x:=fun h=> by
         refine below ?_ h;exact QgR hok (i:=0) (o:=Qbc) (show 0 < 1 by omega) rfl trivial him h
        rcases hcase with ⟨hreg,hne⟩ | ⟨hl,hb⟩
        ·cases hfx:im2.fm b with
         | none=> exact absurd hfx hne
         | some y=>
           obtain ⟨im3,him3,hf3⟩:=hp.ok.reg i o hi hio hreg;rw [him2] at him3;cases him3;have:=hf3 b y hfx;rw [hw] at this;cases this;rcases hi with hi | hi
           ·rw [old0 i hi,mu0] at him2;cases him2;exact from0 hfx
           ·rcases hp.rf i im2 o (.inl hi) hio hreg him2 b x hfx with c | ⟨k,kim,ko,hk,_,hko,_,hkm,hkb⟩ | ⟨k,hk,hkn,_⟩
            ·exact above c
            ·rw [old0 k hk,him] at hkm;cases hkm;exact from0 hkb
            ·exact absurd hkn (hnoW k hk)
        ·rcases hi with hi | hi
         ·rw [old0 i hi,keep0] at hio;cases hio;exact hl.elim
         ·rcases (hp.fresh i im2 o hi.1 hi.2 hio hl him2).2 with c | ⟨k,hk,hkn,_⟩
          ·exact above (by omega)
          ·exact absurd hkn (hnoW k hk)
       ·cases hx
    ·cases e
 ·cases e
theorem GoE.endsD {c0 c:CF} {H:Qar} {n:Nat} (hF:∀g,F g=true->Qau P g=true) (hJ:∀w,B.has w->J w) (hmix:P.follows .mixedOrders=true) (h:GoE P B c0 H00 1 c H n []) {k:Nat} {o:OO} {live:List (Nat×Value)} {ups:Qar} {n':Nat} {Wk:List Nat} {res:Value} {resR:List Nat} {fz:List Fz} {out:Value} {L:List Prop}
 (e:QaF (Q0Y P F J B k 1 c H n o live ups n' Wk res resR) fz=some (out,L)) (hL:Qas L):EndsT P B c0 out:=GoE.endsTx (Qt8 hF hJ hmix h.under) h e hL
end
def Qul (n:Int):Nat:=2 ^ n.toNat
def QsT (a n:Int):Nat:=a.toNat >>> n.toNat
def Q2L (a b:Int):Nat:=a.toNat &&& b.toNat
def orN (a b:Int):Nat:=a.toNat ||| b.toNat
theorem Q53 {n:Int} (h1:n<=62):Qul n<=4611686018427387904:=by unfold Qul;exact Nat.le_trans (Nat.pow_le_pow_right (by decide) (show n.toNat<=62 by omega)) (by decide)
theorem Q5I {a n:Int}:QsT a n<=a.toNat:=by unfold QsT;rw [Nat.shiftRight_eq_div_pow];exact Nat.div_le_self _ _
theorem Q2b {n:Int} (h1:n<=62):(2:Nat) ^ n.toNat<=2 ^ 62:=Nat.pow_le_pow_right (by decide) (by omega)
theorem Q2H {P:Program} {t:TypeId} {yk:IntKind} {n:Int} (h0:0<=n) (h1:n<=62):Qi6 P .shl t (.int .i64 1) (.int yk n) (.int .i64 ((Qul n:Nat):Int)):=fun x y w=> by
 unfold Qul;have e:min n.toNat (IntKind.bits IntKind.i64)=n.toNat:=Nat.min_eq_left (by show n.toNat<=64;omega);have hp:=Q2b h1;have e2:(2:Int) ^ n.toNat=((2 ^ n.toNat:Nat):Int):=by rw [Int.natCast_pow];rfl
 have e3:IntKind.wrap IntKind.i64 (1 * 2 ^ min n.toNat (IntKind.bits IntKind.i64))=((2 ^ n.toNat:Nat):Int):=by
  rw [e,Int.one_mul,e2];generalize 2 ^ n.toNat=z at *;exact Qjs (by omega) (by omega)
 have hn:¬n < 0:=by omega
 simp only [eqGuard,binOp,Op.shift,hn,if_false,e3];simp
theorem Q4R {P:Program} {t:TypeId} {yk:IntKind} {a n:Int} (ha:0<=a) (h0:0<=n) (h1:n<=62):Qi6 P .shr t (.int .i64 a) (.int yk n) (.int .i64 ((QsT a n:Nat):Int)):=fun x y w=> by
 unfold QsT;obtain ⟨b,rfl⟩:∃b:Nat,a=b:=⟨a.toNat,by omega⟩
 have e:min n.toNat (IntKind.bits IntKind.i64)=n.toNat:=Nat.min_eq_left (by show n.toNat<=64;omega);have e3:Int.fdiv (b:Int) (2 ^ min n.toNat (IntKind.bits IntKind.i64))=((((b:Int)).toNat >>> n.toNat:Nat):Int):=by
  rw [e,Int.fdiv_eq_ediv_of_nonneg _ (Int.le_of_lt (Int.pow_pos (by decide))),Int.toNat_natCast,Nat.shiftRight_eq_div_pow,Int.natCast_ediv,Int.natCast_pow];rfl
 have hn:¬n < 0:=by omega
 simp only [eqGuard,binOp,Op.shift,hn,if_false,e3];simp
theorem QiM {a:Int} (ha:0<=a):BitVec.ofInt (IntKind.bits IntKind.i64) a=BitVec.ofNat 64 a.toNat:=by
 obtain ⟨b,rfl⟩:∃b:Nat,a=b:=⟨a.toNat,by omega⟩
 rw [Int.toNat_natCast];exact BitVec.ofInt_natCast 64 b
theorem Q6c {P:Program} {t:TypeId} {a b:Int} (ha:0<=a) (ha2:a<=9223372036854775807) (hb:0<=b) (hb2:b<=9223372036854775807):Qi6 P .and t (.int .i64 a) (.int .i64 b) (.int .i64 ((Q2L a b:Nat):Int)):=fun x y w=> by
 unfold Q2L;have e:IntKind.wrap IntKind.i64 ((BitVec.toNat (BitVec.ofInt (IntKind.bits IntKind.i64) a &&& BitVec.ofInt (IntKind.bits IntKind.i64) b):Nat):Int)=((a.toNat &&& b.toNat:Nat):Int):=by
  rw [QiM ha,QiM hb];have e3:BitVec.toNat (BitVec.ofNat 64 a.toNat &&& BitVec.ofNat 64 b.toNat)=a.toNat &&& b.toNat:=by
   rw [BitVec.toNat_and,BitVec.toNat_ofNat,BitVec.toNat_ofNat,Nat.mod_eq_of_lt (a:=a.toNat) (by omega),Nat.mod_eq_of_lt (a:=b.toNat) (by omega)]
  show IntKind.wrap IntKind.i64 ((BitVec.toNat (BitVec.ofNat 64 a.toNat &&& BitVec.ofNat 64 b.toNat):Nat):Int)=_;rw [e3];have:=Nat.and_le_left (n:=a.toNat) (m:=b.toNat);exact Qjs (by omega) (by omega)
 simp only [eqGuard,binOp,Op.intBits,ne_eq,not_true_eq_false,if_false,e];simp
theorem Q6z {P:Program} {t:TypeId} {a b:Int} (ha:0<=a) (ha2:a<=9223372036854775807) (hb:0<=b) (hb2:b<=9223372036854775807):Qi6 P .or t (.int .i64 a) (.int .i64 b) (.int .i64 ((orN a b:Nat):Int)):=fun x y w=> by
 unfold orN;have e:IntKind.wrap IntKind.i64 ((BitVec.toNat (BitVec.ofInt (IntKind.bits IntKind.i64) a ||| BitVec.ofInt (IntKind.bits IntKind.i64) b):Nat):Int)=((a.toNat ||| b.toNat:Nat):Int):=by
  rw [QiM ha,QiM hb];have e3:BitVec.toNat (BitVec.ofNat 64 a.toNat ||| BitVec.ofNat 64 b.toNat)=a.toNat ||| b.toNat:=by
   rw [BitVec.toNat_or,BitVec.toNat_ofNat,BitVec.toNat_ofNat,Nat.mod_eq_of_lt (a:=a.toNat) (by omega),Nat.mod_eq_of_lt (a:=b.toNat) (by omega)]
  show IntKind.wrap IntKind.i64 ((BitVec.toNat (BitVec.ofNat 64 a.toNat ||| BitVec.ofNat 64 b.toNat):Nat):Int)=_;rw [e3];have:=Nat.or_lt_two_pow (n:=63) (x:=a.toNat) (y:=b.toNat) (by omega) (by omega);exact Qjs (by omega) (by omega)
 simp only [eqGuard,binOp,Op.intBits,ne_eq,not_true_eq_false,if_false,e];simp
theorem QpU {P:Program} {F:FuncId->Bool} {J:World->Prop} (hF:∀g,F g=true->Qau P g=true) (hmix:P.follows .mixedOrders=true) {g:FuncId} {args:Array Value} {out:Value} {fuel:Nat} (hs:args.all simple=true) (ho:simple out=true) (ho2:af out=true) (h:Qqb (Qm5 P F Qb3 fuel g args (Qfu 0 []) ([]:List (Array Value×TypeId)).length) out []=true):Qai P J g args out:=fun fm w args' _ _ ha=> by
 have e:args'=args:=by
  refine Array.ext ha.1.symm fun i h1 h2=> ?_
  have k1:args[i]? =some args[i]:=by simp [h2]
  have k2:args'[i]? =some args'[i]:=by simp [h1]
  exact (ha.2 i _ _ k1 k2).simple_eq (Array.all_eq_true'.1 hs _ (Array.getElem_mem h2))
 subst e;have hc:=Qnk hF hmix (at':=[]) (args':=args') h (w:=w) (I:=fun _=> True) (hI:=fun _ _ _ _=> trivial) (QaM _ _) trivial rfl (fun i x a h=> by simp at h) ⟨rfl,fun i v v' h1 h2=> by rw [h1] at h2;cases h2;exact QbT (Array.all_eq_true'.1 hs v (Array.mem_of_getElem? h1))⟩;refine hc.mono fun e w' ⟨v',n',H',μ',he,hp,hv,hb,hun,hbel⟩=> ⟨out,by rw [he,Qje ho2 hv],hbel,.simple ho⟩
def QaG {α:Type} (m:Nat) (e:α->List Value) (x:α):List Value:=(e x).map (Qf5 m)
def Qze {α:Type} (e:α->List Value):Prop:=∀x,∀v∈e x,simple v=true\/Qf2 v=true
section
variable {α:Type} {e:α->List Value} {m r j z:Nat} {rs:List (Nat×Nat)} {frs:List (Nat×Array Value)} {xs:List α} {rsT:List Nat}
theorem Qb1 (h:∀x,(e x).all (fun v=> simple v || Qf2 v)=true):Qze e:=fun x v hv=> by
 have:=List.all_eq_true.1 (h x) v hv;simpa using this
theorem QfY (v:Value) (h:simple v=true\/Qf2 v=true):(simple v=true/\Qf5 m v=v)\/(Qf2 v=true/\Qf5 m v=Qat m v):=by
 unfold Qf5;cases hs:simple v with
 | true=> exact .inl ⟨rfl,rfl⟩
 | false=> rw [hs] at h;exact .inr ⟨by simpa using h,rfl⟩
theorem Qxb (he:Qze e) (hm:(r,j)∈rs) (x:α):AllX m rs frs (QaG r e x) (QaG j e x):=by
 have key:∀l:List Value,(∀v∈l,simple v=true\/Qf2 v=true)->AllX m rs frs (l.map (Qf5 r)) (l.map (Qf5 j)):=by
  intro l;induction l with
  | nil=> intro _;trivial
  | cons v l ih=>
    intro h;refine ⟨?_,ih fun u hu=> h u (List.mem_cons_of_mem _ hu)⟩;show QsY m rs frs (Qf5 r v) (Qf5 j v);rcases QfY (m:=r) v (h v (by simp)) with ⟨a,b⟩ | ⟨a,b⟩ <;> rcases QfY (m:=j) v (h v (by simp)) with ⟨c,d⟩ | ⟨c,d⟩
    ·rw [b,d];exact .simple a
    ·rw [b];unfold Qf5;rw [a];exact .simple a
    ·rw [d];unfold Qf5;rw [c];exact .simple c
    ·rw [b,d];exact .reg hm a
 exact key _ (he x)
theorem Qvu {e1 e2:α->List Value} (h:∀x,AllX m rs frs (e1 x) (e2 x)):Qbu m rs frs (Qad e1 xs) (Qad e2 xs):=by
 unfold Qbu Qad;simp only;induction xs with
 | nil=> trivial
 | cons x xs ih=> simp only [List.flatMap_cons];exact (h x).append ih
theorem Qb9 (he:Qze e) (hm:(r,j)∈rs):Qbu m rs frs (Qad (QaG r e) xs) (Qad (QaG j e) xs):=Qvu (Qxb he hm)
theorem QlR {cs:Array Value} {vs:List Value} {x:α} (h:Qbu m rs frs cs (Qad e xs)) (hx:AllX m rs frs vs (e x)):Qbu m rs frs (cs++vs.toArray) (Qad e (xs++[x])):=by
 unfold Qbu at h ⊢;rw [<-Qhf];simp only [Array.toList_append];exact AllX.append h hx
theorem Qoj {vs:List Value} {x:α} (hx:AllX m rs frs vs (e x)):Qbu m rs frs vs.toArray (Qad e [x]):=by
 unfold Qbu Qad;simpa using hx
theorem Qxp {vs:List Value} {x:α} (h:AllX m rs frs vs (e x)):∀k:Nat,Qbu m rs frs (Qad (fun (_:α)=> vs) (List.replicate k x)) (Qad e (List.replicate k x))
 | 0=> trivial
 | k+1=> by
   unfold Qbu Qad;simp only [List.replicate_succ,List.flatMap_cons];exact h.append (Qxp h k)
theorem QeE (he:Qze e) (hm:m∈rsT):Qbl rsT (Qad (QaG m e) xs) (Qad e xs):=by
 have key:∀l:List Value,(∀v∈l,simple v=true\/Qf2 v=true)->∀(i:Nat) v v1,(l.map (Qf5 m))[i]? =some v->l[i]? =some v1->Q3G rsT v v1:=by
  intro l h i v v1 h1 h2;rw [List.getElem?_map,h2] at h1;simp only [Option.map_some,YO] at h1;subst h1;rcases QfY (m:=m) v1 (h v1 (List.mem_of_getElem? h2)) with ⟨a,b⟩ | ⟨a,b⟩
  ·exact .inl ⟨by rw [b];exact a,b.symm⟩
  ·exact .inr ⟨m,hm,b,a⟩
 have e0:Qad (QaG m e) xs=((xs.flatMap e).map (Qf5 m)).toArray:=by
  unfold Qad QaG;rw [List.map_flatMap]
 refine ⟨by rw [e0];simp [Qad],fun i v v1 h1 h2=> ?_⟩;rw [e0] at h1;refine key (xs.flatMap e) (fun v hv=> ?_) i v v1 (by simpa using h1) (by simpa [Qad] using h2);obtain ⟨x,_,hx⟩:=List.mem_flatMap.1 hv;exact he x v hx
theorem QeU {a:Nat} {t:TypeId} {fl:Nat×Nat} (he:Qze e) (hm:m < a):Q4p a (.cells (Qad (QaG m e) xs) t fl):=fun i v hv=> by
 have:v∈Qad (QaG m e) xs:=Array.mem_of_getElem? hv;simp only [Qad,List.mem_toArray,List.mem_flatMap,QaG,List.mem_map] at this;obtain ⟨x,_,u,hu,rfl⟩:=this;rcases QfY (m:=m) u (he x u hu) with ⟨h1,h2⟩ | ⟨h1,h2⟩
 ·rw [h2];exact .inl (Qoz h1)
 ·rw [h2];refine .inl ?_;show Q4u a (Qat m u)=true;have:Nat.blt m a=true:=Nat.ble_eq_true_of_le hm;unfold Q4u;rw [show simple (Qat m u)=false from rfl,Bool.false_or];exact this
end
def QbL (zs:List Value) (_:Unit):List Value:=zs
theorem QzS {zc:Array Value} {z n:Nat} (hz:zc.size=z) (h0:0 < z):madeCells zc (n * z)=Qad (QbL zc.toList) (List.replicate n ()):=by
 have hl:∀x,(QbL zc.toList x).length=z:=fun x=> by simp [QbL,hz]
 refine Array.ext_getElem? fun i=> ?_
 by_cases hi:i < n * z
 ·have hk:i / z < n:=(Nat.div_lt_iff_lt_mul h0).2 hi;have hj:i % z < z:=Nat.mod_lt _ h0;have e:i / z * z+i % z=i:=by rw [Nat.mul_comm];exact Nat.div_add_mod i z
  have:=Qo9 (e:=QbL zc.toList) (xs:=List.replicate n ()) hl (k:=i / z) (j:=i % z) (by simpa using hk) hj;rw [e] at this;rw [this];have hj':i % z < zc.size:=by rw [hz];exact hj
  simp only [madeCells,Array.getElem?_map,Array.getElem?_range,hi,if_true,Option.map_some,hz,QbL];simp [hj']
 ·have a:(madeCells zc (n * z)).size=n * z:=size_madeCells _ _;have b:(Qad (QbL zc.toList) (List.replicate n ())).size=n * z:=by rw [Qcc hl];simp
  rw [Array.getElem?_eq_none (by omega),Array.getElem?_eq_none (by omega)]
def Q8t (P:Program) (t e z bytes:Nat) (zs:List Value):Bool:=match und P t with
 | some (.slice e')=> Nat.beq e' e && match inf P e with
   | some i=> match i.zero with
     | some zv=> Nat.beq i.size z && (Nat.beq i.bytes bytes && (Nat.blt 0 z && (Nat.beq zv.cells.size z && (eqL (eqV 2) zv.cells.toList zs && zs.all simple))))
     | none=> false
   | none=> false
 | _=> false
theorem Qgs {P:Program} {t e z bytes:Nat} {zs:List Value} (h:Q8t P t e z bytes zs=true) {l:Int} {k k':IntKind} (h0:0<=l) (hb:bytes * l<=281474976710656) (hn:l<=9223372036854775807):
 Qgh P t (.int k l) (.int k' l)=some (e,Qad (QbL zs) (List.replicate l.toNat ()),l.toNat,z):=by
 unfold Q8t at h;split at h
 ·rename_i e' hu;split at h
  ·rename_i i hi;split at h
   ·rename_i zv hz;simp only [YB] at h;obtain ⟨h1,h2,h3,h4,h5,h6,h7⟩:=h;have h1:=YE h1;have h2:=YE h2;have h3:=YE h3;have h4:0 < z:=YL h4;have h5:=YE h5;have h6:=Qe5 (QdH 2) _ _ h6;subst h1 h2 h3;have e1:=QzS (n:=l.toNat) h5 h4;rw [h6] at e1;have hall:(madeCells zv.cells (l.toNat * i.size)).all simple=true:=by
     rw [e1,Array.all_eq_true'];intro v hv;simp only [Qad,List.mem_toArray,List.mem_flatMap,QbL] at hv;obtain ⟨_,_,hv⟩:=hv;exact List.all_eq_true.1 h7 v hv
    simp only [Qgh,hu,hi,hz,decide_eq_true h0,decide_eq_true hb,decide_eq_true hn,decide_eq_true (Int.le_refl l),hall,Bool.and_self,cond_true];rw [e1]
   ·simp at h
  ·simp at h
 ·cases h
section
variable {α:Type} {e:α->List Value} {m z:Nat} {rs:List (Nat×Nat)} {frs:List (Nat×Array Value)} {xs:List α}
theorem QbQ {zs:List Value} {x:α} (h:AllX m rs frs zs (e x)):∀k:Nat,Qbu m rs frs (Qad (QbL zs) (List.replicate k ())) (Qad e (List.replicate k x))
 | 0=> trivial
 | k+1=> by
   unfold Qbu Qad;simp only [List.replicate_succ,List.flatMap_cons];exact AllX.append h (QbQ h k)
theorem AllX.take {l k:List Value}:∀(n:Nat) {l k:List Value},AllX m rs frs l k->AllX m rs frs (l.take n) (k.take n)
 | 0,_,_,_=> trivial
 | _+1,[],[],_=> trivial
 | n+1,_::_,_::_,h=> ⟨h.1,AllX.take (l:=[]) (k:=[]) n h.2⟩
 | _+1,[],_::_,h=> h.elim
 | _+1,_::_,[],h=> h.elim
theorem AllX.drop {l k:List Value}:∀(n:Nat) {l k:List Value},AllX m rs frs l k->AllX m rs frs (l.drop n) (k.drop n)
 | 0,_,_,h=> h
 | _+1,[],[],_=> trivial
 | n+1,_::_,_::_,h=> AllX.drop (l:=[]) (k:=[]) n h.2
 | _+1,[],_::_,h=> h.elim
 | _+1,_::_,[],h=> h.elim
theorem Qv6 {cs:Array Value} {vs:List Value} {x:α} {k:Nat} (hz:∀y,(e y).length=z) (h:Qbu m rs frs cs (Qad e xs)) (hk:k < xs.length) (hx:AllX m rs frs vs (e x)):Qbu m rs frs (splice cs (k * z) vs.toArray) (Qad e (xs.set k x)):=by
 have hlen:=(AllX.get hx).1;rw [hz x] at hlen;rw [<-(Qmh hz hk).2];unfold Qbu at h ⊢;unfold splice;simp only [hz x,<-hlen];exact AllX.append (AllX.append (AllX.take (l:=[]) (k:=[]) _ h) hx) (AllX.drop (l:=[]) (k:=[]) _ h)
theorem QhO {cs:Array Value} {vs:List Value} {x:α} {k:Nat} (hz:∀y,(e y).length=z) (h:Qbu m rs frs cs (Qad e xs)) (hk:k < xs.length) (hx:AllX m rs frs vs (e x)):Qbu m rs frs (splice cs (0+k * z) vs.toArray) (Qad e (xs.set k x)):=by
 rw [Nat.zero_add];exact Qv6 hz h hk hx
theorem Qfr (h:∀x,(e x).length=z) {k z':Nat} (hk:k < xs.length) {x:α} {cs:Array Value} (hc:cs=(e x).toArray) (hz:z'=z):0+k * z+z'<=(Qad e xs).size/\splice (Qad e xs) (0+k * z) cs=Qad e (xs.set k x):=by
 subst hz;rw [Nat.zero_add];exact Q4H h hk hc
theorem Q3c (h:∀x,(e x).length=z) {k z':Nat} (hk:k < xs.length) (hz:z'=z):0+k * z+z'<=(Qad e xs).size:=by
 subst hz;rw [Nat.zero_add];exact Qtu h hk
end
end Go.CE

noncomputable abbrev Go.CE.YP:Go.Program:=Go.Proofs.Tryz.prog
namespace Go.Proofs.YtiabgkiccaodmaaGreat
open Go Go.CE Go.RowKit
abbrev pA (b o:Nat):Value:=.pointer (some ⟨b,o,none⟩)
def J0:World->Prop:=fun _=> True
theorem Qbn:∀w w':World,(∀b,b < w.heap.size->w'.heap[b]? =w.heap[b]?)->J0 w->J0 w':=fun _ _ _ _=> trivial
theorem Qab:YP.follows .mixedOrders=true:=by decide+kernel
theorem okF:∀g,Qau YP g=true->Qau YP g=true:=fun _ h=> h
end Go.Proofs.YtiabgkiccaodmaaGreat

namespace Go.Proofs.YtiabgkiccaodmaaGreat
open Go Go.CE Go.RowKit
noncomputable section
set_option maxRecDepth 100000
def inB (x lo hi:Int):Bool:=decide (lo<=x) && decide (x<=hi)
structure Span where
 lo:Int
 hi:Int
deriving Inhabited
def Qaz (s:Span):List Value:=[.int .i64 s.lo,.int .i64 s.hi]
def Qbw (a b lo hi:Int):Bool:=decide (lo<=a) && (decide (a<=b) && decide (b<=hi))
def QxM (B:Lo) (x lo hi:Int):List Prop:=[(!ltq x lo)=true]++([]:List Prop)
def Q4t (x lo hi:Int):Qan:=[(3,hvT)]
theorem Q71 (B:Lo) (x lo hi:Int):QaF (Qah YP (Qau YP) J0 B 6 1 (Qae YP 69 15 (([.int .i64 x,.int .i64 lo,.int .i64 hi]).map (Qal 0 4))) H00 1
 (Q4t x lo hi++[(7,hvT)]) 0 [] []) []=some (.bool true,
 [(!ltq hi x)=true]++QxM B x lo hi):=by kernel_rfl
theorem Q6s (B:Lo) (x lo hi:Int):QaF (Qah YP (Qau YP) J0 B 6 1 (Qae YP 69 15 (([.int .i64 x,.int .i64 lo,.int .i64 hi]).map (Qal 0 4))) H00 1
 (Q4t x lo hi++[(7,hvF)]) 0 [] []) []=some (.bool false,
 [(!ltq hi x)=false]++QxM B x lo hi):=by kernel_rfl
theorem Q7u (B:Lo) (x lo hi:Int):QaF (Qah YP (Qau YP) J0 B 6 1 (Qae YP 69 15 (([.int .i64 x,.int .i64 lo,.int .i64 hi]).map (Qal 0 4))) H00 1
 [(3,hvF)] 0 [] []) []=some (.bool false,
 [(!ltq x lo)=false]):=by kernel_rfl
set_option maxHeartbeats 4000000 in
theorem Q8c (x lo hi:Int)  {B:Lo} (hJ:∀w,B.has w->J0 w):EndsT YP B (Qae YP 69 15 (([.int .i64 x,.int .i64 lo,.int .i64 hi]).map (Qal 0 4))) (.bool (inB x lo hi)):=by
 by_cases q0:(lo:Int)<=(x)
 ·have hp0:Qas (QxM B x lo hi):=by
   exact ⟨(Qcq q0),trivial⟩
  by_cases q1:(x:Int)<=(hi)
  ·exact (GoE.endsT okF hJ Qab GoE.start (Q71 B x lo hi)
    ⟨(Qcq q1),hp0⟩).cast (by (simp [inB, *];done))
  ·exact (GoE.endsT okF hJ Qab GoE.start (Q6s B x lo hi)
    ⟨(Qcn (Int.not_le.1 q1)),hp0⟩).cast (by (simp [inB, *];done))
 ·exact (GoE.endsT okF hJ Qab GoE.start (Q7u B x lo hi)
   ⟨(Qcn (Int.not_le.1 q0)),trivial⟩).cast (by (simp [inB, *];done))
theorem rin (x lo hi:Int)  :Qai YP J0 69 #[.int .i64 x,.int .i64 lo,.int .i64 hi] (.bool (inB x lo hi)):=
 Qa5 (ts:=[.int .i64 x,.int .i64 lo,.int .i64 hi]) Qbn (c0:=Qae YP 69 15 (([.int .i64 x,.int .i64 lo,.int .i64 hi]).map (Qal 0 4))) (by kernel_rfl) (by kernel_rfl) fun B hJ=> Q8c x lo hi  hJ
def QpD (B:Lo) (a b lo hi:Int):List Prop:=[(!ltq a lo)=true]++([]:List Prop)
def QuD (a b lo hi:Int):Qan:=[(5,hvT)]
def Qp9 (B:Lo) (a b lo hi:Int):List Prop:=[(!ltq b a)=true]++QpD B a b lo hi
def QuN (a b lo hi:Int):Qan:=QuD a b lo hi++[(11,hvT)]
theorem Q3U (B:Lo) (a b lo hi:Int):QaF (Qah YP (Qau YP) J0 B 6 1 (Qae YP 70 24 (([.agg #[.int .i64 a,.int .i64 b],.int .i64 lo,.int .i64 hi]).map (Qal 0 4))) H00 1
 (QuN a b lo hi++[(17,hvT)]) 0 [] []) []=some (.bool true,
 [(!ltq hi b)=true]++Qp9 B a b lo hi):=by kernel_rfl
theorem Q38 (B:Lo) (a b lo hi:Int):QaF (Qah YP (Qau YP) J0 B 6 1 (Qae YP 70 24 (([.agg #[.int .i64 a,.int .i64 b],.int .i64 lo,.int .i64 hi]).map (Qal 0 4))) H00 1
 (QuN a b lo hi++[(17,hvF)]) 0 [] []) []=some (.bool false,
 [(!ltq hi b)=false]++Qp9 B a b lo hi):=by kernel_rfl
theorem Q2i (B:Lo) (a b lo hi:Int):QaF (Qah YP (Qau YP) J0 B 6 1 (Qae YP 70 24 (([.agg #[.int .i64 a,.int .i64 b],.int .i64 lo,.int .i64 hi]).map (Qal 0 4))) H00 1
 (QuD a b lo hi++[(11,hvF)]) 0 [] []) []=some (.bool false,
 [(!ltq b a)=false]++QpD B a b lo hi):=by kernel_rfl
theorem Q2f (B:Lo) (a b lo hi:Int):QaF (Qah YP (Qau YP) J0 B 6 1 (Qae YP 70 24 (([.agg #[.int .i64 a,.int .i64 b],.int .i64 lo,.int .i64 hi]).map (Qal 0 4))) H00 1
 [(5,hvF)] 0 [] []) []=some (.bool false,
 [(!ltq a lo)=false]):=by kernel_rfl
set_option maxHeartbeats 4000000 in
theorem Q58 (a b lo hi:Int)  {B:Lo} (hJ:∀w,B.has w->J0 w):EndsT YP B (Qae YP 70 24 (([.agg #[.int .i64 a,.int .i64 b],.int .i64 lo,.int .i64 hi]).map (Qal 0 4))) (.bool (Qbw a b lo hi)):=by
 by_cases q0:(lo:Int)<=(a)
 ·have hp0:Qas (QpD B a b lo hi):=by
   exact ⟨(Qcq q0),trivial⟩
  by_cases q1:(a:Int)<=(b)
  ·have hp1:Qas (Qp9 B a b lo hi):=by
    exact ⟨(Qcq q1),hp0⟩
   by_cases q2:(b:Int)<=(hi)
   ·exact (GoE.endsT okF hJ Qab GoE.start (Q3U B a b lo hi)
     ⟨(Qcq q2),hp1⟩).cast (by (simp [Qbw, *];done))
   ·exact (GoE.endsT okF hJ Qab GoE.start (Q38 B a b lo hi)
     ⟨(Qcn (Int.not_le.1 q2)),hp1⟩).cast (by (simp [Qbw, *];done))
  ·exact (GoE.endsT okF hJ Qab GoE.start (Q2i B a b lo hi)
    ⟨(Qcn (Int.not_le.1 q1)),hp0⟩).cast (by (simp [Qbw, *];done))
 ·exact (GoE.endsT okF hJ Qab GoE.start (Q2f B a b lo hi)
   ⟨(Qcn (Int.not_le.1 q0)),trivial⟩).cast (by (simp [Qbw, *];done))
theorem Qn5 (a b lo hi:Int)  :Qai YP J0 70 #[.agg #[.int .i64 a,.int .i64 b],.int .i64 lo,.int .i64 hi] (.bool (Qbw a b lo hi)):=
 Qa5 (ts:=[.agg #[.int .i64 a,.int .i64 b],.int .i64 lo,.int .i64 hi]) Qbn (c0:=Qae YP 70 24 (([.agg #[.int .i64 a,.int .i64 b],.int .i64 lo,.int .i64 hi]).map (Qal 0 4))) (by kernel_rfl) (by kernel_rfl) fun B hJ=> Q58 a b lo hi  hJ
structure Qac where
 tides:List Int
 depth:Int
 draft:Int
 swell:List Span
 llo:Int
 lhi:Int
deriving Inhabited
abbrev Qol (xs:List Span):Value:=slT xs.length (Qad Qaz xs)
def Qa2 (p:Qac):List Value:=[slI p.tides,.int .i64 p.depth,.int .i64 p.draft,Qol p.swell,.int .i64 p.llo,.int .i64 p.lhi]
def Qfh (p:Qac):Bool:=inB p.tides.length 1 50 && (inB p.depth 0 1000 && (inB p.draft 0 1000 && (inB p.swell.length 1 60 && Qbw p.llo p.lhi 0 23)))
def Qh3 (p:Qac):Bool:=p.swell.all (fun s=> Qbw s.lo s.hi 0 1000) && Qfh p
def QaB (p:Qac):Bool:=p.tides.all (fun x=> inB x (-1000) 1000) && Qh3 p
def Qhu (p:Qac) (i:Int):List Value:=[pA 2 0,.int .i64 i]
def Qet (p:Qac) (i:Int):List Obj:=[Obj.cells #[Qat 1 (slT p.tides.length (Qad Qav p.tides)),.int .i64 p.depth,.int .i64 p.draft,Qat 1 (slT p.swell.length (Qad Qaz p.swell)),.int .i64 p.llo,.int .i64 p.lhi] 27]
def Qhr:List Item:=([.code [1,0,1,0,0],.inLoop [1,0,1,0,0],.inBlock 0,.code [1,1]]).map (it (Qaq YP 21))
def Q4n (B:Lo) (c0:CF) (p:Qac) (i:Int):Prop:=∃dJ:Nat->Value,(∀t,Qbg (dJ t))/\GoE YP B c0 H00 1 (Qa3 21 58 (([1,3]:List Nat).zip (Qhu p i)) dJ Qhr) (Qa1 (Qet p i)) (2+(Qet p i).length) []
def QdE (p:Qac) (i:Int):List Value:=[pA 2 0,.int .i64 i]
def QbD (p:Qac) (i:Int):List Obj:=[Obj.cells #[Qat 1 (slT p.tides.length (Qad Qav p.tides)),.int .i64 p.depth,.int .i64 p.draft,Qat 1 (slT p.swell.length (Qad Qaz p.swell)),.int .i64 p.llo,.int .i64 p.lhi] 27]
def QdC:List Item:=([.code [1,1,0,1,0,0],.inLoop [1,1,0,1,0,0],.inBlock 2,.code [1,1,1]]).map (it (Qaq YP 21))
def Q2A (B:Lo) (c0:CF) (p:Qac) (i:Int):Prop:=∃dJ:Nat->Value,(∀t,Qbg (dJ t))/\GoE YP B c0 H00 1 (Qa3 21 58 (([1,4]:List Nat).zip (QdE p i)) dJ QdC) (Qa1 (QbD p i)) (2+(QbD p i).length) []
def QkH (p:Qac) (i:Int):Array Value:=#[.int .i64 (Span.lo (p.swell.getD i.toNat default)),.int .i64 (Span.hi (p.swell.getD i.toNat default))]
def QoU (B:Lo) (p:Qac) (i:Int) (dJ0:Nat->Value):List Prop:=[i=(↑i.toNat:Int)/\Int.toNat i < List.length p.tides/\Array.extract (Qad Qav p.tides) (Int.toNat i * TypeInfo.size Tryz.t3) (Int.toNat i * TypeInfo.size Tryz.t3+TypeInfo.size Tryz.t3)=#[.int .i64 (p.tides.getD i.toNat default)],ltq i (↑p.tides.length:Int)=true]++([]:List Prop)
def Qui (p:Qac) (i:Int) (dJ0:Nat->Value):Qan:=[(4,hvT),(8,Qaf.tidx i.toNat #[.int .i64 (p.tides.getD i.toNat default)])]
theorem Q3T (B:Lo) (p:Qac) (i:Int) (dJ0:Nat->Value):landM (Qah YP (Qau YP) J0 B 14 1 (Qa3 21 58 (([1,3]:List Nat).zip (Qhu p i)) dJ0 Qhr) (Qa1 (Qet p i)) (2+(Qet p i).length)
 (Qui p i dJ0++[(10,Qaf.pure (.bool true) []),(13,hvI (i+1))]) 0 [] []) [1,3] [(2,KS.auto)] []=some ⟨21,58,Qhr,[],.run,none,Qhu p (i+1),Qet p (i+1),
 [wq (i+1)=i+1,Qas []/\Qai YP J0 69 #[.int .i64 (p.tides.getD i.toNat default),.int .i64 (-1000),.int .i64 1000] (.bool true)]++QoU B p i dJ0⟩:=by kernel_rfl
theorem Q4o (B:Lo) (p:Qac) (i:Int) (dJ0:Nat->Value):QaF (Qah YP (Qau YP) J0 B 14 1 (Qa3 21 58 (([1,3]:List Nat).zip (Qhu p i)) dJ0 Qhr) (Qa1 (Qet p i)) (2+(Qet p i).length)
 (Qui p i dJ0++[(10,Qaf.pure (.bool false) [])]) 0 [] []) []=some (.bool false,
 [Qas []/\Qai YP J0 69 #[.int .i64 (p.tides.getD i.toNat default),.int .i64 (-1000),.int .i64 1000] (.bool false)]++QoU B p i dJ0):=by kernel_rfl
theorem Q2B (B:Lo) (p:Qac) (i:Int) (dJ0:Nat->Value):landM (Qah YP (Qau YP) J0 B 10 1 (Qa3 21 58 (([1,3]:List Nat).zip (Qhu p i)) dJ0 Qhr) (Qa1 (Qet p i)) (2+(Qet p i).length)
 [(4,hvF)] 0 [] []) [1,4] [(2,KS.auto)] []=some ⟨21,58,QdC,[],.run,none,QdE p (0),QbD p (0),
 [ltq i (↑p.tides.length:Int)=false]⟩:=by kernel_rfl
def Qpd (B:Lo) (p:Qac) (i:Int) (dJ0:Nat->Value):List Prop:=[i=(↑i.toNat:Int)/\Int.toNat i < List.length p.swell/\Array.extract (Qad Qaz p.swell) (Int.toNat i * TypeInfo.size Tryz.t25) (Int.toNat i * TypeInfo.size Tryz.t25+TypeInfo.size Tryz.t25)=(QkH p i),ltq i (↑p.swell.length:Int)=true]++([]:List Prop)
def QuE (p:Qac) (i:Int) (dJ0:Nat->Value):Qan:=[(4,hvT),(8,Qaf.tidx i.toNat (QkH p i))]
theorem Q4j (B:Lo) (p:Qac) (i:Int) (dJ0:Nat->Value):landM (Qah YP (Qau YP) J0 B 14 1 (Qa3 21 58 (([1,4]:List Nat).zip (QdE p i)) dJ0 QdC) (Qa1 (QbD p i)) (2+(QbD p i).length)
 (QuE p i dJ0++[(10,Qaf.pure (.bool true) []),(13,hvI (i+1))]) 0 [] []) [1,4] [(2,KS.auto)] []=some ⟨21,58,QdC,[],.run,none,QdE p (i+1),QbD p (i+1),
 [wq (i+1)=i+1,Qas []/\Qai YP J0 70 #[.agg (QkH p i),.int .i64 0,.int .i64 1000] (.bool true)]++Qpd B p i dJ0⟩:=by kernel_rfl
theorem Q3m (B:Lo) (p:Qac) (i:Int) (dJ0:Nat->Value):QaF (Qah YP (Qau YP) J0 B 14 1 (Qa3 21 58 (([1,4]:List Nat).zip (QdE p i)) dJ0 QdC) (Qa1 (QbD p i)) (2+(QbD p i).length)
 (QuE p i dJ0++[(10,Qaf.pure (.bool false) [])]) 0 [] []) []=some (.bool false,
 [Qas []/\Qai YP J0 70 #[.agg (QkH p i),.int .i64 0,.int .i64 1000] (.bool false)]++Qpd B p i dJ0):=by kernel_rfl
def Qpk (B:Lo) (p:Qac) (i:Int) (dJ0:Nat->Value):List Prop:=[ltq i (↑p.swell.length:Int)=false]++([]:List Prop)
def Qu3 (p:Qac) (i:Int) (dJ0:Nat->Value):Qan:=[(4,hvF)]
def QoR (B:Lo) (p:Qac) (i:Int) (dJ0:Nat->Value):List Prop:=[Qas []/\Qai YP J0 69 #[.int .i64 (↑p.tides.length:Int),.int .i64 1,.int .i64 50] (.bool true)]++Qpk B p i dJ0
def Qup (p:Qac) (i:Int) (dJ0:Nat->Value):Qan:=Qu3 p i dJ0++[(8,Qaf.pure (.bool true) [])]
def Qo5 (B:Lo) (p:Qac) (i:Int) (dJ0:Nat->Value):List Prop:=[Qas []/\Qai YP J0 69 #[.int .i64 p.depth,.int .i64 0,.int .i64 1000] (.bool true)]++QoR B p i dJ0
def Quj (p:Qac) (i:Int) (dJ0:Nat->Value):Qan:=Qup p i dJ0++[(12,Qaf.pure (.bool true) [])]
def QoH (B:Lo) (p:Qac) (i:Int) (dJ0:Nat->Value):List Prop:=[Qas []/\Qai YP J0 69 #[.int .i64 p.draft,.int .i64 0,.int .i64 1000] (.bool true)]++Qo5 B p i dJ0
def Qum (p:Qac) (i:Int) (dJ0:Nat->Value):Qan:=Quj p i dJ0++[(17,Qaf.pure (.bool true) [])]
def QoC (B:Lo) (p:Qac) (i:Int) (dJ0:Nat->Value):List Prop:=[Qas []/\Qai YP J0 69 #[.int .i64 (↑p.swell.length:Int),.int .i64 1,.int .i64 60] (.bool true)]++QoH B p i dJ0
def QtX (p:Qac) (i:Int) (dJ0:Nat->Value):Qan:=Qum p i dJ0++[(23,Qaf.pure (.bool true) [])]
theorem Q3N (B:Lo) (p:Qac) (i:Int) (dJ0:Nat->Value):QaF (Qah YP (Qau YP) J0 B 9 1 (Qa3 21 58 (([1,4]:List Nat).zip (QdE p i)) dJ0 QdC) (Qa1 (QbD p i)) (2+(QbD p i).length)
 (QtX p i dJ0++[(28,Qaf.pure (.bool true) [])]) 0 [] []) []=some (.bool true,
 [Qas []/\Qai YP J0 70 #[.agg #[.int .i64 p.llo,.int .i64 p.lhi],.int .i64 0,.int .i64 23] (.bool true)]++QoC B p i dJ0):=by kernel_rfl
theorem Q21 (B:Lo) (p:Qac) (i:Int) (dJ0:Nat->Value):QaF (Qah YP (Qau YP) J0 B 9 1 (Qa3 21 58 (([1,4]:List Nat).zip (QdE p i)) dJ0 QdC) (Qa1 (QbD p i)) (2+(QbD p i).length)
 (QtX p i dJ0++[(28,Qaf.pure (.bool false) [])]) 0 [] []) []=some (.bool false,
 [Qas []/\Qai YP J0 70 #[.agg #[.int .i64 p.llo,.int .i64 p.lhi],.int .i64 0,.int .i64 23] (.bool false)]++QoC B p i dJ0):=by kernel_rfl
theorem Q2X (B:Lo) (p:Qac) (i:Int) (dJ0:Nat->Value):QaF (Qah YP (Qau YP) J0 B 9 1 (Qa3 21 58 (([1,4]:List Nat).zip (QdE p i)) dJ0 QdC) (Qa1 (QbD p i)) (2+(QbD p i).length)
 (Qum p i dJ0++[(23,Qaf.pure (.bool false) [])]) 0 [] []) []=some (.bool false,
 [Qas []/\Qai YP J0 69 #[.int .i64 (↑p.swell.length:Int),.int .i64 1,.int .i64 60] (.bool false)]++QoH B p i dJ0):=by kernel_rfl
theorem Q3V (B:Lo) (p:Qac) (i:Int) (dJ0:Nat->Value):QaF (Qah YP (Qau YP) J0 B 9 1 (Qa3 21 58 (([1,4]:List Nat).zip (QdE p i)) dJ0 QdC) (Qa1 (QbD p i)) (2+(QbD p i).length)
 (Quj p i dJ0++[(17,Qaf.pure (.bool false) [])]) 0 [] []) []=some (.bool false,
 [Qas []/\Qai YP J0 69 #[.int .i64 p.draft,.int .i64 0,.int .i64 1000] (.bool false)]++Qo5 B p i dJ0):=by kernel_rfl
theorem Q2O (B:Lo) (p:Qac) (i:Int) (dJ0:Nat->Value):QaF (Qah YP (Qau YP) J0 B 9 1 (Qa3 21 58 (([1,4]:List Nat).zip (QdE p i)) dJ0 QdC) (Qa1 (QbD p i)) (2+(QbD p i).length)
 (Qup p i dJ0++[(12,Qaf.pure (.bool false) [])]) 0 [] []) []=some (.bool false,
 [Qas []/\Qai YP J0 69 #[.int .i64 p.depth,.int .i64 0,.int .i64 1000] (.bool false)]++QoR B p i dJ0):=by kernel_rfl
theorem Qz0 (B:Lo) (p:Qac) (i:Int) (dJ0:Nat->Value):QaF (Qah YP (Qau YP) J0 B 9 1 (Qa3 21 58 (([1,4]:List Nat).zip (QdE p i)) dJ0 QdC) (Qa1 (QbD p i)) (2+(QbD p i).length)
 (Qu3 p i dJ0++[(8,Qaf.pure (.bool false) [])]) 0 [] []) []=some (.bool false,
 [Qas []/\Qai YP J0 69 #[.int .i64 (↑p.tides.length:Int),.int .i64 1,.int .i64 50] (.bool false)]++Qpk B p i dJ0):=by kernel_rfl
theorem QxG (B:Lo) (p:Qac):landM (Qah YP (Qau YP) J0 B 7 1 (Qae YP 21 58 (([.agg (Qa2 p).toArray]).map (Qal 0 4))) H00 1
 [] 0 [] []) [1,3] [(1,KS.auto)] []=some ⟨21,58,Qhr,[],.run,none,Qhu p (0),Qet p (0),
 []⟩:=by kernel_rfl
set_option maxHeartbeats 4000000 in
theorem Q3M (p:Qac)  (hfacts:p.tides.length<=9223372036854775807/\p.swell.length<=9223372036854775807) {B:Lo} (hJ:∀w,B.has w->J0 w) {c0:CF}:∀m:Nat,(∀(i:Int),(p.tides.length - i.toNat)+p.swell.length+1=m->∀(h0:0<=i),Q4n B c0 p i->EndsT YP B c0 (.bool ((p.tides.drop i.toNat).all (fun x=> inB x (-1000) 1000) && Qh3 p)))/\(∀(i:Int),(p.swell.length - i.toNat)=m->∀(h0:0<=i),Q2A B c0 p i->EndsT YP B c0 (.bool ((p.swell.drop i.toNat).all (fun s=> Qbw s.lo s.hi 0 1000) && Qfh p))):=by
 intro m0;induction m0 using Nat.strongRecOn with
 | _ m0 ih0=>
   refine ⟨?_, ?_⟩
   ·intro i hm0 h0 ⟨dJ0,hdJ0,hg0⟩;by_cases q0:(i:Int) < ((↑p.tides.length:Int))
    ·have hp0:Qas (QoU B p i dJ0):=by
      exact ⟨⟨by omega,by omega,(Qao (z:=1) (fun _=> rfl) (by omega))⟩,⟨(Qbq q0),trivial⟩⟩
     cases q1:inB (p.tides.getD i.toNat default) (-1000) 1000 with
     | true=>
       exact ((ih0 _ (by omega)).1 (i+1) rfl (by omega)
        (hg0.landM okF hJ Qab (Q3T B p i dJ0)
        ⟨(QaR (by omega) (by omega)),⟨⟨trivial,(by have t_:=rin (p.tides.getD i.toNat default) (-1000) (1000);rw [q1] at t_;exact t_)⟩,hp0⟩⟩ (by kernel_rfl) (by kernel_rfl))).cast (by (rw [Qev (i:=i)];(· simp_all [Qh3,Qfh]);(· omega);(· omega)))
     | false=>
       exact (GoE.endsT okF hJ Qab hg0 (Q4o B p i dJ0)
        ⟨⟨trivial,(by have t_:=rin (p.tides.getD i.toNat default) (-1000) (1000);rw [q1] at t_;exact t_)⟩,hp0⟩).cast (by (rw [Qev (i:=i)];(· simp_all [Qh3,Qfh]);(· omega);(· omega)))
    ·exact ((ih0 _ (by omega)).2 (0) rfl (by omega)
      (hg0.landM okF hJ Qab (Q2B B p i dJ0)
      ⟨(Qbj (Int.not_lt.1 q0)),trivial⟩ (by kernel_rfl) (by kernel_rfl))).cast (by (rw [Qdy (i:=i)];(· simp_all [Qh3,Qfh]);(· omega)))
   ·intro i hm0 h0 ⟨dJ0,hdJ0,hg0⟩;by_cases q0:(i:Int) < ((↑p.swell.length:Int))
    ·have hp1:Qas (Qpd B p i dJ0):=by
      exact ⟨⟨by omega,by omega,(Qao (z:=2) (fun _=> rfl) (by omega))⟩,⟨(Qbq q0),trivial⟩⟩
     cases q1:Qbw (Span.lo (p.swell.getD i.toNat default)) (Span.hi (p.swell.getD i.toNat default)) 0 1000 with
     | true=>
       exact ((ih0 _ (by omega)).2 (i+1) rfl (by omega)
        (hg0.landM okF hJ Qab (Q4j B p i dJ0)
        ⟨(QaR (by omega) (by omega)),⟨⟨trivial,(by have t_:=Qn5 (Span.lo (p.swell.getD i.toNat default)) (Span.hi (p.swell.getD i.toNat default)) (0) (1000);rw [q1] at t_;exact t_)⟩,hp1⟩⟩ (by kernel_rfl) (by kernel_rfl))).cast (by (rw [Qev (i:=i)];(· simp_all [Qfh]);(· omega);(· omega)))
     | false=>
       exact (GoE.endsT okF hJ Qab hg0 (Q3m B p i dJ0)
        ⟨⟨trivial,(by have t_:=Qn5 (Span.lo (p.swell.getD i.toNat default)) (Span.hi (p.swell.getD i.toNat default)) (0) (1000);rw [q1] at t_;exact t_)⟩,hp1⟩).cast (by (rw [Qev (i:=i)];(· simp_all [Qfh]);(· omega);(· omega)))
    ·have hp2:Qas (Qpk B p i dJ0):=by
      exact ⟨(Qbj (Int.not_lt.1 q0)),trivial⟩
     cases q1:inB (↑p.tides.length:Int) 1 50 with
     | true=>
       have hp3:Qas (QoR B p i dJ0):=by
        exact ⟨⟨trivial,(by have t_:=rin ((↑p.tides.length:Int)) (1) (50);rw [q1] at t_;exact t_)⟩,hp2⟩
       cases q2:inB p.depth 0 1000 with
       | true=>
         have hp4:Qas (Qo5 B p i dJ0):=by
          exact ⟨⟨trivial,(by have t_:=rin p.depth (0) (1000);rw [q2] at t_;exact t_)⟩,hp3⟩
         cases q3:inB p.draft 0 1000 with
         | true=>
           have hp5:Qas (QoH B p i dJ0):=by
            exact ⟨⟨trivial,(by have t_:=rin p.draft (0) (1000);rw [q3] at t_;exact t_)⟩,hp4⟩
           cases q4:inB (↑p.swell.length:Int) 1 60 with
           | true=>
             have hp6:Qas (QoC B p i dJ0):=by
              exact ⟨⟨trivial,(by have t_:=rin ((↑p.swell.length:Int)) (1) (60);rw [q4] at t_;exact t_)⟩,hp5⟩
             cases q5:Qbw p.llo p.lhi 0 23 with
             | true=>
               exact (GoE.endsT okF hJ Qab hg0 (Q3N B p i dJ0)
                ⟨⟨trivial,(by have t_:=Qn5 p.llo p.lhi (0) (23);rw [q5] at t_;exact t_)⟩,hp6⟩).cast (by (rw [Qdy (i:=i)];(· simp_all [Qfh]);(· omega)))
             | false=>
               exact (GoE.endsT okF hJ Qab hg0 (Q21 B p i dJ0)
                ⟨⟨trivial,(by have t_:=Qn5 p.llo p.lhi (0) (23);rw [q5] at t_;exact t_)⟩,hp6⟩).cast (by (rw [Qdy (i:=i)];(· simp_all [Qfh]);(· omega)))
           | false=>
             exact (GoE.endsT okF hJ Qab hg0 (Q2X B p i dJ0)
              ⟨⟨trivial,(by have t_:=rin ((↑p.swell.length:Int)) (1) (60);rw [q4] at t_;exact t_)⟩,hp5⟩).cast (by (rw [Qdy (i:=i)];(· simp_all [Qfh]);(· omega)))
         | false=>
           exact (GoE.endsT okF hJ Qab hg0 (Q3V B p i dJ0)
            ⟨⟨trivial,(by have t_:=rin p.draft (0) (1000);rw [q3] at t_;exact t_)⟩,hp4⟩).cast (by (rw [Qdy (i:=i)];(· simp_all [Qfh]);(· omega)))
       | false=>
         exact (GoE.endsT okF hJ Qab hg0 (Q2O B p i dJ0)
          ⟨⟨trivial,(by have t_:=rin p.depth (0) (1000);rw [q2] at t_;exact t_)⟩,hp3⟩).cast (by (rw [Qdy (i:=i)];(· simp_all [Qfh]);(· omega)))
     | false=>
       exact (GoE.endsT okF hJ Qab hg0 (Qz0 B p i dJ0)
        ⟨⟨trivial,(by have t_:=rin ((↑p.tides.length:Int)) (1) (50);rw [q1] at t_;exact t_)⟩,hp2⟩).cast (by (rw [Qdy (i:=i)];(· simp_all [Qfh]);(· omega)))
set_option maxHeartbeats 4000000 in
theorem Q5s (p:Qac)  (hfacts:p.tides.length<=9223372036854775807/\p.swell.length<=9223372036854775807) {B:Lo} (hJ:∀w,B.has w->J0 w):EndsT YP B (Qae YP 21 58 (([.agg (Qa2 p).toArray]).map (Qal 0 4))) (.bool (QaB p)):=by
 exact ((Q3M p hfacts hJ _).1 (0) rfl (by omega)
  (GoE.start.landM okF hJ Qab (QxG B p)
  trivial (by kernel_rfl) (by kernel_rfl))).cast (by simp_all [QaB])
theorem Q6r (p:Qac)  :Qai YP J0 21 #[.agg (Qa2 p).toArray] (.bool (QaB p)):=
 Qcv (ts:=[.agg (Qa2 p).toArray]) (p.tides.length<=9223372036854775807/\p.swell.length<=9223372036854775807) (fun _ _ ht=> ⟨ht.ln2 (i:=0) (j:=0) rfl rfl,ht.ln2 (i:=0) (j:=3) rfl rfl⟩) Qbn (c0:=Qae YP 21 58 (([.agg (Qa2 p).toArray]).map (Qal 0 4))) (by kernel_rfl) (by kernel_rfl) fun hfacts B hJ=> Q5s p  hfacts hJ
end
end Go.Proofs.YtiabgkiccaodmaaGreat

namespace Go.Proofs.YtiabgkiccaodmaaGreat
open Go Go.CE Go.RowKit
noncomputable section
set_option maxRecDepth 100000
def Q0W (B:Lo) (n lo hi:Int):List Prop:=[(!ltq n lo)=true]++([]:List Prop)
def Q46 (n lo hi:Int):Qan:=[(3,hvT)]
theorem Q6U (B:Lo) (n lo hi:Int):QaF (Qah YP (Qau YP) J0 B 6 1 (Qae YP 76 15 (([.int .i64 n,.int .i64 lo,.int .i64 hi]).map (Qal 0 4))) H00 1
 (Q46 n lo hi++[(7,hvT)]) 0 [] []) []=some (.bool true,
 [(!ltq hi n)=true]++Q0W B n lo hi):=by kernel_rfl
theorem Q7k (B:Lo) (n lo hi:Int):QaF (Qah YP (Qau YP) J0 B 6 1 (Qae YP 76 15 (([.int .i64 n,.int .i64 lo,.int .i64 hi]).map (Qal 0 4))) H00 1
 (Q46 n lo hi++[(7,hvF)]) 0 [] []) []=some (.bool false,
 [(!ltq hi n)=false]++Q0W B n lo hi):=by kernel_rfl
theorem Q65 (B:Lo) (n lo hi:Int):QaF (Qah YP (Qau YP) J0 B 6 1 (Qae YP 76 15 (([.int .i64 n,.int .i64 lo,.int .i64 hi]).map (Qal 0 4))) H00 1
 [(3,hvF)] 0 [] []) []=some (.bool false,
 [(!ltq n lo)=false]):=by kernel_rfl
set_option maxHeartbeats 4000000 in
theorem Q8h (n lo hi:Int)  {B:Lo} (hJ:∀w,B.has w->J0 w):EndsT YP B (Qae YP 76 15 (([.int .i64 n,.int .i64 lo,.int .i64 hi]).map (Qal 0 4))) (.bool (inB n lo hi)):=by
 by_cases q0:(lo:Int)<=(n)
 ·have hp0:Qas (Q0W B n lo hi):=by
   exact ⟨(Qcq q0),trivial⟩
  by_cases q1:(n:Int)<=(hi)
  ·exact (GoE.endsT okF hJ Qab GoE.start (Q6U B n lo hi)
    ⟨(Qcq q1),hp0⟩).cast (by (simp [inB, *];done))
  ·exact (GoE.endsT okF hJ Qab GoE.start (Q7k B n lo hi)
    ⟨(Qcn (Int.not_le.1 q1)),hp0⟩).cast (by (simp [inB, *];done))
 ·exact (GoE.endsT okF hJ Qab GoE.start (Q65 B n lo hi)
   ⟨(Qcn (Int.not_le.1 q0)),trivial⟩).cast (by (simp [inB, *];done))
theorem pIn (n lo hi:Int)  :Qai YP J0 76 #[.int .i64 n,.int .i64 lo,.int .i64 hi] (.bool (inB n lo hi)):=
 Qa5 (ts:=[.int .i64 n,.int .i64 lo,.int .i64 hi]) Qbn (c0:=Qae YP 76 15 (([.int .i64 n,.int .i64 lo,.int .i64 hi]).map (Qal 0 4))) (by kernel_rfl) (by kernel_rfl) fun B hJ=> Q8h n lo hi  hJ
def QfX (xs:List Int) (lo hi:Int) (i:Int):List Value:=[.int .i64 lo,.int .i64 hi,Qat 1 (slT xs.length (Qad Qav xs)),.int .i64 (↑xs.length:Int),.int .i64 i]
def Qdu (xs:List Int) (lo hi:Int) (i:Int):List Obj:=[]
def QfF:List Item:=([.code [1,0,1,0,0],.inLoop [1,0,1,0,0],.inBlock 0,.code [1,1]]).map (it (Qaq YP 100))
def QzA (B:Lo) (c0:CF) (xs:List Int) (lo hi:Int) (i:Int):Prop:=∃dJ:Nat->Value,(∀t,Qbg (dJ t))/\GoE YP B c0 H00 1 (Qa3 100 21 (([1,2,9,10,11]:List Nat).zip (QfX xs lo hi i)) dJ QfF) (Qa1 (Qdu xs lo hi i)) (2+(Qdu xs lo hi i).length) []
def Qlw (B:Lo) (xs:List Int) (lo hi:Int) (i:Int) (dJ0:Nat->Value):List Prop:=[i=(↑i.toNat:Int)/\Int.toNat i < List.length xs/\Array.extract (Qad Qav xs) (Int.toNat i * TypeInfo.size Tryz.t3) (Int.toNat i * TypeInfo.size Tryz.t3+TypeInfo.size Tryz.t3)=#[.int .i64 (xs.getD i.toNat default)],ltq i (↑xs.length:Int)=true]++([]:List Prop)
def QqV (xs:List Int) (lo hi:Int) (i:Int) (dJ0:Nat->Value):Qan:=[(0,hvT),(1,Qaf.tidx i.toNat #[.int .i64 (xs.getD i.toNat default)])]
theorem Q1h (B:Lo) (xs:List Int) (lo hi:Int) (i:Int) (dJ0:Nat->Value):landM (Qah YP (Qau YP) J0 B 16 1 (Qa3 100 21 (([1,2,9,10,11]:List Nat).zip (QfX xs lo hi i)) dJ0 QfF) (Qa1 (Qdu xs lo hi i)) (2+(Qdu xs lo hi i).length)
 (QqV xs lo hi i dJ0++[(7,Qaf.pure (.bool true) []),(9,hvI (i+1))]) 0 [] []) [1,2,9,10,11] [] []=some ⟨100,21,QfF,[],.run,none,QfX xs lo hi (i+1),Qdu xs lo hi (i+1),
 [wq (i+1)=i+1,Qas []/\Qai YP J0 76 #[.int .i64 (xs.getD i.toNat default),.int .i64 lo,.int .i64 hi] (.bool true)]++Qlw B xs lo hi i dJ0⟩:=by kernel_rfl
theorem Qx9 (B:Lo) (xs:List Int) (lo hi:Int) (i:Int) (dJ0:Nat->Value):QaF (Qah YP (Qau YP) J0 B 16 1 (Qa3 100 21 (([1,2,9,10,11]:List Nat).zip (QfX xs lo hi i)) dJ0 QfF) (Qa1 (Qdu xs lo hi i)) (2+(Qdu xs lo hi i).length)
 (QqV xs lo hi i dJ0++[(7,Qaf.pure (.bool false) [])]) 0 [] []) []=some (.bool false,
 [Qas []/\Qai YP J0 76 #[.int .i64 (xs.getD i.toNat default),.int .i64 lo,.int .i64 hi] (.bool false)]++Qlw B xs lo hi i dJ0):=by kernel_rfl
theorem Qy4 (B:Lo) (xs:List Int) (lo hi:Int) (i:Int) (dJ0:Nat->Value):QaF (Qah YP (Qau YP) J0 B 9 1 (Qa3 100 21 (([1,2,9,10,11]:List Nat).zip (QfX xs lo hi i)) dJ0 QfF) (Qa1 (Qdu xs lo hi i)) (2+(Qdu xs lo hi i).length)
 [(0,hvF)] 0 [] []) []=some (.bool true,
 [ltq i (↑xs.length:Int)=false]):=by kernel_rfl
theorem Qy5 (B:Lo) (xs:List Int) (lo hi:Int):landM (Qah YP (Qau YP) J0 B 7 1 (Qae YP 100 21 (([slI xs,.int .i64 lo,.int .i64 hi]).map (Qal 0 4))) H00 1
 [] 0 [] []) [1,2,9,10,11] [] []=some ⟨100,21,QfF,[],.run,none,QfX xs lo hi (0),Qdu xs lo hi (0),
 []⟩:=by kernel_rfl
set_option maxHeartbeats 4000000 in
theorem Q01 (xs:List Int) (lo hi:Int)  (hfacts:xs.length<=9223372036854775807) {B:Lo} (hJ:∀w,B.has w->J0 w) {c0:CF}:∀m:Nat,(∀(i:Int),xs.length - i.toNat=m->∀(h0:0<=i),QzA B c0 xs lo hi i->EndsT YP B c0 (.bool ((xs.drop i.toNat).all (fun x=> inB x lo hi)))):=by
 intro m0;induction m0 using Nat.strongRecOn with
 | _ m0 ih0=>
   intro i hm0 h0 ⟨dJ0,hdJ0,hg0⟩;by_cases q0:(i:Int) < ((↑xs.length:Int))
   ·have hp0:Qas (Qlw B xs lo hi i dJ0):=by
     exact ⟨⟨by omega,by omega,(Qao (z:=1) (fun _=> rfl) (by omega))⟩,⟨(Qbq q0),trivial⟩⟩
    cases q1:inB (xs.getD i.toNat default) lo hi with
    | true=>
      exact ((ih0 _ (by omega)) (i+1) rfl (by omega)
       (hg0.landM okF hJ Qab (Q1h B xs lo hi i dJ0)
       ⟨(QaR (by omega) (by omega)),⟨⟨trivial,(by have t_:=pIn (xs.getD i.toNat default) (lo) (hi);rw [q1] at t_;exact t_)⟩,hp0⟩⟩ (by kernel_rfl) (by kernel_rfl))).cast (by (rw [Qev (i:=i)];(· simp_all);(· omega);(· omega)))
    | false=>
      exact (GoE.endsT okF hJ Qab hg0 (Qx9 B xs lo hi i dJ0)
       ⟨⟨trivial,(by have t_:=pIn (xs.getD i.toNat default) (lo) (hi);rw [q1] at t_;exact t_)⟩,hp0⟩).cast (by (rw [Qev (i:=i)];(· simp_all);(· omega);(· omega)))
   ·exact (GoE.endsT okF hJ Qab hg0 (Qy4 B xs lo hi i dJ0)
     ⟨(Qbj (Int.not_lt.1 q0)),trivial⟩).cast (by (rw [Qdy (i:=i)];(· simp_all);(· omega)))
set_option maxHeartbeats 4000000 in
theorem Q22 (xs:List Int) (lo hi:Int)  (hfacts:xs.length<=9223372036854775807) {B:Lo} (hJ:∀w,B.has w->J0 w):EndsT YP B (Qae YP 100 21 (([slI xs,.int .i64 lo,.int .i64 hi]).map (Qal 0 4))) (.bool (xs.all (fun x=> inB x lo hi))):=by
 exact ((Q01 xs lo hi hfacts hJ _) (0) rfl (by omega)
  (GoE.start.landM okF hJ Qab (Qy5 B xs lo hi)
  trivial (by kernel_rfl) (by kernel_rfl))).cast (by rfl)
theorem QuZ (xs:List Int) (lo hi:Int)  :Qai YP J0 100 #[slI xs,.int .i64 lo,.int .i64 hi] (.bool (xs.all (fun x=> inB x lo hi))):=
 Qcv (ts:=[slI xs,.int .i64 lo,.int .i64 hi]) (xs.length<=9223372036854775807) (fun _ _ ht=> ht.ln (i:=0) rfl) Qbn (c0:=Qae YP 100 21 (([slI xs,.int .i64 lo,.int .i64 hi]).map (Qal 0 4))) (by kernel_rfl) (by kernel_rfl) fun hfacts B hJ=> Q22 xs lo hi  hfacts hJ
theorem Qwd (B:Lo) (n a b:Int):QaF (Qah YP (Qau YP) J0 B 6 1 (Qae YP 73 11 (([.int .i64 n,.agg #[.int .i64 a,.int .i64 b]]).map (Qal 0 4))) H00 1
 [(7,Qaf.pure (.bool true) [])] 0 [] []) []=some (.bool true,
 [Qas []/\Qai YP J0 76 #[.int .i64 n,.int .i64 a,.int .i64 b] (.bool true)]):=by kernel_rfl
theorem QwB (B:Lo) (n a b:Int):QaF (Qah YP (Qau YP) J0 B 6 1 (Qae YP 73 11 (([.int .i64 n,.agg #[.int .i64 a,.int .i64 b]]).map (Qal 0 4))) H00 1
 [(7,Qaf.pure (.bool false) [])] 0 [] []) []=some (.bool false,
 [Qas []/\Qai YP J0 76 #[.int .i64 n,.int .i64 a,.int .i64 b] (.bool false)]):=by kernel_rfl
set_option maxHeartbeats 4000000 in
theorem Q0k (n a b:Int)  {B:Lo} (hJ:∀w,B.has w->J0 w):EndsT YP B (Qae YP 73 11 (([.int .i64 n,.agg #[.int .i64 a,.int .i64 b]]).map (Qal 0 4))) (.bool (inB n a b)):=by
 cases q0:inB n a b with
 | true=>
   exact (GoE.endsT okF hJ Qab GoE.start (Qwd B n a b)
    ⟨⟨trivial,(by have t_:=pIn (n) (a) (b);rw [q0] at t_;exact t_)⟩,trivial⟩).cast (by rfl)
 | false=>
   exact (GoE.endsT okF hJ Qab GoE.start (QwB B n a b)
    ⟨⟨trivial,(by have t_:=pIn (n) (a) (b);rw [q0] at t_;exact t_)⟩,trivial⟩).cast (by rfl)
theorem QpI (n a b:Int)  :Qai YP J0 73 #[.int .i64 n,.agg #[.int .i64 a,.int .i64 b]] (.bool (inB n a b)):=
 Qa5 (ts:=[.int .i64 n,.agg #[.int .i64 a,.int .i64 b]]) Qbn (c0:=Qae YP 73 11 (([.int .i64 n,.agg #[.int .i64 a,.int .i64 b]]).map (Qal 0 4))) (by kernel_rfl) (by kernel_rfl) fun B hJ=> Q0k n a b  hJ
def QgG (B:Lo) (a b lo hi:Int):List Prop:=[(!ltq a lo)=true]++([]:List Prop)
def Qkd (a b lo hi:Int):Qan:=[(5,hvT)]
def QgA (B:Lo) (a b lo hi:Int):List Prop:=[(!ltq b a)=true]++QgG B a b lo hi
def Qkp (a b lo hi:Int):Qan:=Qkd a b lo hi++[(11,hvT)]
theorem Qrq (B:Lo) (a b lo hi:Int):QaF (Qah YP (Qau YP) J0 B 6 1 (Qae YP 109 24 (([.agg #[.int .i64 a,.int .i64 b],.int .i64 lo,.int .i64 hi]).map (Qal 0 4))) H00 1
 (Qkp a b lo hi++[(17,hvT)]) 0 [] []) []=some (.bool true,
 [(!ltq hi b)=true]++QgA B a b lo hi):=by kernel_rfl
theorem Qsb (B:Lo) (a b lo hi:Int):QaF (Qah YP (Qau YP) J0 B 6 1 (Qae YP 109 24 (([.agg #[.int .i64 a,.int .i64 b],.int .i64 lo,.int .i64 hi]).map (Qal 0 4))) H00 1
 (Qkp a b lo hi++[(17,hvF)]) 0 [] []) []=some (.bool false,
 [(!ltq hi b)=false]++QgA B a b lo hi):=by kernel_rfl
theorem Qs1 (B:Lo) (a b lo hi:Int):QaF (Qah YP (Qau YP) J0 B 6 1 (Qae YP 109 24 (([.agg #[.int .i64 a,.int .i64 b],.int .i64 lo,.int .i64 hi]).map (Qal 0 4))) H00 1
 (Qkd a b lo hi++[(11,hvF)]) 0 [] []) []=some (.bool false,
 [(!ltq b a)=false]++QgG B a b lo hi):=by kernel_rfl
theorem Qro (B:Lo) (a b lo hi:Int):QaF (Qah YP (Qau YP) J0 B 6 1 (Qae YP 109 24 (([.agg #[.int .i64 a,.int .i64 b],.int .i64 lo,.int .i64 hi]).map (Qal 0 4))) H00 1
 [(5,hvF)] 0 [] []) []=some (.bool false,
 [(!ltq a lo)=false]):=by kernel_rfl
set_option maxHeartbeats 4000000 in
theorem Qt1 (a b lo hi:Int)  {B:Lo} (hJ:∀w,B.has w->J0 w):EndsT YP B (Qae YP 109 24 (([.agg #[.int .i64 a,.int .i64 b],.int .i64 lo,.int .i64 hi]).map (Qal 0 4))) (.bool (Qbw a b lo hi)):=by
 by_cases q0:(lo:Int)<=(a)
 ·have hp0:Qas (QgG B a b lo hi):=by
   exact ⟨(Qcq q0),trivial⟩
  by_cases q1:(a:Int)<=(b)
  ·have hp1:Qas (QgA B a b lo hi):=by
    exact ⟨(Qcq q1),hp0⟩
   by_cases q2:(b:Int)<=(hi)
   ·exact (GoE.endsT okF hJ Qab GoE.start (Qrq B a b lo hi)
     ⟨(Qcq q2),hp1⟩).cast (by (simp [Qbw, *];done))
   ·exact (GoE.endsT okF hJ Qab GoE.start (Qsb B a b lo hi)
     ⟨(Qcn (Int.not_le.1 q2)),hp1⟩).cast (by (simp [Qbw, *];done))
  ·exact (GoE.endsT okF hJ Qab GoE.start (Qs1 B a b lo hi)
    ⟨(Qcn (Int.not_le.1 q1)),hp0⟩).cast (by (simp [Qbw, *];done))
 ·exact (GoE.endsT okF hJ Qab GoE.start (Qro B a b lo hi)
   ⟨(Qcn (Int.not_le.1 q0)),trivial⟩).cast (by (simp [Qbw, *];done))
theorem Qiu (a b lo hi:Int)  :Qai YP J0 109 #[.agg #[.int .i64 a,.int .i64 b],.int .i64 lo,.int .i64 hi] (.bool (Qbw a b lo hi)):=
 Qa5 (ts:=[.agg #[.int .i64 a,.int .i64 b],.int .i64 lo,.int .i64 hi]) Qbn (c0:=Qae YP 109 24 (([.agg #[.int .i64 a,.int .i64 b],.int .i64 lo,.int .i64 hi]).map (Qal 0 4))) (by kernel_rfl) (by kernel_rfl) fun B hJ=> Qt1 a b lo hi  hJ
theorem Qxk (B:Lo) (a b most:Int):QaF (Qah YP (Qau YP) J0 B 6 1 (Qae YP 102 8 (([.agg #[.int .i64 a,.int .i64 b],.int .i64 most]).map (Qal 0 4))) H00 1
 [(4,Qaf.pure (.bool true) [])] 0 [] []) []=some (.bool true,
 [Qas []/\Qai YP J0 109 #[.agg #[.int .i64 a,.int .i64 b],.int .i64 0,.int .i64 most] (.bool true)]):=by kernel_rfl
theorem Qwp (B:Lo) (a b most:Int):QaF (Qah YP (Qau YP) J0 B 6 1 (Qae YP 102 8 (([.agg #[.int .i64 a,.int .i64 b],.int .i64 most]).map (Qal 0 4))) H00 1
 [(4,Qaf.pure (.bool false) [])] 0 [] []) []=some (.bool false,
 [Qas []/\Qai YP J0 109 #[.agg #[.int .i64 a,.int .i64 b],.int .i64 0,.int .i64 most] (.bool false)]):=by kernel_rfl
set_option maxHeartbeats 4000000 in
theorem QyC (a b most:Int)  {B:Lo} (hJ:∀w,B.has w->J0 w):EndsT YP B (Qae YP 102 8 (([.agg #[.int .i64 a,.int .i64 b],.int .i64 most]).map (Qal 0 4))) (.bool (Qbw a b 0 most)):=by
 cases q0:Qbw a b 0 most with
 | true=>
   exact (GoE.endsT okF hJ Qab GoE.start (Qxk B a b most)
    ⟨⟨trivial,(by have t_:=Qiu (a) (b) (0) (most);rw [q0] at t_;exact t_)⟩,trivial⟩).cast (by rfl)
 | false=>
   exact (GoE.endsT okF hJ Qab GoE.start (Qwp B a b most)
    ⟨⟨trivial,(by have t_:=Qiu (a) (b) (0) (most);rw [q0] at t_;exact t_)⟩,trivial⟩).cast (by rfl)
theorem Qpx (a b most:Int)  :Qai YP J0 102 #[.agg #[.int .i64 a,.int .i64 b],.int .i64 most] (.bool (Qbw a b 0 most)):=
 Qa5 (ts:=[.agg #[.int .i64 a,.int .i64 b],.int .i64 most]) Qbn (c0:=Qae YP 102 8 (([.agg #[.int .i64 a,.int .i64 b],.int .i64 most]).map (Qal 0 4))) (by kernel_rfl) (by kernel_rfl) fun B hJ=> QyC a b most  hJ
def Qd7 (xs:List Span) (most:Int) (i:Int):List Value:=[.int .i64 most,Qat 1 (slT xs.length (Qad Qaz xs)),.int .i64 (↑xs.length:Int),.int .i64 i]
def QbN (xs:List Span) (most:Int) (i:Int):List Obj:=[]
def Qd8:List Item:=([.code [1,0,1,0,0],.inLoop [1,0,1,0,0],.inBlock 0,.code [1,1]]).map (it (Qaq YP 101))
def QpR (B:Lo) (c0:CF) (xs:List Span) (most:Int) (i:Int):Prop:=∃dJ:Nat->Value,(∀t,Qbg (dJ t))/\GoE YP B c0 H00 1 (Qa3 101 18 (([1,7,8,9]:List Nat).zip (Qd7 xs most i)) dJ Qd8) (Qa1 (QbN xs most i)) (2+(QbN xs most i).length) []
def Qfs (xs:List Span) (i:Int):Array Value:=#[.int .i64 (Span.lo (xs.getD i.toNat default)),.int .i64 (Span.hi (xs.getD i.toNat default))]
def QgT (B:Lo) (xs:List Span) (most:Int) (i:Int) (dJ0:Nat->Value):List Prop:=[i=(↑i.toNat:Int)/\Int.toNat i < List.length xs/\Array.extract (Qad Qaz xs) (Int.toNat i * TypeInfo.size Tryz.t25) (Int.toNat i * TypeInfo.size Tryz.t25+TypeInfo.size Tryz.t25)=(Qfs xs i),ltq i (↑xs.length:Int)=true]++([]:List Prop)
def Qkm (xs:List Span) (most:Int) (i:Int) (dJ0:Nat->Value):Qan:=[(0,hvT),(1,Qaf.tidx i.toNat (Qfs xs i))]
theorem Qsw (B:Lo) (xs:List Span) (most:Int) (i:Int) (dJ0:Nat->Value):landM (Qah YP (Qau YP) J0 B 16 1 (Qa3 101 18 (([1,7,8,9]:List Nat).zip (Qd7 xs most i)) dJ0 Qd8) (Qa1 (QbN xs most i)) (2+(QbN xs most i).length)
 (Qkm xs most i dJ0++[(7,Qaf.pure (.bool true) []),(9,hvI (i+1))]) 0 [] []) [1,7,8,9] [] []=some ⟨101,18,Qd8,[],.run,none,Qd7 xs most (i+1),QbN xs most (i+1),
 [wq (i+1)=i+1,Qas []/\Qai YP J0 102 #[.agg (Qfs xs i),.int .i64 most] (.bool true)]++QgT B xs most i dJ0⟩:=by kernel_rfl
theorem Qri (B:Lo) (xs:List Span) (most:Int) (i:Int) (dJ0:Nat->Value):QaF (Qah YP (Qau YP) J0 B 16 1 (Qa3 101 18 (([1,7,8,9]:List Nat).zip (Qd7 xs most i)) dJ0 Qd8) (Qa1 (QbN xs most i)) (2+(QbN xs most i).length)
 (Qkm xs most i dJ0++[(7,Qaf.pure (.bool false) [])]) 0 [] []) []=some (.bool false,
 [Qas []/\Qai YP J0 102 #[.agg (Qfs xs i),.int .i64 most] (.bool false)]++QgT B xs most i dJ0):=by kernel_rfl
theorem QrP (B:Lo) (xs:List Span) (most:Int) (i:Int) (dJ0:Nat->Value):QaF (Qah YP (Qau YP) J0 B 9 1 (Qa3 101 18 (([1,7,8,9]:List Nat).zip (Qd7 xs most i)) dJ0 Qd8) (Qa1 (QbN xs most i)) (2+(QbN xs most i).length)
 [(0,hvF)] 0 [] []) []=some (.bool true,
 [ltq i (↑xs.length:Int)=false]):=by kernel_rfl
theorem QqS (B:Lo) (xs:List Span) (most:Int):landM (Qah YP (Qau YP) J0 B 7 1 (Qae YP 101 18 (([Qol xs,.int .i64 most]).map (Qal 0 4))) H00 1
 [] 0 [] []) [1,7,8,9] [] []=some ⟨101,18,Qd8,[],.run,none,Qd7 xs most (0),QbN xs most (0),
 []⟩:=by kernel_rfl
set_option maxHeartbeats 4000000 in
theorem Qqz (xs:List Span) (most:Int)  (hfacts:xs.length<=9223372036854775807) {B:Lo} (hJ:∀w,B.has w->J0 w) {c0:CF}:∀m:Nat,(∀(i:Int),xs.length - i.toNat=m->∀(h0:0<=i),QpR B c0 xs most i->EndsT YP B c0 (.bool ((xs.drop i.toNat).all (fun s=> Qbw s.lo s.hi 0 most)))):=by
 intro m0;induction m0 using Nat.strongRecOn with
 | _ m0 ih0=>
   intro i hm0 h0 ⟨dJ0,hdJ0,hg0⟩;by_cases q0:(i:Int) < ((↑xs.length:Int))
   ·have hp0:Qas (QgT B xs most i dJ0):=by
     exact ⟨⟨by omega,by omega,(Qao (z:=2) (fun _=> rfl) (by omega))⟩,⟨(Qbq q0),trivial⟩⟩
    cases q1:Qbw (Span.lo (xs.getD i.toNat default)) (Span.hi (xs.getD i.toNat default)) 0 most with
    | true=>
      exact ((ih0 _ (by omega)) (i+1) rfl (by omega)
       (hg0.landM okF hJ Qab (Qsw B xs most i dJ0)
       ⟨(QaR (by omega) (by omega)),⟨⟨trivial,(by have t_:=Qpx (Span.lo (xs.getD i.toNat default)) (Span.hi (xs.getD i.toNat default)) (most);rw [q1] at t_;exact t_)⟩,hp0⟩⟩ (by kernel_rfl) (by kernel_rfl))).cast (by (rw [Qev (i:=i)];(· simp_all);(· omega);(· omega)))
    | false=>
      exact (GoE.endsT okF hJ Qab hg0 (Qri B xs most i dJ0)
       ⟨⟨trivial,(by have t_:=Qpx (Span.lo (xs.getD i.toNat default)) (Span.hi (xs.getD i.toNat default)) (most);rw [q1] at t_;exact t_)⟩,hp0⟩).cast (by (rw [Qev (i:=i)];(· simp_all);(· omega);(· omega)))
   ·exact (GoE.endsT okF hJ Qab hg0 (QrP B xs most i dJ0)
     ⟨(Qbj (Int.not_lt.1 q0)),trivial⟩).cast (by (rw [Qdy (i:=i)];(· simp_all);(· omega)))
set_option maxHeartbeats 4000000 in
theorem Qti (xs:List Span) (most:Int)  (hfacts:xs.length<=9223372036854775807) {B:Lo} (hJ:∀w,B.has w->J0 w):EndsT YP B (Qae YP 101 18 (([Qol xs,.int .i64 most]).map (Qal 0 4))) (.bool (xs.all (fun s=> Qbw s.lo s.hi 0 most))):=by
 exact ((Qqz xs most hfacts hJ _) (0) rfl (by omega)
  (GoE.start.landM okF hJ Qab (QqS B xs most)
  trivial (by kernel_rfl) (by kernel_rfl))).cast (by rfl)
theorem QfE (xs:List Span) (most:Int)  :Qai YP J0 101 #[Qol xs,.int .i64 most] (.bool (xs.all (fun s=> Qbw s.lo s.hi 0 most))):=
 Qcv (ts:=[Qol xs,.int .i64 most]) (xs.length<=9223372036854775807) (fun _ _ ht=> ht.ln (i:=0) rfl) Qbn (c0:=Qae YP 101 18 (([Qol xs,.int .i64 most]).map (Qal 0 4))) (by kernel_rfl) (by kernel_rfl) fun hfacts B hJ=> Qti xs most  hfacts hJ
def Qka (B:Lo) (p:Qac):List Prop:=[Qas []/\Qai YP J0 76 #[.int .i64 (↑p.tides.length:Int),.int .i64 1,.int .i64 50] (.bool true)]++([]:List Prop)
def QnQ (p:Qac):Qan:=[(5,Qaf.pure (.bool true) [])]
def Qj4 (B:Lo) (p:Qac):List Prop:=[Qas []/\Qai YP J0 100 #[slT p.tides.length (Qad Qav p.tides),.int .i64 (-1000),.int .i64 1000] (.bool true)]++Qka B p
def Qoa (p:Qac):Qan:=QnQ p++[(9,Qaf.pure (.bool true) [])]
def Qji (B:Lo) (p:Qac):List Prop:=[Qas []/\Qai YP J0 76 #[.int .i64 p.depth,.int .i64 0,.int .i64 1000] (.bool true)]++Qj4 B p
def Qod (p:Qac):Qan:=Qoa p++[(14,Qaf.pure (.bool true) [])]
def QjU (B:Lo) (p:Qac):List Prop:=[Qas []/\Qai YP J0 76 #[.int .i64 p.draft,.int .i64 0,.int .i64 1000] (.bool true)]++Qji B p
def QnZ (p:Qac):Qan:=Qod p++[(19,Qaf.pure (.bool true) [])]
def Qj6 (B:Lo) (p:Qac):List Prop:=[Qas []/\Qai YP J0 76 #[.int .i64 (↑p.swell.length:Int),.int .i64 1,.int .i64 60] (.bool true)]++QjU B p
def QnY (p:Qac):Qan:=QnZ p++[(25,Qaf.pure (.bool true) [])]
def QjE (B:Lo) (p:Qac):List Prop:=[Qas []/\Qai YP J0 101 #[slT p.swell.length (Qad Qaz p.swell),.int .i64 1000] (.bool true)]++Qj6 B p
def QnK (p:Qac):Qan:=QnY p++[(30,Qaf.pure (.bool true) [])]
theorem Qwx (B:Lo) (p:Qac):QaF (Qah YP (Qau YP) J0 B 6 1 (Qae YP 60 38 (([.agg (Qa2 p).toArray]).map (Qal 0 4))) H00 1
 (QnK p++[(35,Qaf.pure (.bool true) [])]) 0 [] []) []=some (.bool true,
 [Qas []/\Qai YP J0 102 #[.agg #[.int .i64 p.llo,.int .i64 p.lhi],.int .i64 23] (.bool true)]++QjE B p):=by kernel_rfl
theorem Qwa (B:Lo) (p:Qac):QaF (Qah YP (Qau YP) J0 B 6 1 (Qae YP 60 38 (([.agg (Qa2 p).toArray]).map (Qal 0 4))) H00 1
 (QnK p++[(35,Qaf.pure (.bool false) [])]) 0 [] []) []=some (.bool false,
 [Qas []/\Qai YP J0 102 #[.agg #[.int .i64 p.llo,.int .i64 p.lhi],.int .i64 23] (.bool false)]++QjE B p):=by kernel_rfl
theorem Qvl (B:Lo) (p:Qac):QaF (Qah YP (Qau YP) J0 B 6 1 (Qae YP 60 38 (([.agg (Qa2 p).toArray]).map (Qal 0 4))) H00 1
 (QnY p++[(30,Qaf.pure (.bool false) [])]) 0 [] []) []=some (.bool false,
 [Qas []/\Qai YP J0 101 #[slT p.swell.length (Qad Qaz p.swell),.int .i64 1000] (.bool false)]++Qj6 B p):=by kernel_rfl
theorem Qvq (B:Lo) (p:Qac):QaF (Qah YP (Qau YP) J0 B 6 1 (Qae YP 60 38 (([.agg (Qa2 p).toArray]).map (Qal 0 4))) H00 1
 (QnZ p++[(25,Qaf.pure (.bool false) [])]) 0 [] []) []=some (.bool false,
 [Qas []/\Qai YP J0 76 #[.int .i64 (↑p.swell.length:Int),.int .i64 1,.int .i64 60] (.bool false)]++QjU B p):=by kernel_rfl
theorem QvX (B:Lo) (p:Qac):QaF (Qah YP (Qau YP) J0 B 6 1 (Qae YP 60 38 (([.agg (Qa2 p).toArray]).map (Qal 0 4))) H00 1
 (Qod p++[(19,Qaf.pure (.bool false) [])]) 0 [] []) []=some (.bool false,
 [Qas []/\Qai YP J0 76 #[.int .i64 p.draft,.int .i64 0,.int .i64 1000] (.bool false)]++Qji B p):=by kernel_rfl
theorem Qvp (B:Lo) (p:Qac):QaF (Qah YP (Qau YP) J0 B 6 1 (Qae YP 60 38 (([.agg (Qa2 p).toArray]).map (Qal 0 4))) H00 1
 (Qoa p++[(14,Qaf.pure (.bool false) [])]) 0 [] []) []=some (.bool false,
 [Qas []/\Qai YP J0 76 #[.int .i64 p.depth,.int .i64 0,.int .i64 1000] (.bool false)]++Qj4 B p):=by kernel_rfl
theorem Qwb (B:Lo) (p:Qac):QaF (Qah YP (Qau YP) J0 B 6 1 (Qae YP 60 38 (([.agg (Qa2 p).toArray]).map (Qal 0 4))) H00 1
 (QnQ p++[(9,Qaf.pure (.bool false) [])]) 0 [] []) []=some (.bool false,
 [Qas []/\Qai YP J0 100 #[slT p.tides.length (Qad Qav p.tides),.int .i64 (-1000),.int .i64 1000] (.bool false)]++Qka B p):=by kernel_rfl
theorem Qxw (B:Lo) (p:Qac):QaF (Qah YP (Qau YP) J0 B 6 1 (Qae YP 60 38 (([.agg (Qa2 p).toArray]).map (Qal 0 4))) H00 1
 [(5,Qaf.pure (.bool false) [])] 0 [] []) []=some (.bool false,
 [Qas []/\Qai YP J0 76 #[.int .i64 (↑p.tides.length:Int),.int .i64 1,.int .i64 50] (.bool false)]):=by kernel_rfl
set_option maxHeartbeats 4000000 in
theorem Q1Y (p:Qac)  {B:Lo} (hJ:∀w,B.has w->J0 w):EndsT YP B (Qae YP 60 38 (([.agg (Qa2 p).toArray]).map (Qal 0 4))) (.bool (QaB p)):=by
 cases q0:inB (↑p.tides.length:Int) 1 50 with
 | true=>
   have hp0:Qas (Qka B p):=by
    exact ⟨⟨trivial,(by have t_:=pIn ((↑p.tides.length:Int)) (1) (50);rw [q0] at t_;exact t_)⟩,trivial⟩
   cases q1:List.all p.tides fun x=> inB x (-1000) 1000 with
   | true=>
     have hp1:Qas (Qj4 B p):=by
      exact ⟨⟨trivial,(by have t_:=QuZ p.tides (-1000) (1000);rw [q1] at t_;exact t_)⟩,hp0⟩
     cases q2:inB p.depth 0 1000 with
     | true=>
       have hp2:Qas (Qji B p):=by
        exact ⟨⟨trivial,(by have t_:=pIn p.depth (0) (1000);rw [q2] at t_;exact t_)⟩,hp1⟩
       cases q3:inB p.draft 0 1000 with
       | true=>
         have hp3:Qas (QjU B p):=by
          exact ⟨⟨trivial,(by have t_:=pIn p.draft (0) (1000);rw [q3] at t_;exact t_)⟩,hp2⟩
         cases q4:inB (↑p.swell.length:Int) 1 60 with
         | true=>
           have hp4:Qas (Qj6 B p):=by
            exact ⟨⟨trivial,(by have t_:=pIn ((↑p.swell.length:Int)) (1) (60);rw [q4] at t_;exact t_)⟩,hp3⟩
           cases q5:List.all p.swell fun s=> Qbw s.lo s.hi 0 1000 with
           | true=>
             have hp5:Qas (QjE B p):=by
              exact ⟨⟨trivial,(by have t_:=QfE p.swell (1000);rw [q5] at t_;exact t_)⟩,hp4⟩
             cases q6:Qbw p.llo p.lhi 0 23 with
             | true=>
               exact (GoE.endsT okF hJ Qab GoE.start (Qwx B p)
                ⟨⟨trivial,(by have t_:=Qpx p.llo p.lhi (23);rw [q6] at t_;exact t_)⟩,hp5⟩).cast (by (simp [QaB,Qh3,Qfh, *];done))
             | false=>
               exact (GoE.endsT okF hJ Qab GoE.start (Qwa B p)
                ⟨⟨trivial,(by have t_:=Qpx p.llo p.lhi (23);rw [q6] at t_;exact t_)⟩,hp5⟩).cast (by (simp [QaB,Qh3,Qfh, *];done))
           | false=>
             exact (GoE.endsT okF hJ Qab GoE.start (Qvl B p)
              ⟨⟨trivial,(by have t_:=QfE p.swell (1000);rw [q5] at t_;exact t_)⟩,hp4⟩).cast (by (simp [QaB,Qh3,Qfh, *];done))
         | false=>
           exact (GoE.endsT okF hJ Qab GoE.start (Qvq B p)
            ⟨⟨trivial,(by have t_:=pIn ((↑p.swell.length:Int)) (1) (60);rw [q4] at t_;exact t_)⟩,hp3⟩).cast (by (simp [QaB,Qh3,Qfh, *];done))
       | false=>
         exact (GoE.endsT okF hJ Qab GoE.start (QvX B p)
          ⟨⟨trivial,(by have t_:=pIn p.draft (0) (1000);rw [q3] at t_;exact t_)⟩,hp2⟩).cast (by (simp [QaB,Qh3,Qfh, *];done))
     | false=>
       exact (GoE.endsT okF hJ Qab GoE.start (Qvp B p)
        ⟨⟨trivial,(by have t_:=pIn p.depth (0) (1000);rw [q2] at t_;exact t_)⟩,hp1⟩).cast (by (simp [QaB,Qh3,Qfh, *];done))
   | false=>
     exact (GoE.endsT okF hJ Qab GoE.start (Qwb B p)
      ⟨⟨trivial,(by have t_:=QuZ p.tides (-1000) (1000);rw [q1] at t_;exact t_)⟩,hp0⟩).cast (by (simp [QaB,Qh3,Qfh, *];done))
 | false=>
   exact (GoE.endsT okF hJ Qab GoE.start (Qxw B p)
    ⟨⟨trivial,(by have t_:=pIn ((↑p.tides.length:Int)) (1) (50);rw [q0] at t_;exact t_)⟩,trivial⟩).cast (by (simp [QaB,Qh3,Qfh, *];done))
theorem Qy6 (p:Qac)  :Qai YP J0 60 #[.agg (Qa2 p).toArray] (.bool (QaB p)):=
 Qa5 (ts:=[.agg (Qa2 p).toArray]) Qbn (c0:=Qae YP 60 38 (([.agg (Qa2 p).toArray]).map (Qal 0 4))) (by kernel_rfl) (by kernel_rfl) fun B hJ=> Q1Y p  hJ
def Qnp (B:Lo) (p:Qac) (day:Int):List Prop:=[wq ((↑p.swell.length:Int) - 1)=(↑p.swell.length:Int) - 1]++([]:List Prop)
def QrE (p:Qac) (day:Int):Qan:=[(6,hvI ((↑p.swell.length:Int) - 1))]
theorem Q18 (B:Lo) (p:Qac) (day:Int):QaF (Qah YP (Qau YP) J0 B 6 1 (Qae YP 61 11 (([.agg (Qa2 p).toArray,.int .i64 day]).map (Qal 0 4))) H00 1
 (QrE p day++[(7,Qaf.pure (.bool true) [])]) 0 [] []) []=some (.bool true,
 [Qas []/\Qai YP J0 76 #[.int .i64 day,.int .i64 0,.int .i64 ((↑p.swell.length:Int) - 1)] (.bool true)]++Qnp B p day):=by kernel_rfl
theorem Q1C (B:Lo) (p:Qac) (day:Int):QaF (Qah YP (Qau YP) J0 B 6 1 (Qae YP 61 11 (([.agg (Qa2 p).toArray,.int .i64 day]).map (Qal 0 4))) H00 1
 (QrE p day++[(7,Qaf.pure (.bool false) [])]) 0 [] []) []=some (.bool false,
 [Qas []/\Qai YP J0 76 #[.int .i64 day,.int .i64 0,.int .i64 ((↑p.swell.length:Int) - 1)] (.bool false)]++Qnp B p day):=by kernel_rfl
set_option maxHeartbeats 4000000 in
theorem Q24 (p:Qac) (day:Int)  (hfacts:p.swell.length<=9223372036854775807) {B:Lo} (hJ:∀w,B.has w->J0 w):EndsT YP B (Qae YP 61 11 (([.agg (Qa2 p).toArray,.int .i64 day]).map (Qal 0 4))) (.bool (inB day 0 (p.swell.length - 1))):=by
 have hp0:Qas (Qnp B p day):=by
  exact ⟨(QaR (by omega) (by omega)),trivial⟩
 cases q0:inB day 0 ((↑p.swell.length:Int) - 1) with
 | true=>
   exact (GoE.endsT okF hJ Qab GoE.start (Q18 B p day)
    ⟨⟨trivial,(by have t_:=pIn (day) (0) ((↑p.swell.length:Int) - 1);rw [q0] at t_;exact t_)⟩,hp0⟩).cast (by rfl)
 | false=>
   exact (GoE.endsT okF hJ Qab GoE.start (Q1C B p day)
    ⟨⟨trivial,(by have t_:=pIn (day) (0) ((↑p.swell.length:Int) - 1);rw [q0] at t_;exact t_)⟩,hp0⟩).cast (by rfl)
theorem Q4w (p:Qac) (day:Int)  :Qai YP J0 61 #[.agg (Qa2 p).toArray,.int .i64 day] (.bool (inB day 0 (p.swell.length - 1))):=
 Qcv (ts:=[.agg (Qa2 p).toArray,.int .i64 day]) (p.swell.length<=9223372036854775807) (fun _ _ ht=> ht.ln2 (i:=0) (j:=3) rfl rfl) Qbn (c0:=Qae YP 61 11 (([.agg (Qa2 p).toArray,.int .i64 day]).map (Qal 0 4))) (by kernel_rfl) (by kernel_rfl) fun hfacts B hJ=> Q24 p day  hfacts hJ
def Qs9 (B:Lo) (p:Qac) (day:Int):List Prop:=[wq ((↑p.swell.length:Int) - 1)=(↑p.swell.length:Int) - 1]++([]:List Prop)
def Q1X (p:Qac) (day:Int):Qan:=[(6,hvI ((↑p.swell.length:Int) - 1))]
theorem Q6a (B:Lo) (p:Qac) (day:Int):QaF (Qah YP (Qau YP) J0 B 6 1 (Qae YP 22 11 (([.agg (Qa2 p).toArray,.int .i64 day]).map (Qal 0 4))) H00 1
 (Q1X p day++[(7,Qaf.pure (.bool true) [])]) 0 [] []) []=some (.bool true,
 [Qas []/\Qai YP J0 69 #[.int .i64 day,.int .i64 0,.int .i64 ((↑p.swell.length:Int) - 1)] (.bool true)]++Qs9 B p day):=by kernel_rfl
theorem Q5G (B:Lo) (p:Qac) (day:Int):QaF (Qah YP (Qau YP) J0 B 6 1 (Qae YP 22 11 (([.agg (Qa2 p).toArray,.int .i64 day]).map (Qal 0 4))) H00 1
 (Q1X p day++[(7,Qaf.pure (.bool false) [])]) 0 [] []) []=some (.bool false,
 [Qas []/\Qai YP J0 69 #[.int .i64 day,.int .i64 0,.int .i64 ((↑p.swell.length:Int) - 1)] (.bool false)]++Qs9 B p day):=by kernel_rfl
set_option maxHeartbeats 4000000 in
theorem Q6R (p:Qac) (day:Int)  (hfacts:p.swell.length<=9223372036854775807) {B:Lo} (hJ:∀w,B.has w->J0 w):EndsT YP B (Qae YP 22 11 (([.agg (Qa2 p).toArray,.int .i64 day]).map (Qal 0 4))) (.bool (inB day 0 (p.swell.length - 1))):=by
 have hp0:Qas (Qs9 B p day):=by
  exact ⟨(QaR (by omega) (by omega)),trivial⟩
 cases q0:inB day 0 ((↑p.swell.length:Int) - 1) with
 | true=>
   exact (GoE.endsT okF hJ Qab GoE.start (Q6a B p day)
    ⟨⟨trivial,(by have t_:=rin (day) (0) ((↑p.swell.length:Int) - 1);rw [q0] at t_;exact t_)⟩,hp0⟩).cast (by rfl)
 | false=>
   exact (GoE.endsT okF hJ Qab GoE.start (Q5G B p day)
    ⟨⟨trivial,(by have t_:=rin (day) (0) ((↑p.swell.length:Int) - 1);rw [q0] at t_;exact t_)⟩,hp0⟩).cast (by rfl)
theorem Q8o (p:Qac) (day:Int)  :Qai YP J0 22 #[.agg (Qa2 p).toArray,.int .i64 day] (.bool (inB day 0 (p.swell.length - 1))):=
 Qcv (ts:=[.agg (Qa2 p).toArray,.int .i64 day]) (p.swell.length<=9223372036854775807) (fun _ _ ht=> ht.ln2 (i:=0) (j:=3) rfl rfl) Qbn (c0:=Qae YP 22 11 (([.agg (Qa2 p).toArray,.int .i64 day]).map (Qal 0 4))) (by kernel_rfl) (by kernel_rfl) fun hfacts B hJ=> Q6R p day  hfacts hJ
def QpE (B:Lo) (p:Qac):List Prop:=[(!ltq 60 (↑p.tides.length:Int))=true]++([]:List Prop)
def QuC (p:Qac):Qan:=[(5,hvT)]
theorem Q2e (B:Lo) (p:Qac):QaF (Qah YP (Qau YP) J0 B 6 1 (Qae YP 16 13 (([.agg (Qa2 p).toArray]).map (Qal 0 4))) H00 1
 (QuC p++[(10,hvT)]) 0 [] []) []=some (.bool true,
 [(!ltq 70 (↑p.swell.length:Int))=true]++QpE B p):=by kernel_rfl
theorem Q2g (B:Lo) (p:Qac):QaF (Qah YP (Qau YP) J0 B 6 1 (Qae YP 16 13 (([.agg (Qa2 p).toArray]).map (Qal 0 4))) H00 1
 (QuC p++[(10,hvF)]) 0 [] []) []=some (.bool false,
 [(!ltq 70 (↑p.swell.length:Int))=false]++QpE B p):=by kernel_rfl
theorem Q30 (B:Lo) (p:Qac):QaF (Qah YP (Qau YP) J0 B 6 1 (Qae YP 16 13 (([.agg (Qa2 p).toArray]).map (Qal 0 4))) H00 1
 [(5,hvF)] 0 [] []) []=some (.bool false,
 [(!ltq 60 (↑p.tides.length:Int))=false]):=by kernel_rfl
set_option maxHeartbeats 4000000 in
theorem Q4Q (p:Qac)  {B:Lo} (hJ:∀w,B.has w->J0 w):EndsT YP B (Qae YP 16 13 (([.agg (Qa2 p).toArray]).map (Qal 0 4))) (.bool (decide (p.tides.length<=60) && decide (p.swell.length<=70))):=by
 by_cases q0:((↑p.tides.length:Int):Int)<=(60)
 ·have hp0:Qas (QpE B p):=by
   exact ⟨(Qcq q0),trivial⟩
  by_cases q1:((↑p.swell.length:Int):Int)<=(70)
  ·exact (GoE.endsT okF hJ Qab GoE.start (Q2e B p)
    ⟨(Qcq q1),hp0⟩).cast (by (simp_all [];omega))
  ·exact (GoE.endsT okF hJ Qab GoE.start (Q2g B p)
    ⟨(Qcn (Int.not_le.1 q1)),hp0⟩).cast (by (simp_all [];omega))
 ·exact (GoE.endsT okF hJ Qab GoE.start (Q30 B p)
   ⟨(Qcn (Int.not_le.1 q0)),trivial⟩).cast (by (simp_all [];omega))
theorem Q5O (p:Qac)  :Qai YP J0 16 #[.agg (Qa2 p).toArray] (.bool (decide (p.tides.length<=60) && decide (p.swell.length<=70))):=
 Qa5 (ts:=[.agg (Qa2 p).toArray]) Qbn (c0:=Qae YP 16 13 (([.agg (Qa2 p).toArray]).map (Qal 0 4))) (by kernel_rfl) (by kernel_rfl) fun B hJ=> Q4Q p  hJ
end
end Go.Proofs.YtiabgkiccaodmaaGreat

namespace Go.Proofs.YtiabgkiccaodmaaGreat
open Go Go.CE Go.RowKit
set_option maxRecDepth 100000
theorem Qa4 {x lo hi:Int}:inB x lo hi=true<->lo<=x/\x<=hi:=by simp [inB]
theorem Q2m {x lo hi:Int} (q:inB x lo hi=false):¬(lo<=x/\x<=hi):=fun h=> by rw [Qa4.2 h] at q;cases q
theorem QiO {a b lo hi:Int}:Qbw a b lo hi=true<->lo<=a/\a<=b/\b<=hi:=by simp [Qbw]
theorem Qa8 {p:Qac} (h:QaB p=true):(1<=p.tides.length/\p.tides.length<=50)/\(0<=p.depth/\p.depth<=1000)/\(0<=p.draft/\p.draft<=1000)/\(1<=p.swell.length/\p.swell.length<=60)/\0<=p.llo/\p.llo<=p.lhi/\p.lhi<=23:=by
 simp only [QaB,Qh3,Qfh,YB,Qa4,QiO] at h;omega
theorem QyI {p:Qac} (h:QaB p=true) {k:Nat} (hk:k < p.tides.length): -1000<=p.tides.getD k default/\p.tides.getD k default<=1000:=by
 simp only [QaB,YB,List.all_eq_true] at h;have:=h.1 _ (List.getElem_mem hk);simp only [Qa4] at this;simpa [hk] using this
theorem QaS {p:Qac} (h:QaB p=true) {k:Nat} (hk:k < p.swell.length):0<=(p.swell.getD k default).lo/\(p.swell.getD k default).lo<=(p.swell.getD k default).hi/\(p.swell.getD k default).hi<=1000:=by
 simp only [QaB,Qh3,YB,List.all_eq_true] at h;have:=h.2.1 _ (List.getElem_mem hk);simp only [QiO] at this;simpa [hk] using this
def QfM (p:Qac) (d h:Int):Nat:=(Int.tmod (d * 24+h) p.tides.length).toNat
theorem QuA {p:Qac} (hp:QaB p=true) {d h:Int} (hd:0<=d) (hh:0<=h):0<=Int.tmod (d * 24+h) p.tides.length/\Int.tmod (d * 24+h) p.tides.length < p.tides.length/\QfM p d h < p.tides.length:=by
 have:=Qa8 hp;have h1:0<=Int.tmod (d * 24+h) p.tides.length:=Int.tmod_nonneg _ (by omega);have h2:Int.tmod (d * 24+h) p.tides.length < p.tides.length:=Int.tmod_lt_of_pos _ (by omega);refine ⟨h1,h2, ?_⟩;unfold QfM;omega
def QdB (p:Qac) (d h s:Int):Bool:=inB h p.llo p.lhi && decide (p.draft<=p.depth+p.tides.getD (QfM p d h) default - s)
def QbK (p:Qac) (d:Int) (surely:Bool):Int:=bif surely then (p.swell.getD d.toNat default).hi else (p.swell.getD d.toNat default).lo
def Qa9 (p:Qac) (d:Int) (surely:Bool) (h:Int):List Int:=(upI h 24).filter fun h=> QdB p d h (QbK p d surely)
theorem Qdg {p:Qac} {d h:Int} {s:Bool} (hl:h < 24):Qa9 p d s h=if QdB p d h (QbK p d s)=true then h::Qa9 p d s (h+1) else Qa9 p d s (h+1):=by
 unfold Qa9;rw [Qfy hl,List.filter_cons]
theorem Qhm {p:Qac} {d h:Int} {s:Bool} (hl:24<=h):Qa9 p d s h=[]:=by
 unfold Qa9;rw [QjT hl];rfl
end Go.Proofs.YtiabgkiccaodmaaGreat

namespace Go.Proofs.YtiabgkiccaodmaaGreat
open Go Go.CE Go.RowKit
set_option maxRecDepth 100000
def Qjw (xs:List Int) (x:Int) (i:Int):List Value:=[Qat 1 (slT xs.length (Qad Qav xs)),.int .i64 x,.int .i64 i]
def Qf1 (xs:List Int) (x:Int) (i:Int):List Obj:=[]
noncomputable def Qjr:List Item:=([.code [1,0,1,0,0],.inLoop [1,0,1,0,0],.inBlock 0,.code [1,1]]).map (it (Qaq YP 28))
def Q4E (B:Lo) (c0:CF) (xs:List Int) (x:Int) (i:Int):Prop:=∃dJ:Nat->Value,(∀t,Qbg (dJ t))/\GoE YP B c0 H00 1 (Qa3 28 18 (([0,1,5]:List Nat).zip (Qjw xs x i)) dJ Qjr) (Qa1 (Qf1 xs x i)) (2+(Qf1 xs x i).length) []
noncomputable def QsM (B:Lo) (xs:List Int) (x:Int) (i:Int) (dJ0:Nat->Value):List Prop:=[i=(↑i.toNat:Int)/\Int.toNat i < List.length xs/\Array.extract (Qad Qav xs) (Int.toNat i * TypeInfo.size Tryz.t3) (Int.toNat i * TypeInfo.size Tryz.t3+TypeInfo.size Tryz.t3)=#[.int .i64 (xs.getD i.toNat default)],ltq i (↑xs.length:Int)=true]++([]:List Prop)
noncomputable def QyJ (xs:List Int) (x:Int) (i:Int) (dJ0:Nat->Value):Qan:=[(3,hvT),(6,Qaf.tidx i.toNat #[.int .i64 (xs.getD i.toNat default)])]
theorem Q5q (B:Lo) (xs:List Int) (x:Int) (i:Int) (dJ0:Nat->Value):QaF (Qah YP (Qau YP) J0 B 14 1 (Qa3 28 18 (([0,1,5]:List Nat).zip (Qjw xs x i)) dJ0 Qjr) (Qa1 (Qf1 xs x i)) (2+(Qf1 xs x i).length)
 (QyJ xs x i dJ0++[(9,hvT)]) 0 [] []) []=some (.bool true,
 [eqq (xs.getD i.toNat default) x=true]++QsM B xs x i dJ0):=by kernel_rfl
theorem Q5P (B:Lo) (xs:List Int) (x:Int) (i:Int) (dJ0:Nat->Value):landM (Qah YP (Qau YP) J0 B 14 1 (Qa3 28 18 (([0,1,5]:List Nat).zip (Qjw xs x i)) dJ0 Qjr) (Qa1 (Qf1 xs x i)) (2+(Qf1 xs x i).length)
 (QyJ xs x i dJ0++[(9,hvF),(11,hvI (i+1))]) 0 [] []) [0,1,5] [] []=some ⟨28,18,Qjr,[],.run,none,Qjw xs x (i+1),Qf1 xs x (i+1),
 [wq (i+1)=i+1,eqq (xs.getD i.toNat default) x=false]++QsM B xs x i dJ0⟩:=by kernel_rfl
theorem Q5M (B:Lo) (xs:List Int) (x:Int) (i:Int) (dJ0:Nat->Value):QaF (Qah YP (Qau YP) J0 B 9 1 (Qa3 28 18 (([0,1,5]:List Nat).zip (Qjw xs x i)) dJ0 Qjr) (Qa1 (Qf1 xs x i)) (2+(Qf1 xs x i).length)
 [(3,hvF)] 0 [] []) []=some (.bool false,
 [ltq i (↑xs.length:Int)=false]):=by kernel_rfl
theorem Q4F (B:Lo) (xs:List Int) (x:Int):landM (Qah YP (Qau YP) J0 B 7 1 (Qae YP 28 18 (([slI xs,.int .i64 x]).map (Qal 0 4))) H00 1
 [] 0 [] []) [0,1,5] [] []=some ⟨28,18,Qjr,[],.run,none,Qjw xs x (0),Qf1 xs x (0),
 []⟩:=by kernel_rfl
set_option maxHeartbeats 4000000 in
theorem Q5a (xs:List Int) (x:Int)  (hfacts:xs.length<=9223372036854775807) {B:Lo} (hJ:∀w,B.has w->J0 w) {c0:CF}:∀m:Nat,(∀(i:Int),xs.length - i.toNat=m->∀(h0:0<=i),Q4E B c0 xs x i->EndsT YP B c0 (.bool ((xs.drop i.toNat).any (fun y=> decide (y=x))))):=by
 intro m0;induction m0 using Nat.strongRecOn with
 | _ m0 ih0=>
   intro i hm0 h0 ⟨dJ0,hdJ0,hg0⟩;by_cases q0:(i:Int) < ((↑xs.length:Int))
   ·have hp0:Qas (QsM B xs x i dJ0):=by
     exact ⟨⟨by omega,by omega,(Qao (z:=1) (fun _=> rfl) (by omega))⟩,⟨(Qbq q0),trivial⟩⟩
    by_cases q1:(xs.getD i.toNat default:Int)=(x)
    ·exact (GoE.endsT okF hJ Qab hg0 (Q5q B xs x i dJ0)
      ⟨(Qvr q1),hp0⟩).cast (by (rw [QtY (i:=i) (by omega) (by omega)];simp_all;done))
    ·exact ((ih0 _ (by omega)) (i+1) rfl (by omega)
      (hg0.landM okF hJ Qab (Q5P B xs x i dJ0)
      ⟨(QaR (by omega) (by omega)),⟨(Qw1 q1),hp0⟩⟩ (by kernel_rfl) (by kernel_rfl))).cast (by (rw [QtY (i:=i) (by omega) (by omega)];simp_all;done))
   ·exact (GoE.endsT okF hJ Qab hg0 (Q5M B xs x i dJ0)
     ⟨(Qbj (Int.not_lt.1 q0)),trivial⟩).cast (by (rw [Qdy (i:=i) (by omega)];simp;done))
set_option maxHeartbeats 4000000 in
theorem Q7e (xs:List Int) (x:Int)  (hfacts:xs.length<=9223372036854775807) {B:Lo} (hJ:∀w,B.has w->J0 w):EndsT YP B (Qae YP 28 18 (([slI xs,.int .i64 x]).map (Qal 0 4))) (.bool (xs.any (fun y=> decide (y=x)))):=by
 exact ((Q5a xs x hfacts hJ _) (0) rfl (by omega)
  (GoE.start.landM okF hJ Qab (Q4F B xs x)
  trivial (by kernel_rfl) (by kernel_rfl))).cast (by rfl)
theorem Q82 (xs:List Int) (x:Int)  :Qai YP J0 28 #[slI xs,.int .i64 x] (.bool (xs.any (fun y=> decide (y=x)))):=
 Qcv (ts:=[slI xs,.int .i64 x]) (xs.length<=9223372036854775807) (fun _ _ ht=> ht.ln (i:=0) rfl) Qbn (c0:=Qae YP 28 18 (([slI xs,.int .i64 x]).map (Qal 0 4))) (by kernel_rfl) (by kernel_rfl) fun hfacts B hJ=> Q7e xs x  hfacts hJ
theorem Q5A (B:Lo) (a b:Int):QaF (Qah YP (Qau YP) J0 B 6 1 (Qae YP 30 5 (([.agg #[.int .i64 a,.int .i64 b]]).map (Qal 0 4))) H00 1
 [(3,Qaf.pure (.bool true) [])] 0 [] []) []=some (.bool true,
 [Qas []/\Qai YP J0 70 #[.agg #[.int .i64 a,.int .i64 b],.int .i64 1,.int .i64 60] (.bool true)]):=by kernel_rfl
theorem Q4P (B:Lo) (a b:Int):QaF (Qah YP (Qau YP) J0 B 6 1 (Qae YP 30 5 (([.agg #[.int .i64 a,.int .i64 b]]).map (Qal 0 4))) H00 1
 [(3,Qaf.pure (.bool false) [])] 0 [] []) []=some (.bool false,
 [Qas []/\Qai YP J0 70 #[.agg #[.int .i64 a,.int .i64 b],.int .i64 1,.int .i64 60] (.bool false)]):=by kernel_rfl
set_option maxHeartbeats 4000000 in
theorem Q6H (a b:Int)  {B:Lo} (hJ:∀w,B.has w->J0 w):EndsT YP B (Qae YP 30 5 (([.agg #[.int .i64 a,.int .i64 b]]).map (Qal 0 4))) (.bool (Qbw a b 1 60)):=by
 cases q0:Qbw a b 1 60 with
 | true=>
   exact (GoE.endsT okF hJ Qab GoE.start (Q5A B a b)
    ⟨⟨trivial,(by have t_:=Qn5 (a) (b) (1) (60);rw [q0] at t_;exact t_)⟩,trivial⟩).cast (by rfl)
 | false=>
   exact (GoE.endsT okF hJ Qab GoE.start (Q4P B a b)
    ⟨⟨trivial,(by have t_:=Qn5 (a) (b) (1) (60);rw [q0] at t_;exact t_)⟩,trivial⟩).cast (by rfl)
theorem Q8q (a b:Int)  :Qai YP J0 30 #[.agg #[.int .i64 a,.int .i64 b]] (.bool (Qbw a b 1 60)):=
 Qa5 (ts:=[.agg #[.int .i64 a,.int .i64 b]]) Qbn (c0:=Qae YP 30 5 (([.agg #[.int .i64 a,.int .i64 b]]).map (Qal 0 4))) (by kernel_rfl) (by kernel_rfl) fun B hJ=> Q6H a b  hJ
abbrev Qcj (d h:Int):Value:=.agg #[.int .i64 d,.int .i64 h]
end Go.Proofs.YtiabgkiccaodmaaGreat

