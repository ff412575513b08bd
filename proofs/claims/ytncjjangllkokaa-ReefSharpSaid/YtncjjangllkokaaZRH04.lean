/- CE: frames. Eighth part: the whole run. -/
import Derived.Test.YtncjjangllkokaaZRH03
set_option linter.all false
open List renaming mem_append_left->Lm,getElem?_cons_zero->Lv,mem_append_right->Lx
open Nat renaming lt_or_ge->LJ
namespace Go.CE
open Go Go.RowKit

theorem MQ{α:Type}{q:Bool}{x:α}{r:Option α}(h:(bif q then some x else none)=r)(hr:r.isSome=true):q=true:=by
 cases q with
 |true=>rfl
 |false=>subst h;cases hr
section
variable {P:Program} {F:FuncId->Bool} {Xr:WZ} {B:Lo} {rec:CF->Qq->Nat->Option Rs} {c:CF} {H:Qq} {n:Nat}
theorem dp(hF:∀g,F g=true->Q1 P g=true)(Vv:jg P B rec){f:Operand}{ps:Array Tmp}{assign body:Code}{k:List Item}{fv:Value}{H1:Qq}{l:Nat}{ds R1 R2:List Nat}{g:FuncId}{args:Array Value}{c1:CF}{s:Rs}(hm:c.mode=.run)(hu:Under H n)
 (ht:c.todo=.code (.rangeFunc f ps assign body)::k) (hfv:Zd c.tmps f=some fv) (ho:Ki c H n ps assign body=some (H1,l,ds,R1)) (hc:Si F H1 fv #[.func (.yield l) #[] #[]]=some (.enter g args,R2)) (he:Wa P g args=some c1) (hs:rec c1 H1 (l+1)=some s):
 Shape H n s.H s.n (R1++R2++s.R) s.W/\∀(S:Nat->Prop) (μ:Mu) (w:World) (fr:Frame) (cs:List Frame) (Z:Bot),Ok B S μ (Qt H) w->B.has w->(∀i,S i->i<n)->P4 μ n s.n->FrR Z μ c fr->(∀i∈R1++R2++s.R,i<n->S i)->
  ∃Zh w' μ' im mark L',Post B S n s.n s.W μ μ' H s.H w w'/\μ' l=some im/\OR2 μ' s.out Zh/\TodoR μ' k L'/\DfR μ' ds mark/\fr.mode=.run/\Ext μ μ'/\TR μ' c.tmps fr.tmps/\
   Steps P (lone fr cs w) (lone (Zh.on {fr with todo:=.inRangeFunc im.Zu::L',defers:=mark++fr.defers}) cs w'):=by
 have hR2:=As hc;subst hR2;rw[List.append_nil];obtain⟨hsh1,hsem⟩:=bQ (P:=P) (B:=B) hu ho;have hfj:=Vv c1 H1 (l+1) s (hu.shape hsh1) hs;have l1:=hsh1.le;have l2:=hfj.shape.le;refine⟨hsh1.trans hfj.shape,fun S μ w fr cs Z QE hB hS hf XJ hR=> ?_⟩;obtain⟨a,b,d⟩:=XJ.running hm;rw[ht]at d;obtain⟨L',e,hL⟩:=d.code;have hf1:P4 μ n (l+1):=fun q x y=>hf q x (by omega)
 obtain⟨mark,w1,μ1,im,hel,QJ,hp,hdf⟩:=hsem S μ w fr QE hB hS hf1 XJ.fn b XJ.round (fun q hq Xp=>hR q (Lm _ hq) Xp);have e1:=hp.mu hf1;obtain⟨nx',VU,hnr⟩:=sy (P:=P) hF hc hp.ok ((so b f fv hfv).mono e1) (args':=#[.func (.yield im.Zu) #[] #[]]) ⟨rfl,fun i v v' h1 h2=>by
  match i,h1,h2 with
  |0,h1,h2=>simp only[List.getElem?_toArray,Lv,YO]at h1 h2;subst h1 h2;exact .yield QJ
  |i+1,h1,h2=>simp at h1⟩ (fun i hi=>by simp at hi)
 cases hnr with
 |enter ha=>
  have hf2:∀q,l+1<=q->q<s.n->μ1 q=none:=fun q x y=>by rw[hp.ext q (by omega)];exact hf q (by omega) y
  obtain⟨Zh,w',μ',Pb,ho2,hends⟩:=hfj.sem _ μ1 w1 _ ({fr with todo:=.inRangeFunc im.Zu::L',defers:=mark++fr.defers}::cs) hp.ok (hB.post QE hp) (fun q hq=>hq.elim (fun e=>by have:=hS q e;omega) (fun e=>e.2)) hf2 (UL he ha) (fun q hq Xp=>by
   rcases LJ q n with h1|h1
   ·exact .inl (hR q (Lx _ hq) h1)
   ·exact .inr ⟨h1,Xp⟩)
  have e2:=Pb.mu hf2;exact⟨Zh,w',μ',im,mark,L',hp.trans Pb,e2 _ _ QJ,ho2,hL.mono (e1.trans e2),hdf.mono e2,a,e1.trans e2,b.mono (e1.trans e2),.head (m5 a e hel VU) (hends.2 _ _ rfl)⟩
theorem uk(hF:∀g,F g=true->Q1 P g=true)(Vv:jg P B rec){f:Operand}{ps:Array Tmp}{assign body:Code}{k:List Item}{fv v:Value}{H1:Qq}{l:Nat}{ds R1 R2:List Nat}{g:FuncId}{args:Array Value}{c1:CF}{s:Rs}(hm:c.mode=.run)(hu:Under H n)
 (ht:c.todo=.code (.rangeFunc f ps assign body)::k) (hfv:Zd c.tmps f=some fv) (ho:Ki c H n ps assign body=some (H1,l,ds,R1)) (hc:Si F H1 fv #[.func (.yield l) #[] #[]]=some (.enter g args,R2)) (he:Wa P g args=some c1) (hs:rec c1 H1 (l+1)=some s) (hv:s.out=.ret v):
 GoJ P B c H n {c with todo:=.endRangeFunc l::k,defers:=ds++c.defers} s.H s.n (R1++R2++s.R) s.W:=by
 obtain⟨RZ,hsem⟩:=dp hF Vv hm hu ht hfv ho hc he hs;refine⟨RZ,fun S μ w fr cs Z QE hB hS hf XJ hR=> ?_⟩;obtain⟨Zh,w',μ',im,mark,L',hp,QJ,ZU,hL,hdf,a,e,hT,ZB⟩:=hsem S μ w fr cs Z QE hB hS hf XJ hR;rw[hv]at ZU;cases ZU with
 |ret _=>exact⟨{fr with todo:=.endRangeFunc im.Zu::L',defers:=mark++fr.defers},w',μ',hp,⟨XJ.fn,hT,fun _=>.cons (.endRF QJ) hL,DfB.app hdf (XJ.defers.mono e),XJ.mode.mono e,XJ.kind,XJ.round.mono e⟩,rfl,rfl,ZB⟩
theorem iV(hF:∀g,F g=true->Q1 P g=true)(Vv:jg P B rec){f:Operand}{ps:Array Tmp}{assign body:Code}{k:List Item}{fv v:Value}{H1:Qq}{l:Nat}{ds R1 R2:List Nat}{g:FuncId}{args:Array Value}{c1:CF}{s:Rs}(hm:c.mode=.run)(hu:Under H n)
 (ht:c.todo=.code (.rangeFunc f ps assign body)::k) (hfv:Zd c.tmps f=some fv) (ho:Ki c H n ps assign body=some (H1,l,ds,R1)) (hc:Si F H1 fv #[.func (.yield l) #[] #[]]=some (.enter g args,R2)) (he:Wa P g args=some c1) (hs:rec c1 H1 (l+1)=some s) (hv:s.out=.Wn v):
 GoJ P B c H n {c with mode:=.Wn v,defers:=ds++c.defers} s.H s.n (R1++R2++s.R) s.W:=by
 obtain⟨RZ,hsem⟩:=dp hF Vv hm hu ht hfv ho hc he hs;refine⟨RZ,fun S μ w fr cs Z QE hB hS hf XJ hR=> ?_⟩;obtain⟨Zh,w',μ',im,mark,L',hp,QJ,ZU,hL,hdf,a,e,hT,ZB⟩:=hsem S μ w fr cs Z QE hB hS hf XJ hR;rw[hv]at ZU;cases ZU with
 |Wn VX=>
  rename_i v';refine⟨{fr with todo:=.inRangeFunc im.Zu::L',defers:=mark++fr.defers,mode:=.panicking [{v:=v',recovered:=false}]},w',μ',hp,⟨XJ.fn,hT,(fun h=>by cases h),DfB.app hdf (XJ.defers.mono e),.Wn VX,XJ.kind,XJ.round.mono e⟩,rfl,rfl,ZB.trans ?_⟩;simp only[OO.on,Frame.raise,a];exact Steps.refl _ _
theorem V0(hF:∀g,F g=true->Q1 P g=true)(Zl:P.follows .mixedOrders=true)(ZY:Wz P B Xr)(Vv:jg P B rec)(hu:Under H n){fs:FS}(h:Sb P F Xr rec c H n=some fs):Qbt P B c H n fs:=by
 unfold Sb at h;split at h
 ·rename_i hm;split at h
  ·rename_i ht;exact RX hm hu (CO ht) h
  ·rename_i k ht;exact RX hm hu (CL ht) h
  ·rename_i k ht;simp only[YO]at h;subst h;exact Oa hm ht
  ·rename_i l k ht;simp only[YO]at h;subst h;exact Mw hm ht
  ·rename_i l k ht;simp only[YO]at h;subst h;exact CV hm ht
  ·rename_i l k ht;simp only[YO]at h;subst h;exact CU hm ht
  ·rename_i x y k ht;simp only[YO]at h;subst h;exact Qaz hm ht
  ·rename_i q x y k ht;split at h
   ·rename_i t hq;simp only[YO]at h;subst h;exact Oe hm ht hq
   ·cases h
  ·rename_i id x k ht;simp only[YO]at h;subst h;exact My hm ht
  ·rename_i x k ht;simp only[YO]at h;subst h;exact Ob hm ht
  ·rename_i x k ht;simp only[YO]at h;subst h;exact Gi hm ht
  ·rename_i x k ht;simp only[YO]at h;subst h;exact Mv hm ht
  ·rename_i id k ht;split at h
   ·rename_i k' hx;simp only[YO]at h;subst h;exact Od hm ht hx
   ·rename_i hx;exact RX hm hu (zY ht hx) h
  ·rename_i id k ht;split at h
   ·rename_i k' hx;simp only[YO]at h;subst h;exact Oc hm ht hx
   ·rename_i hx;exact RX hm hu (zX ht hx) h
  ·rename_i id ops draw k ht;split at h
   ·rename_i Qz T' H' n' hr;cases hd:(!draw || (WY 0 ops.toList && indep ops 0 Qz (P3 ops.toList [])))with
    |false=>rw[hd]at h;cases h
    |true=>
     rw[<-ZN h];exact Gh hF Vv ZY Zl hm hu ht hr hd
   ·rename_i Qz T' v H' n' R W hr;cases hd:(!draw || ai ops Qz T')with
    |false=>rw[hd]at h;cases h
    |true=>
     rw[<-ZN h];cases draw with
     |true=>
      obtain⟨hs,hk,ax⟩:=K7 hF Vv ZY (len:=c.tmps.len) ops.toList c.tmps H n Qz _ rfl hu hr;exact kj Zl hm ht hs hk ax (by simpa using hd)
     |false=>exact qJ hF Vv ZY hm hu ht hr
   ·cases h
  ·rename_i f ps assign body k ht;split at h
   ·rename_i fv hfv;split at h
    ·rename_i H1 l ds R1 ho;split at h
     ·rename_i g args R2 hc;split at h
      ·rename_i c1 he;split at h
       ·rename_i s hs;split at h
        ·rename_i v hv;simp only[YO]at h;subst h;exact uk hF Vv hm hu ht hfv ho hc he hs hv
        ·rename_i v hv;simp only[YO]at h;subst h;exact iV hF Vv hm hu ht hfv ho hc he hs hv
       ·cases h
      ·cases h
     ·cases h
    ·cases h
   ·cases h
  ·rename_i l k ht;split at h
   ·rename_i r hg;by_cases hs:r.state=.busy
    ·simp[hs]at h
    ·simp only[hs,decide_false,Bool.not_false,cond_true,YO]at h;subst h;exact Mx hm hu ht hg hs
   ·cases h
  ·rename_i k ht;split at h
   ·rename_i l hr;split at h
    ·rename_i r hg;by_cases hs:r.state=.ready
     ·simp only[hs,decide_true,cond_true,YO]at h;subst h;exact qK hm hu ht hr hg hs
     ·simp[hs]at h
    ·cases h
   ·cases h
  ·cases h
 ·rename_i hm;split at h
  ·rename_i d ds hd;split at h
   ·rename_i hg;simp only[YO]at h;subst h;exact CW hm hu hd hg
   ·cases h
  ·rename_i hd;split at h
   ·rename_i v hv;have hq:=MQ h rfl;rw[<-ZN h];exact MB hv hd hq
   ·rename_i hnp;split at h
    ·rename_i v R hr hv;simp only[YO]at h;subst h;refine MA hu ?_ hd hv;cases hq:c.mode with
     |run=>exact absurd hq hm
     |ret=>rfl
     |Wn v=>exact absurd hq (hnp v)
    ·cases h
theorem FJ.lists{out:OO}{H':Qq}{n':Nat}{R W R' W':List Nat}(h:FJ P B c H n out H' n' R W)(hR:∀i,i<n->(i∈R'<->i∈R))(hW:∀i,i<n->(i∈W'<->i∈W))(Xp:∀i∈W',i<n):FJ P B c H n out H' n' R' W':=by
 refine⟨⟨h.shape.le,fun i hi hw=>h.shape.keep i hi fun e=>hw ((hW i hi).2 e),h.shape.top,fun i hi=>(hR i (Xp i hi)).2 (h.shape.sub i ((hW i (Xp i hi)).1 hi)),fun i hi=>by have:=Xp i hi;have:=h.shape.le;omega⟩,fun S μ w fr cs QE hB hS hf XJ hRS=> ?_⟩;obtain⟨Zh,w',μ',hp,ho,he⟩:=h.sem S μ w fr cs QE hB hS hf XJ (fun i hi hl=>hRS i ((hR i hl).2 hi) hl);exact⟨Zh,w',μ',hp.lists hW,ho,he⟩
theorem Z9{b:Nat}{l acc:List Nat}{i:Nat}(hi:i<b):i∈ZT b l acc<->i∈acc\/i∈l:=by
 obtain⟨h1,h2,h3⟩:=qz (b:=b) l acc i;exact⟨fun h=>(h1 h).imp id And.left,fun h=>h.elim h2 fun h=>h3 h hi⟩
theorem Sk{b:Nat}{l acc:List Nat}(h:∀i∈acc,i<b):∀i∈ZT b l acc,i<b:=fun i hi=>((qz (b:=b) l acc i).1 hi).elim (h i) And.right
theorem Je(hF:∀g,F g=true->Q1 P g=true)(Zl:P.follows .mixedOrders=true)(ZY:Wz P B Xr):∀(fuel:Nat) (b:Nat) (c:CF) (H:Qq) (n:Nat) (R0 W0:List Nat) (s:Rs),Under H n->(∀i∈R0,i<b)->(∀i∈W0,i<b)->qL P F Xr fuel b c H n R0 W0=some s->
 ∃Rr Wr,FJ P B c H n s.out s.H s.n Rr Wr/\(∀i,i<b->(i∈s.R<->i∈R0\/i∈Rr))/\(∀i,i<b->(i∈s.W<->i∈W0\/i∈Wr))/\(∀i∈s.R,i<b)/\(∀i∈s.W,i<b)
 |0,b,c,H,n,R0,W0,s,hu,hR0,hW0,h=>by simp[qL]at h
 |fuel+1,b,c,H,n,R0,W0,s,hu,hR0,hW0,h=>by
  have Vv:jg P B (fun c1 H1 n1=>qL P F Xr fuel n1 c1 H1 n1 [] []):=by
   intro c1 H1 n1 s1 hu1 h1;obtain⟨Rr,Wr,hfj,a1,a2,a3,a4⟩:=Je hF Zl ZY fuel n1 c1 H1 n1 [] [] s1 hu1 (fun i hi=>by simp at hi) (fun i hi=>by simp at hi) h1;exact hfj.lists (fun i hi=>by simpa using a1 i hi) (fun i hi=>by simpa using a2 i hi) a4
  simp only[qL]at h;split at h
  ·rename_i c' H' n' R' W' hs;have a8:GoJ P B c H n c' H' n' R' W':=V0 hF Zl ZY Vv hu hs;obtain⟨Rr,Wr,hfj,a1,a2,a3,a4⟩:=Je hF Zl ZY fuel b c' H' n' (ZT b R' R0) (ZT b W' W0) s (hu.shape a8.shape) (Sk hR0) (Sk hW0) h;refine⟨R'++Rr,W'++Wr,a8.fj hfj,fun i hi=> ?_,fun i hi=> ?_,a3,a4⟩
   ·rw[a1 i hi,Z9 hi,List.mem_append,or_assoc]
   ·rw[a2 i hi,Z9 hi,List.mem_append,or_assoc]
  ·rename_i out H' n' R' W' hs;have hdone:FJ P B c H n out H' n' R' W':=V0 hF Zl ZY Vv hu hs;simp only[YO]at h;subst h;exact⟨R',W',hdone,fun i hi=>Z9 hi,fun i hi=>Z9 hi,Sk hR0,Sk hW0⟩
  ·cases h
end
end Go.CE
