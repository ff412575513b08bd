/- CE: frames. Eighth part: the whole run. -/
import Derived.Test.YtncjjangllkokaaZRR03
set_option linter.all false
open List renaming mem_append_left->Lg,getElem?_toArray->LM,getElem?_cons_zero->Ln,mem_append_right->Lp,mem_append->LP
open Nat renaming lt_or_ge->Ly
namespace Go.CE
open Go Go.RowKit

theorem Dp{α:Type}{q:Bool}{x:α}{r:Option α}(h:(bif q then some x else none)=r)(hr:r.isSome=true):q=true:=by
 cases q with
 |true=>rfl
 |false=>subst h;cases hr
section
variable {P:Program} {F:FuncId->Bool} {Xc:Wl} {B:Lo} {rec:CF->Qj->Nat->Option Rs} {c:CF} {H:Qj} {n:Nat}
theorem Tj(hF:∀g,F g=true->Q0 P g=true)(Wu:cP P B rec){f:Operand}{ps:Array Tmp}{assign body:Code}{k:List Item}{fv:Value}{H1:Qj}{l:Nat}{ds R1 R2:List Nat}{g:FuncId}{args:Array Value}{c1:CF}{s:Rs}(hm:c.mode=.run)(hu:Under H n)
 (ht:c.todo=.code (.rangeFunc f ps assign body)::k) (hfv:X8 c.tmps f=some fv) (ho:Ue c H n ps assign body=some (H1,l,ds,R1)) (hc:Jj F H1 fv #[.func (.yield l) #[] #[]]=some (.enter g args,R2)) (he:Z6 P g args=some c1) (hs:rec c1 H1 (l+1)=some s):
 Shape H n s.H s.n (R1++R2++s.R) s.W/\∀(S:Nat->Prop) (μ:Mu) (w:World) (fr:Frame) (cs:List Frame) (Z:Bot),Ok B S μ (Qo H) w->B.has w->(∀i,S i->i<n)->Ya μ n s.n->FrR Z μ c fr->(∀i∈R1++R2++s.R,i<n->S i)->
  ∃XB w' μ' im mark L',Post B S n s.n s.W μ μ' H s.H w w'/\μ' l=some im/\OR2 μ' s.out XB/\TodoR μ' k L'/\DfR μ' ds mark/\fr.mode=.run/\Ext μ μ'/\TR μ' c.tmps fr.tmps/\
   Steps P (lone fr cs w) (lone (XB.on {fr with todo:=.inRangeFunc im.XM::L',defers:=mark++fr.defers}) cs w'):=by
 have hR2:=ua hc;subst hR2;rw[List.append_nil];obtain⟨hsh1,hsem⟩:=RU (P:=P) (B:=B) hu ho;have hfj:=Wu c1 H1 (l+1) s (hu.shape hsh1) hs;have l1:=hsh1.le;have l2:=hfj.shape.le;refine⟨hsh1.trans hfj.shape,fun S μ w fr cs Z Q5 hB hS hf Xr hR=> ?_⟩;obtain⟨a,b,d⟩:=Xr.running hm;rw[ht]at d;obtain⟨L',e,hL⟩:=d.code;have hf1:Ya μ n (l+1):=fun q x y=>hf q x (by omega)
 obtain⟨mark,w1,μ1,im,hel,Q3,hp,hdf⟩:=hsem S μ w fr Q5 hB hS hf1 Xr.fn b Xr.round (fun q hq QX=>hR q (Lg _ hq) QX);have e1:=hp.mu hf1;obtain⟨nx',Vc,hnr⟩:=mN (P:=P) hF hc hp.ok ((kI b f fv hfv).mono e1) (args':=#[.func (.yield im.XM) #[] #[]]) ⟨rfl,fun i v v' h1 h2=>by
  match i,h1,h2 with
  |0,h1,h2=>simp only[LM,Ln,YO]at h1 h2;subst h1 h2;exact .yield Q3
  |i+1,h1,h2=>simp at h1⟩ (fun i hi=>by simp at hi)
 cases hnr with
 |enter ha=>
  have hf2:∀q,l+1<=q->q<s.n->μ1 q=none:=fun q x y=>by rw[hp.ext q (by omega)];exact hf q (by omega) y
  obtain⟨XB,w',μ',KT,ho2,hends⟩:=hfj.sem _ μ1 w1 _ ({fr with todo:=.inRangeFunc im.XM::L',defers:=mark++fr.defers}::cs) hp.ok (hB.post Q5 hp) (fun q hq=>hq.elim (fun e=>by have:=hS q e;omega) (fun e=>e.2)) hf2 (VD he ha) (fun q hq QX=>by
   rcases Ly q n with h1|h1
   ·exact .inl (hR q (Lp _ hq) h1)
   ·exact .inr ⟨h1,QX⟩)
  have e2:=KT.mu hf2;exact⟨XB,w',μ',im,mark,L',hp.trans KT,e2 _ _ Q3,ho2,hL.mono (e1.trans e2),hdf.mono e2,a,e1.trans e2,b.mono (e1.trans e2),.head (fQ a e hel Vc) (hends.2 _ _ rfl)⟩
theorem oG(hF:∀g,F g=true->Q0 P g=true)(Wu:cP P B rec){f:Operand}{ps:Array Tmp}{assign body:Code}{k:List Item}{fv v:Value}{H1:Qj}{l:Nat}{ds R1 R2:List Nat}{g:FuncId}{args:Array Value}{c1:CF}{s:Rs}(hm:c.mode=.run)(hu:Under H n)
 (ht:c.todo=.code (.rangeFunc f ps assign body)::k) (hfv:X8 c.tmps f=some fv) (ho:Ue c H n ps assign body=some (H1,l,ds,R1)) (hc:Jj F H1 fv #[.func (.yield l) #[] #[]]=some (.enter g args,R2)) (he:Z6 P g args=some c1) (hs:rec c1 H1 (l+1)=some s) (hv:s.out=.ret v):
 GoJ P B c H n {c with todo:=.endRangeFunc l::k,defers:=ds++c.defers} s.H s.n (R1++R2++s.R) s.W:=by
 obtain⟨KR,hsem⟩:=Tj hF Wu hm hu ht hfv ho hc he hs;refine⟨KR,fun S μ w fr cs Z Q5 hB hS hf Xr hR=> ?_⟩;obtain⟨XB,w',μ',im,mark,L',hp,Q3,Zu,hL,hdf,a,e,hT,ZS⟩:=hsem S μ w fr cs Z Q5 hB hS hf Xr hR;rw[hv]at Zu;cases Zu with
 |ret _=>exact⟨{fr with todo:=.endRangeFunc im.XM::L',defers:=mark++fr.defers},w',μ',hp,⟨Xr.fn,hT,fun _=>.cons (.endRF Q3) hL,DfB.app hdf (Xr.defers.mono e),Xr.mode.mono e,Xr.kind,Xr.round.mono e⟩,rfl,rfl,ZS⟩
theorem cA(hF:∀g,F g=true->Q0 P g=true)(Wu:cP P B rec){f:Operand}{ps:Array Tmp}{assign body:Code}{k:List Item}{fv v:Value}{H1:Qj}{l:Nat}{ds R1 R2:List Nat}{g:FuncId}{args:Array Value}{c1:CF}{s:Rs}(hm:c.mode=.run)(hu:Under H n)
 (ht:c.todo=.code (.rangeFunc f ps assign body)::k) (hfv:X8 c.tmps f=some fv) (ho:Ue c H n ps assign body=some (H1,l,ds,R1)) (hc:Jj F H1 fv #[.func (.yield l) #[] #[]]=some (.enter g args,R2)) (he:Z6 P g args=some c1) (hs:rec c1 H1 (l+1)=some s) (hv:s.out=.Zj v):
 GoJ P B c H n {c with mode:=.Zj v,defers:=ds++c.defers} s.H s.n (R1++R2++s.R) s.W:=by
 obtain⟨KR,hsem⟩:=Tj hF Wu hm hu ht hfv ho hc he hs;refine⟨KR,fun S μ w fr cs Z Q5 hB hS hf Xr hR=> ?_⟩;obtain⟨XB,w',μ',im,mark,L',hp,Q3,Zu,hL,hdf,a,e,hT,ZS⟩:=hsem S μ w fr cs Z Q5 hB hS hf Xr hR;rw[hv]at Zu;cases Zu with
 |Zj Wt=>
  rename_i v';refine⟨{fr with todo:=.inRangeFunc im.XM::L',defers:=mark++fr.defers,mode:=.panicking [{v:=v',recovered:=false}]},w',μ',hp,⟨Xr.fn,hT,(fun h=>by cases h),DfB.app hdf (Xr.defers.mono e),.Zj Wt,Xr.kind,Xr.round.mono e⟩,rfl,rfl,ZS.trans ?_⟩;simp only[OO.on,Frame.raise,a];exact Steps.refl _ _
theorem W5(hF:∀g,F g=true->Q0 P g=true)(X2:P.follows .mixedOrders=true)(Z5:ZK P B Xc)(Wu:cP P B rec)(hu:Under H n){fs:FS}(h:Je P F Xc rec c H n=some fs):H8 P B c H n fs:=by
 unfold Je at h;split at h
 ·rename_i hm;split at h
  ·rename_i ht;exact Ja hm hu (vV ht) h
  ·rename_i k ht;exact Ja hm hu (vU ht) h
  ·rename_i k ht;simp only[YO]at h;subst h;exact EJ hm ht
  ·rename_i l k ht;simp only[YO]at h;subst h;exact CL hm ht
  ·rename_i l k ht;simp only[YO]at h;subst h;exact we hm ht
  ·rename_i l k ht;simp only[YO]at h;subst h;exact wc hm ht
  ·rename_i x y k ht;simp only[YO]at h;subst h;exact G4 hm ht
  ·rename_i q x y k ht;split at h
   ·rename_i t hq;simp only[YO]at h;subst h;exact EN hm ht hq
   ·cases h
  ·rename_i id x k ht;simp only[YO]at h;subst h;exact CP hm ht
  ·rename_i x k ht;simp only[YO]at h;subst h;exact EK hm ht
  ·rename_i x k ht;simp only[YO]at h;subst h;exact z4 hm ht
  ·rename_i x k ht;simp only[YO]at h;subst h;exact CK hm ht
  ·rename_i id k ht;split at h
   ·rename_i k' hx;simp only[YO]at h;subst h;exact EM hm ht hx
   ·rename_i hx;exact Ja hm hu (tw ht hx) h
  ·rename_i id k ht;split at h
   ·rename_i k' hx;simp only[YO]at h;subst h;exact EL hm ht hx
   ·rename_i hx;exact Ja hm hu (tv ht hx) h
  ·rename_i id ops draw k ht;split at h
   ·rename_i Qq T' H' n' hr;cases hd:(!draw || (Wj 0 ops.toList && indep ops 0 Qq (KZ ops.toList [])))with
    |false=>rw[hd]at h;cases h
    |true=>
     rw[<-Zs h];exact z3 hF Wu Z5 X2 hm hu ht hr hd
   ·rename_i Qq T' v H' n' R W hr;cases hd:(!draw || PJ ops Qq T')with
    |false=>rw[hd]at h;cases h
    |true=>
     rw[<-Zs h];cases draw with
     |true=>
      obtain⟨hs,hk,YQ⟩:=Us hF Wu Z5 (len:=c.tmps.len) ops.toList c.tmps H n Qq _ rfl hu hr;exact dI X2 hm ht hs hk YQ (by simpa using hd)
     |false=>exact l6 hF Wu Z5 hm hu ht hr
   ·cases h
  ·rename_i f ps assign body k ht;split at h
   ·rename_i fv hfv;split at h
    ·rename_i H1 l ds R1 ho;split at h
     ·rename_i g args R2 hc;split at h
      ·rename_i c1 he;split at h
       ·rename_i s hs;split at h
        ·rename_i v hv;simp only[YO]at h;subst h;exact oG hF Wu hm hu ht hfv ho hc he hs hv
        ·rename_i v hv;simp only[YO]at h;subst h;exact cA hF Wu hm hu ht hfv ho hc he hs hv
       ·cases h
      ·cases h
     ·cases h
    ·cases h
   ·cases h
  ·rename_i l k ht;split at h
   ·rename_i r hg;by_cases hs:r.state=.busy
    ·simp[hs]at h
    ·simp only[hs,decide_false,Bool.not_false,cond_true,YO]at h;subst h;exact CO hm hu ht hg hs
   ·cases h
  ·rename_i k ht;split at h
   ·rename_i l hr;split at h
    ·rename_i r hg;by_cases hs:r.state=.ready
     ·simp only[hs,decide_true,cond_true,YO]at h;subst h;exact l7 hm hu ht hr hg hs
     ·simp[hs]at h
    ·cases h
   ·cases h
  ·cases h
 ·rename_i hm;split at h
  ·rename_i d ds hd;split at h
   ·rename_i hg;simp only[YO]at h;subst h;exact wg hm hu hd hg
   ·cases h
  ·rename_i hd;split at h
   ·rename_i v hv;have hq:=Dp h rfl;rw[<-Zs h];exact Db hv hd hq
   ·rename_i hnp;split at h
    ·rename_i v R hr hv;simp only[YO]at h;subst h;refine Da hu ?_ hd hv;cases hq:c.mode with
     |run=>exact absurd hq hm
     |ret=>rfl
     |Zj v=>exact absurd hq (hnp v)
    ·cases h
theorem FJ.lists{out:OO}{H':Qj}{n':Nat}{R W R' W':List Nat}(h:FJ P B c H n out H' n' R W)(hR:∀i,i<n->(i∈R'<->i∈R))(hW:∀i,i<n->(i∈W'<->i∈W))(QX:∀i∈W',i<n):FJ P B c H n out H' n' R' W':=by
 refine⟨⟨h.shape.le,fun i hi hw=>h.shape.keep i hi fun e=>hw ((hW i hi).2 e),h.shape.top,fun i hi=>(hR i (QX i hi)).2 (h.shape.sub i ((hW i (QX i hi)).1 hi)),fun i hi=>by have:=QX i hi;have:=h.shape.le;omega⟩,fun S μ w fr cs Q5 hB hS hf Xr hRS=> ?_⟩;obtain⟨XB,w',μ',hp,ho,he⟩:=h.sem S μ w fr cs Q5 hB hS hf Xr (fun i hi hl=>hRS i ((hR i hl).2 hi) hl);exact⟨XB,w',μ',hp.lists hW,ho,he⟩
theorem XI{b:Nat}{l acc:List Nat}{i:Nat}(hi:i<b):i∈Zt b l acc<->i∈acc\/i∈l:=by
 obtain⟨h1,h2,h3⟩:=ll (b:=b) l acc i;exact⟨fun h=>(h1 h).imp id And.left,fun h=>h.elim h2 fun h=>h3 h hi⟩
theorem Jl{b:Nat}{l acc:List Nat}(h:∀i∈acc,i<b):∀i∈Zt b l acc,i<b:=fun i hi=>((ll (b:=b) l acc i).1 hi).elim (h i) And.right
theorem Kn(hF:∀g,F g=true->Q0 P g=true)(X2:P.follows .mixedOrders=true)(Z5:ZK P B Xc):∀(fuel:Nat) (b:Nat) (c:CF) (H:Qj) (n:Nat) (R0 W0:List Nat) (s:Rs),Under H n->(∀i∈R0,i<b)->(∀i∈W0,i<b)->l8 P F Xc fuel b c H n R0 W0=some s->
 ∃Rr Wr,FJ P B c H n s.out s.H s.n Rr Wr/\(∀i,i<b->(i∈s.R<->i∈R0\/i∈Rr))/\(∀i,i<b->(i∈s.W<->i∈W0\/i∈Wr))/\(∀i∈s.R,i<b)/\(∀i∈s.W,i<b)
 |0,b,c,H,n,R0,W0,s,hu,hR0,hW0,h=>by simp[l8]at h
 |fuel+1,b,c,H,n,R0,W0,s,hu,hR0,hW0,h=>by
  have Wu:cP P B (fun c1 H1 n1=>l8 P F Xc fuel n1 c1 H1 n1 [] []):=by
   intro c1 H1 n1 s1 PS h1;obtain⟨Rr,Wr,hfj,a1,a2,a3,a4⟩:=Kn hF X2 Z5 fuel n1 c1 H1 n1 [] [] s1 PS (fun i hi=>by simp at hi) (fun i hi=>by simp at hi) h1;exact hfj.lists (fun i hi=>by simpa using a1 i hi) (fun i hi=>by simpa using a2 i hi) a4
  simp only[l8]at h;split at h
  ·rename_i c' H' n' R' W' hs;have J2:GoJ P B c H n c' H' n' R' W':=W5 hF X2 Z5 Wu hu hs;obtain⟨Rr,Wr,hfj,a1,a2,a3,a4⟩:=Kn hF X2 Z5 fuel b c' H' n' (Zt b R' R0) (Zt b W' W0) s (hu.shape J2.shape) (Jl hR0) (Jl hW0) h;refine⟨R'++Rr,W'++Wr,J2.fj hfj,fun i hi=> ?_,fun i hi=> ?_,a3,a4⟩
   ·rw[a1 i hi,XI hi,LP,or_assoc]
   ·rw[a2 i hi,XI hi,LP,or_assoc]
  ·rename_i out H' n' R' W' hs;have hdone:FJ P B c H n out H' n' R' W':=W5 hF X2 Z5 Wu hu hs;simp only[YO]at h;subst h;exact⟨R',W',hdone,fun i hi=>XI hi,fun i hi=>XI hi,Jl hR0,Jl hW0⟩
  ·cases h
end
end Go.CE
