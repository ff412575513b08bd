/- CE: frames. Eighth part: the whole run. -/
import Derived.Test.YtncjjangllkokaaZRB03
set_option linter.all false
open List renaming mem_append_left->Lg,getElem?_toArray->LU,getElem?_cons_zero->Lq,mem_append_right->Lt,mem_append->LZ
open Nat renaming lt_or_ge->LF
namespace Go.CE
open Go Go.RowKit

theorem Ml{α:Type}{q:Bool}{x:α}{r:Option α}(h:(bif q then some x else none)=r)(hr:r.isSome=true):q=true:=by
 cases q with
 |true=>rfl
 |false=>subst h;cases hr
section
variable {P:Program} {F:FuncId->Bool} {Xm:Vh} {B:Lo} {rec:CF->Qm->Nat->Option Rs} {c:CF} {H:Qm} {n:Nat}
theorem cx(hF:∀g,F g=true->Q0 P g=true)(Vq:iw P B rec){f:Operand}{ps:Array Tmp}{assign body:Code}{k:List Item}{fv:Value}{H1:Qm}{l:Nat}{ds R1 R2:List Nat}{g:FuncId}{args:Array Value}{c1:CF}{s:Rs}(hm:c.mode=.run)(hu:Under H n)
 (ht:c.todo=.code (.rangeFunc f ps assign body)::k) (hfv:XV c.tmps f=some fv) (ho:Kb c H n ps assign body=some (H1,l,ds,R1)) (hc:Rp F H1 fv #[.func (.yield l) #[] #[]]=some (.enter g args,R2)) (he:Wi P g args=some c1) (hs:rec c1 H1 (l+1)=some s):
 Shape H n s.H s.n (R1++R2++s.R) s.W/\∀(S:Nat->Prop) (μ:Mu) (w:World) (fr:Frame) (cs:List Frame) (Z:Bot),Ok B S μ (Qq H) w->B.has w->(∀i,S i->i<n)->JL μ n s.n->FrR Z μ c fr->(∀i∈R1++R2++s.R,i<n->S i)->
  ∃XW w' μ' im mark L',Post B S n s.n s.W μ μ' H s.H w w'/\μ' l=some im/\OR2 μ' s.out XW/\TodoR μ' k L'/\DfR μ' ds mark/\fr.mode=.run/\Ext μ μ'/\TR μ' c.tmps fr.tmps/\
   Steps P (lone fr cs w) (lone (XW.on {fr with todo:=.inRangeFunc im.Zq::L',defers:=mark++fr.defers}) cs w'):=by
 have hR2:=yD hc;subst hR2;rw[List.append_nil];obtain⟨hsh1,hsem⟩:=aL (P:=P) (B:=B) hu ho;have hfj:=Vq c1 H1 (l+1) s (hu.shape hsh1) hs;have l1:=hsh1.le;have l2:=hfj.shape.le;refine⟨hsh1.trans hfj.shape,fun S μ w fr cs Z Q7 hB hS hf X8 hR=> ?_⟩;obtain⟨a,b,d⟩:=X8.running hm;rw[ht]at d;obtain⟨L',e,hL⟩:=d.code;have hf1:JL μ n (l+1):=fun q x y=>hf q x (by omega)
 obtain⟨mark,w1,μ1,im,hel,QD,hp,hdf⟩:=hsem S μ w fr Q7 hB hS hf1 X8.fn b X8.round (fun q hq Xi=>hR q (Lg _ hq) Xi);have e1:=hp.mu hf1;obtain⟨nx',Ub,hnr⟩:=rp (P:=P) hF hc hp.ok ((oI b f fv hfv).mono e1) (args':=#[.func (.yield im.Zq) #[] #[]]) ⟨rfl,fun i v v' h1 h2=>by
  match i,h1,h2 with
  |0,h1,h2=>simp only[LU,Lq,YO]at h1 h2;subst h1 h2;exact .yield QD
  |i+1,h1,h2=>simp at h1⟩ (fun i hi=>by simp at hi)
 cases hnr with
 |enter ha=>
  have hf2:∀q,l+1<=q->q<s.n->μ1 q=none:=fun q x y=>by rw[hp.ext q (by omega)];exact hf q (by omega) y
  obtain⟨XW,w',μ',YF,ho2,hends⟩:=hfj.sem _ μ1 w1 _ ({fr with todo:=.inRangeFunc im.Zq::L',defers:=mark++fr.defers}::cs) hp.ok (hB.post Q7 hp) (fun q hq=>hq.elim (fun e=>by have:=hS q e;omega) (fun e=>e.2)) hf2 (U8 he ha) (fun q hq Xi=>by
   rcases LF q n with h1|h1
   ·exact .inl (hR q (Lt _ hq) h1)
   ·exact .inr ⟨h1,Xi⟩)
  have e2:=YF.mu hf2;exact⟨XW,w',μ',im,mark,L',hp.trans YF,e2 _ _ QD,ho2,hL.mono (e1.trans e2),hdf.mono e2,a,e1.trans e2,b.mono (e1.trans e2),.head (kM a e hel Ub) (hends.2 _ _ rfl)⟩
theorem tu(hF:∀g,F g=true->Q0 P g=true)(Vq:iw P B rec){f:Operand}{ps:Array Tmp}{assign body:Code}{k:List Item}{fv v:Value}{H1:Qm}{l:Nat}{ds R1 R2:List Nat}{g:FuncId}{args:Array Value}{c1:CF}{s:Rs}(hm:c.mode=.run)(hu:Under H n)
 (ht:c.todo=.code (.rangeFunc f ps assign body)::k) (hfv:XV c.tmps f=some fv) (ho:Kb c H n ps assign body=some (H1,l,ds,R1)) (hc:Rp F H1 fv #[.func (.yield l) #[] #[]]=some (.enter g args,R2)) (he:Wi P g args=some c1) (hs:rec c1 H1 (l+1)=some s) (hv:s.out=.ret v):
 GoJ P B c H n {c with todo:=.endRangeFunc l::k,defers:=ds++c.defers} s.H s.n (R1++R2++s.R) s.W:=by
 obtain⟨JF,hsem⟩:=cx hF Vq hm hu ht hfv ho hc he hs;refine⟨JF,fun S μ w fr cs Z Q7 hB hS hf X8 hR=> ?_⟩;obtain⟨XW,w',μ',im,mark,L',hp,QD,ZQ,hL,hdf,a,e,hT,XZ⟩:=hsem S μ w fr cs Z Q7 hB hS hf X8 hR;rw[hv]at ZQ;cases ZQ with
 |ret _=>exact⟨{fr with todo:=.endRangeFunc im.Zq::L',defers:=mark++fr.defers},w',μ',hp,⟨X8.fn,hT,fun _=>.cons (.endRF QD) hL,DfB.app hdf (X8.defers.mono e),X8.mode.mono e,X8.kind,X8.round.mono e⟩,rfl,rfl,XZ⟩
theorem ia(hF:∀g,F g=true->Q0 P g=true)(Vq:iw P B rec){f:Operand}{ps:Array Tmp}{assign body:Code}{k:List Item}{fv v:Value}{H1:Qm}{l:Nat}{ds R1 R2:List Nat}{g:FuncId}{args:Array Value}{c1:CF}{s:Rs}(hm:c.mode=.run)(hu:Under H n)
 (ht:c.todo=.code (.rangeFunc f ps assign body)::k) (hfv:XV c.tmps f=some fv) (ho:Kb c H n ps assign body=some (H1,l,ds,R1)) (hc:Rp F H1 fv #[.func (.yield l) #[] #[]]=some (.enter g args,R2)) (he:Wi P g args=some c1) (hs:rec c1 H1 (l+1)=some s) (hv:s.out=.ZB v):
 GoJ P B c H n {c with mode:=.ZB v,defers:=ds++c.defers} s.H s.n (R1++R2++s.R) s.W:=by
 obtain⟨JF,hsem⟩:=cx hF Vq hm hu ht hfv ho hc he hs;refine⟨JF,fun S μ w fr cs Z Q7 hB hS hf X8 hR=> ?_⟩;obtain⟨XW,w',μ',im,mark,L',hp,QD,ZQ,hL,hdf,a,e,hT,XZ⟩:=hsem S μ w fr cs Z Q7 hB hS hf X8 hR;rw[hv]at ZQ;cases ZQ with
 |ZB Vp=>
  rename_i v';refine⟨{fr with todo:=.inRangeFunc im.Zq::L',defers:=mark++fr.defers,mode:=.panicking [{v:=v',recovered:=false}]},w',μ',hp,⟨X8.fn,hT,(fun h=>by cases h),DfB.app hdf (X8.defers.mono e),.ZB Vp,X8.kind,X8.round.mono e⟩,rfl,rfl,XZ.trans ?_⟩;simp only[OO.on,Frame.raise,a];exact Steps.refl _ _
theorem Vy(hF:∀g,F g=true->Q0 P g=true)(XP:P.follows .mixedOrders=true)(We:W4 P B Xm)(Vq:iw P B rec)(hu:Under H n){fs:FS}(h:Rn P F Xm rec c H n=some fs):Qcd P B c H n fs:=by
 unfold Rn at h;split at h
 ·rename_i hm;split at h
  ·rename_i ht;exact Rj hm hu (Al ht) h
  ·rename_i k ht;exact Rj hm hu (Ak ht) h
  ·rename_i k ht;simp only[YO]at h;subst h;exact Ot hm ht
  ·rename_i l k ht;simp only[YO]at h;subst h;exact II hm ht
  ·rename_i l k ht;simp only[YO]at h;subst h;exact Au hm ht
  ·rename_i l k ht;simp only[YO]at h;subst h;exact At hm ht
  ·rename_i x y k ht;simp only[YO]at h;subst h;exact Qbc hm ht
  ·rename_i q x y k ht;split at h
   ·rename_i t hq;simp only[YO]at h;subst h;exact Ox hm ht hq
   ·cases h
  ·rename_i id x k ht;simp only[YO]at h;subst h;exact IK hm ht
  ·rename_i x k ht;simp only[YO]at h;subst h;exact Ou hm ht
  ·rename_i x k ht;simp only[YO]at h;subst h;exact Ee hm ht
  ·rename_i x k ht;simp only[YO]at h;subst h;exact IH hm ht
  ·rename_i id k ht;split at h
   ·rename_i k' hx;simp only[YO]at h;subst h;exact Ow hm ht hx
   ·rename_i hx;exact Rj hm hu (ym ht hx) h
  ·rename_i id k ht;split at h
   ·rename_i k' hx;simp only[YO]at h;subst h;exact Ov hm ht hx
   ·rename_i hx;exact Rj hm hu (yl ht hx) h
  ·rename_i id ops draw k ht;split at h
   ·rename_i Qs T' H' n' hr;cases hd:(!draw || (Vg 0 ops.toList && indep ops 0 Qs (JK ops.toList [])))with
    |false=>rw[hd]at h;cases h
    |true=>
     rw[<-ZO h];exact Ed hF Vq We XP hm hu ht hr hd
   ·rename_i Qs T' v H' n' R W hr;cases hd:(!draw || Ts ops Qs T')with
    |false=>rw[hd]at h;cases h
    |true=>
     rw[<-ZO h];cases draw with
     |true=>
      obtain⟨hs,hk,Yp⟩:=Kt hF Vq We (len:=c.tmps.len) ops.toList c.tmps H n Qs _ rfl hu hr;exact jg XP hm ht hs hk Yp (by simpa using hd)
     |false=>exact py hF Vq We hm hu ht hr
   ·cases h
  ·rename_i f ps assign body k ht;split at h
   ·rename_i fv hfv;split at h
    ·rename_i H1 l ds R1 ho;split at h
     ·rename_i g args R2 hc;split at h
      ·rename_i c1 he;split at h
       ·rename_i s hs;split at h
        ·rename_i v hv;simp only[YO]at h;subst h;exact tu hF Vq hm hu ht hfv ho hc he hs hv
        ·rename_i v hv;simp only[YO]at h;subst h;exact ia hF Vq hm hu ht hfv ho hc he hs hv
       ·cases h
      ·cases h
     ·cases h
    ·cases h
   ·cases h
  ·rename_i l k ht;split at h
   ·rename_i r hg;by_cases hs:r.state=.busy
    ·simp[hs]at h
    ·simp only[hs,decide_false,Bool.not_false,cond_true,YO]at h;subst h;exact IJ hm hu ht hg hs
   ·cases h
  ·rename_i k ht;split at h
   ·rename_i l hr;split at h
    ·rename_i r hg;by_cases hs:r.state=.ready
     ·simp only[hs,decide_true,cond_true,YO]at h;subst h;exact pz hm hu ht hr hg hs
     ·simp[hs]at h
    ·cases h
   ·cases h
  ·cases h
 ·rename_i hm;split at h
  ·rename_i d ds hd;split at h
   ·rename_i hg;simp only[YO]at h;subst h;exact Av hm hu hd hg
   ·cases h
  ·rename_i hd;split at h
   ·rename_i v hv;have hq:=Ml h rfl;rw[<-ZO h];exact IY hv hd hq
   ·rename_i hnp;split at h
    ·rename_i v R hr hv;simp only[YO]at h;subst h;refine IX hu ?_ hd hv;cases hq:c.mode with
     |run=>exact absurd hq hm
     |ret=>rfl
     |ZB v=>exact absurd hq (hnp v)
    ·cases h
theorem FJ.lists{out:OO}{H':Qm}{n':Nat}{R W R' W':List Nat}(h:FJ P B c H n out H' n' R W)(hR:∀i,i<n->(i∈R'<->i∈R))(hW:∀i,i<n->(i∈W'<->i∈W))(Xi:∀i∈W',i<n):FJ P B c H n out H' n' R' W':=by
 refine⟨⟨h.shape.le,fun i hi hw=>h.shape.keep i hi fun e=>hw ((hW i hi).2 e),h.shape.top,fun i hi=>(hR i (Xi i hi)).2 (h.shape.sub i ((hW i (Xi i hi)).1 hi)),fun i hi=>by have:=Xi i hi;have:=h.shape.le;omega⟩,fun S μ w fr cs Q7 hB hS hf X8 hRS=> ?_⟩;obtain⟨XW,w',μ',hp,ho,he⟩:=h.sem S μ w fr cs Q7 hB hS hf X8 (fun i hi hl=>hRS i ((hR i hl).2 hi) hl);exact⟨XW,w',μ',hp.lists hW,ho,he⟩
theorem Zl{b:Nat}{l acc:List Nat}{i:Nat}(hi:i<b):i∈ZP b l acc<->i∈acc\/i∈l:=by
 obtain⟨h1,h2,h3⟩:=pf (b:=b) l acc i;exact⟨fun h=>(h1 h).imp id And.left,fun h=>h.elim h2 fun h=>h3 h hi⟩
theorem Ru{b:Nat}{l acc:List Nat}(h:∀i∈acc,i<b):∀i∈ZP b l acc,i<b:=fun i hi=>((pf (b:=b) l acc i).1 hi).elim (h i) And.right
theorem Y4(hF:∀g,F g=true->Q0 P g=true)(XP:P.follows .mixedOrders=true)(We:W4 P B Xm):∀(fuel:Nat) (b:Nat) (c:CF) (H:Qm) (n:Nat) (R0 W0:List Nat) (s:Rs),Under H n->(∀i∈R0,i<b)->(∀i∈W0,i<b)->p8 P F Xm fuel b c H n R0 W0=some s->
 ∃Rr Wr,FJ P B c H n s.out s.H s.n Rr Wr/\(∀i,i<b->(i∈s.R<->i∈R0\/i∈Rr))/\(∀i,i<b->(i∈s.W<->i∈W0\/i∈Wr))/\(∀i∈s.R,i<b)/\(∀i∈s.W,i<b)
 |0,b,c,H,n,R0,W0,s,hu,hR0,hW0,h=>by simp[p8]at h
 |fuel+1,b,c,H,n,R0,W0,s,hu,hR0,hW0,h=>by
  have Vq:iw P B (fun c1 H1 n1=>p8 P F Xm fuel n1 c1 H1 n1 [] []):=by
   intro c1 H1 n1 s1 Tz h1;obtain⟨Rr,Wr,hfj,a1,a2,a3,a4⟩:=Y4 hF XP We fuel n1 c1 H1 n1 [] [] s1 Tz (fun i hi=>by simp at hi) (fun i hi=>by simp at hi) h1;exact hfj.lists (fun i hi=>by simpa using a1 i hi) (fun i hi=>by simpa using a2 i hi) a4
  simp only[p8]at h;split at h
  ·rename_i c' H' n' R' W' hs;have PH:GoJ P B c H n c' H' n' R' W':=Vy hF XP We Vq hu hs;obtain⟨Rr,Wr,hfj,a1,a2,a3,a4⟩:=Y4 hF XP We fuel b c' H' n' (ZP b R' R0) (ZP b W' W0) s (hu.shape PH.shape) (Ru hR0) (Ru hW0) h;refine⟨R'++Rr,W'++Wr,PH.fj hfj,fun i hi=> ?_,fun i hi=> ?_,a3,a4⟩
   ·rw[a1 i hi,Zl hi,LZ,or_assoc]
   ·rw[a2 i hi,Zl hi,LZ,or_assoc]
  ·rename_i out H' n' R' W' hs;have hdone:FJ P B c H n out H' n' R' W':=Vy hF XP We Vq hu hs;simp only[YO]at h;subst h;exact⟨R',W',hdone,fun i hi=>Zl hi,fun i hi=>Zl hi,Ru hR0,Ru hW0⟩
  ·cases h
end
end Go.CE
