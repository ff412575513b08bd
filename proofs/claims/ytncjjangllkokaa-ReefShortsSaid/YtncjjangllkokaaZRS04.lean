/- CE: frames. Eighth part: the whole run. -/
import Derived.Test.YtncjjangllkokaaZRS03
set_option linter.all false
open List renaming mem_append_left->Ll,getElem?_toArray->LX,getElem?_cons_zero->Lv,mem_append_right->Lx,mem_append->L6
open Nat renaming lt_or_ge->LI
namespace Go.CE
open Go Go.RowKit

theorem DO{α:Type}{q:Bool}{x:α}{r:Option α}(h:(bif q then some x else none)=r)(hr:r.isSome=true):q=true:=by
 cases q with
 |true=>rfl
 |false=>subst h;cases hr
section
variable {P:Program} {F:FuncId->Bool} {Xz:Vn} {B:Lo} {rec:CF->Qr->Nat->Option Rs} {c:CF} {H:Qr} {n:Nat}
theorem aB(hF:∀g,F g=true->QE P g=true)(Vx:eI P B rec){f:Operand}{ps:Array Tmp}{assign body:Code}{k:List Item}{fv:Value}{H1:Qr}{l:Nat}{ds R1 R2:List Nat}{g:FuncId}{args:Array Value}{c1:CF}{s:Rs}(hm:c.mode=.run)(hu:Under H n)
 (ht:c.todo=.code (.rangeFunc f ps assign body)::k) (hfv:Zp c.tmps f=some fv) (ho:UN c H n ps assign body=some (H1,l,ds,R1)) (hc:Pu F H1 fv #[.func (.yield l) #[] #[]]=some (.enter g args,R2)) (he:Wz P g args=some c1) (hs:rec c1 H1 (l+1)=some s):
 Shape H n s.H s.n (R1++R2++s.R) s.W/\∀(S:Nat->Prop) (μ:Mu) (w:World) (fr:Frame) (cs:List Frame) (Z:Bot),Ok B S μ (Qu H) w->B.has w->(∀i,S i->i<n)->YV μ n s.n->FrR Z μ c fr->(∀i∈R1++R2++s.R,i<n->S i)->
  ∃Zn w' μ' im mark L',Post B S n s.n s.W μ μ' H s.H w w'/\μ' l=some im/\OR2 μ' s.out Zn/\TodoR μ' k L'/\DfR μ' ds mark/\fr.mode=.run/\Ext μ μ'/\TR μ' c.tmps fr.tmps/\
   Steps P (lone fr cs w) (lone (Zn.on {fr with todo:=.inRangeFunc im.Z7::L',defers:=mark++fr.defers}) cs w'):=by
 have hR2:=uW hc;subst hR2;rw[List.append_nil];obtain⟨hsh1,hsem⟩:=To (P:=P) (B:=B) hu ho;have hfj:=Vx c1 H1 (l+1) s (hu.shape hsh1) hs;have l1:=hsh1.le;have l2:=hfj.shape.le;refine⟨hsh1.trans hfj.shape,fun S μ w fr cs Z QH hB hS hf XM hR=> ?_⟩;obtain⟨a,b,d⟩:=XM.running hm;rw[ht]at d;obtain⟨L',e,hL⟩:=d.code;have hf1:YV μ n (l+1):=fun q x y=>hf q x (by omega)
 obtain⟨mark,w1,μ1,im,hel,QP,hp,hdf⟩:=hsem S μ w fr QH hB hS hf1 XM.fn b XM.round (fun q hq Xu=>hR q (Ll _ hq) Xu);have e1:=hp.mu hf1;obtain⟨nx',VY,hnr⟩:=ou (P:=P) hF hc hp.ok ((me b f fv hfv).mono e1) (args':=#[.func (.yield im.Z7) #[] #[]]) ⟨rfl,fun i v v' h1 h2=>by
  match i,h1,h2 with
  |0,h1,h2=>simp only[LX,Lv,YO]at h1 h2;subst h1 h2;exact .yield QP
  |i+1,h1,h2=>simp at h1⟩ (fun i hi=>by simp at hi)
 cases hnr with
 |enter ha=>
  have hf2:∀q,l+1<=q->q<s.n->μ1 q=none:=fun q x y=>by rw[hp.ext q (by omega)];exact hf q (by omega) y
  obtain⟨Zn,w',μ',JP,ho2,hends⟩:=hfj.sem _ μ1 w1 _ ({fr with todo:=.inRangeFunc im.Z7::L',defers:=mark++fr.defers}::cs) hp.ok (hB.post QH hp) (fun q hq=>hq.elim (fun e=>by have:=hS q e;omega) (fun e=>e.2)) hf2 (Uv he ha) (fun q hq Xu=>by
   rcases LI q n with h1|h1
   ·exact .inl (hR q (Lx _ hq) h1)
   ·exact .inr ⟨h1,Xu⟩)
  have e2:=JP.mu hf2;exact⟨Zn,w',μ',im,mark,L',hp.trans JP,e2 _ _ QP,ho2,hL.mono (e1.trans e2),hdf.mono e2,a,e1.trans e2,b.mono (e1.trans e2),.head (iw a e hel VY) (hends.2 _ _ rfl)⟩
theorem qf(hF:∀g,F g=true->QE P g=true)(Vx:eI P B rec){f:Operand}{ps:Array Tmp}{assign body:Code}{k:List Item}{fv v:Value}{H1:Qr}{l:Nat}{ds R1 R2:List Nat}{g:FuncId}{args:Array Value}{c1:CF}{s:Rs}(hm:c.mode=.run)(hu:Under H n)
 (ht:c.todo=.code (.rangeFunc f ps assign body)::k) (hfv:Zp c.tmps f=some fv) (ho:UN c H n ps assign body=some (H1,l,ds,R1)) (hc:Pu F H1 fv #[.func (.yield l) #[] #[]]=some (.enter g args,R2)) (he:Wz P g args=some c1) (hs:rec c1 H1 (l+1)=some s) (hv:s.out=.ret v):
 GoJ P B c H n {c with todo:=.endRangeFunc l::k,defers:=ds++c.defers} s.H s.n (R1++R2++s.R) s.W:=by
 obtain⟨Po,hsem⟩:=aB hF Vx hm hu ht hfv ho hc he hs;refine⟨Po,fun S μ w fr cs Z QH hB hS hf XM hR=> ?_⟩;obtain⟨Zn,w',μ',im,mark,L',hp,QP,We,hL,hdf,a,e,hT,Zm⟩:=hsem S μ w fr cs Z QH hB hS hf XM hR;rw[hv]at We;cases We with
 |ret _=>exact⟨{fr with todo:=.endRangeFunc im.Z7::L',defers:=mark++fr.defers},w',μ',hp,⟨XM.fn,hT,fun _=>.cons (.endRF QP) hL,DfB.app hdf (XM.defers.mono e),XM.mode.mono e,XM.kind,XM.round.mono e⟩,rfl,rfl,Zm⟩
theorem ey(hF:∀g,F g=true->QE P g=true)(Vx:eI P B rec){f:Operand}{ps:Array Tmp}{assign body:Code}{k:List Item}{fv v:Value}{H1:Qr}{l:Nat}{ds R1 R2:List Nat}{g:FuncId}{args:Array Value}{c1:CF}{s:Rs}(hm:c.mode=.run)(hu:Under H n)
 (ht:c.todo=.code (.rangeFunc f ps assign body)::k) (hfv:Zp c.tmps f=some fv) (ho:UN c H n ps assign body=some (H1,l,ds,R1)) (hc:Pu F H1 fv #[.func (.yield l) #[] #[]]=some (.enter g args,R2)) (he:Wz P g args=some c1) (hs:rec c1 H1 (l+1)=some s) (hv:s.out=.ZO v):
 GoJ P B c H n {c with mode:=.ZO v,defers:=ds++c.defers} s.H s.n (R1++R2++s.R) s.W:=by
 obtain⟨Po,hsem⟩:=aB hF Vx hm hu ht hfv ho hc he hs;refine⟨Po,fun S μ w fr cs Z QH hB hS hf XM hR=> ?_⟩;obtain⟨Zn,w',μ',im,mark,L',hp,QP,We,hL,hdf,a,e,hT,Zm⟩:=hsem S μ w fr cs Z QH hB hS hf XM hR;rw[hv]at We;cases We with
 |ZO Vw=>
  rename_i v';refine⟨{fr with todo:=.inRangeFunc im.Z7::L',defers:=mark++fr.defers,mode:=.panicking [{v:=v',recovered:=false}]},w',μ',hp,⟨XM.fn,hT,(fun h=>by cases h),DfB.app hdf (XM.defers.mono e),.ZO Vw,XM.kind,XM.round.mono e⟩,rfl,rfl,Zm.trans ?_⟩;simp only[OO.on,Frame.raise,a];exact Steps.refl _ _
theorem V2(hF:∀g,F g=true->QE P g=true)(Zc:P.follows .mixedOrders=true)(Wy:WK P B Xz)(Vx:eI P B rec)(hu:Under H n){fs:FS}(h:Pr P F Xz rec c H n=some fs):I2 P B c H n fs:=by
 unfold Pr at h;split at h
 ·rename_i hm;split at h
  ·rename_i ht;exact Pn hm hu (wR ht) h
  ·rename_i k ht;exact Pn hm hu (wQ ht) h
  ·rename_i k ht;simp only[YO]at h;subst h;exact FI hm ht
  ·rename_i l k ht;simp only[YO]at h;subst h;exact Dv hm ht
  ·rename_i l k ht;simp only[YO]at h;subst h;exact wY hm ht
  ·rename_i l k ht;simp only[YO]at h;subst h;exact wX hm ht
  ·rename_i x y k ht;simp only[YO]at h;subst h;exact H5 hm ht
  ·rename_i q x y k ht;split at h
   ·rename_i t hq;simp only[YO]at h;subst h;exact FN hm ht hq
   ·cases h
  ·rename_i id x k ht;simp only[YO]at h;subst h;exact Dx hm ht
  ·rename_i x k ht;simp only[YO]at h;subst h;exact FK hm ht
  ·rename_i x k ht;simp only[YO]at h;subst h;exact Af hm ht
  ·rename_i x k ht;simp only[YO]at h;subst h;exact Du hm ht
  ·rename_i id k ht;split at h
   ·rename_i k' hx;simp only[YO]at h;subst h;exact FM hm ht hx
   ·rename_i hx;exact Pn hm hu (u9 ht hx) h
  ·rename_i id k ht;split at h
   ·rename_i k' hx;simp only[YO]at h;subst h;exact FL hm ht hx
   ·rename_i hx;exact Pn hm hu (u7 ht hx) h
  ·rename_i id ops draw k ht;split at h
   ·rename_i Qx T' H' n' hr;cases hd:(!draw || (Vm 0 ops.toList && indep ops 0 Qx (YU ops.toList [])))with
    |false=>rw[hd]at h;cases h
    |true=>
     rw[<-Wc h];exact Ae hF Vx Wy Zc hm hu ht hr hd
   ·rename_i Qx T' v H' n' R W hr;cases hd:(!draw || Ss ops Qx T')with
    |false=>rw[hd]at h;cases h
    |true=>
     rw[<-Wc h];cases draw with
     |true=>
      obtain⟨hs,hk,KP⟩:=Ke hF Vx Wy (len:=c.tmps.len) ops.toList c.tmps H n Qx _ rfl hu hr;exact fH Zc hm ht hs hk KP (by simpa using hd)
     |false=>exact mM hF Vx Wy hm hu ht hr
   ·cases h
  ·rename_i f ps assign body k ht;split at h
   ·rename_i fv hfv;split at h
    ·rename_i H1 l ds R1 ho;split at h
     ·rename_i g args R2 hc;split at h
      ·rename_i c1 he;split at h
       ·rename_i s hs;split at h
        ·rename_i v hv;simp only[YO]at h;subst h;exact qf hF Vx hm hu ht hfv ho hc he hs hv
        ·rename_i v hv;simp only[YO]at h;subst h;exact ey hF Vx hm hu ht hfv ho hc he hs hv
       ·cases h
      ·cases h
     ·cases h
    ·cases h
   ·cases h
  ·rename_i l k ht;split at h
   ·rename_i r hg;by_cases hs:r.state=.busy
    ·simp[hs]at h
    ·simp only[hs,decide_false,Bool.not_false,cond_true,YO]at h;subst h;exact Dw hm hu ht hg hs
   ·cases h
  ·rename_i k ht;split at h
   ·rename_i l hr;split at h
    ·rename_i r hg;by_cases hs:r.state=.ready
     ·simp only[hs,decide_true,cond_true,YO]at h;subst h;exact mN hm hu ht hr hg hs
     ·simp[hs]at h
    ·cases h
   ·cases h
  ·cases h
 ·rename_i hm;split at h
  ·rename_i d ds hd;split at h
   ·rename_i hg;simp only[YO]at h;subst h;exact wZ hm hu hd hg
   ·cases h
  ·rename_i hd;split at h
   ·rename_i v hv;have hq:=DO h rfl;rw[<-Wc h];exact DA hv hd hq
   ·rename_i hnp;split at h
    ·rename_i v R hr hv;simp only[YO]at h;subst h;refine D9 hu ?_ hd hv;cases hq:c.mode with
     |run=>exact absurd hq hm
     |ret=>rfl
     |ZO v=>exact absurd hq (hnp v)
    ·cases h
theorem FJ.lists{out:OO}{H':Qr}{n':Nat}{R W R' W':List Nat}(h:FJ P B c H n out H' n' R W)(hR:∀i,i<n->(i∈R'<->i∈R))(hW:∀i,i<n->(i∈W'<->i∈W))(Xu:∀i∈W',i<n):FJ P B c H n out H' n' R' W':=by
 refine⟨⟨h.shape.le,fun i hi hw=>h.shape.keep i hi fun e=>hw ((hW i hi).2 e),h.shape.top,fun i hi=>(hR i (Xu i hi)).2 (h.shape.sub i ((hW i (Xu i hi)).1 hi)),fun i hi=>by have:=Xu i hi;have:=h.shape.le;omega⟩,fun S μ w fr cs QH hB hS hf XM hRS=> ?_⟩;obtain⟨Zn,w',μ',hp,ho,he⟩:=h.sem S μ w fr cs QH hB hS hf XM (fun i hi hl=>hRS i ((hR i hl).2 hi) hl);exact⟨Zn,w',μ',hp.lists hW,ho,he⟩
theorem Z2{b:Nat}{l acc:List Nat}{i:Nat}(hi:i<b):i∈Wd b l acc<->i∈acc\/i∈l:=by
 obtain⟨h1,h2,h3⟩:=mA (b:=b) l acc i;exact⟨fun h=>(h1 h).imp id And.left,fun h=>h.elim h2 fun h=>h3 h hi⟩
theorem Px{b:Nat}{l acc:List Nat}(h:∀i∈acc,i<b):∀i∈Wd b l acc,i<b:=fun i hi=>((mA (b:=b) l acc i).1 hi).elim (h i) And.right
theorem KR(hF:∀g,F g=true->QE P g=true)(Zc:P.follows .mixedOrders=true)(Wy:WK P B Xz):∀(fuel:Nat) (b:Nat) (c:CF) (H:Qr) (n:Nat) (R0 W0:List Nat) (s:Rs),Under H n->(∀i∈R0,i<b)->(∀i∈W0,i<b)->mO P F Xz fuel b c H n R0 W0=some s->
 ∃Rr Wr,FJ P B c H n s.out s.H s.n Rr Wr/\(∀i,i<b->(i∈s.R<->i∈R0\/i∈Rr))/\(∀i,i<b->(i∈s.W<->i∈W0\/i∈Wr))/\(∀i∈s.R,i<b)/\(∀i∈s.W,i<b)
 |0,b,c,H,n,R0,W0,s,hu,hR0,hW0,h=>by simp[mO]at h
 |fuel+1,b,c,H,n,R0,W0,s,hu,hR0,hW0,h=>by
  have Vx:eI P B (fun c1 H1 n1=>mO P F Xz fuel n1 c1 H1 n1 [] []):=by
   intro c1 H1 n1 s1 Sy h1;obtain⟨Rr,Wr,hfj,a1,a2,a3,a4⟩:=KR hF Zc Wy fuel n1 c1 H1 n1 [] [] s1 Sy (fun i hi=>by simp at hi) (fun i hi=>by simp at hi) h1;exact hfj.lists (fun i hi=>by simpa using a1 i hi) (fun i hi=>by simpa using a2 i hi) a4
  simp only[mO]at h;split at h
  ·rename_i c' H' n' R' W' hs;have JF:GoJ P B c H n c' H' n' R' W':=V2 hF Zc Wy Vx hu hs;obtain⟨Rr,Wr,hfj,a1,a2,a3,a4⟩:=KR hF Zc Wy fuel b c' H' n' (Wd b R' R0) (Wd b W' W0) s (hu.shape JF.shape) (Px hR0) (Px hW0) h;refine⟨R'++Rr,W'++Wr,JF.fj hfj,fun i hi=> ?_,fun i hi=> ?_,a3,a4⟩
   ·rw[a1 i hi,Z2 hi,L6,or_assoc]
   ·rw[a2 i hi,Z2 hi,L6,or_assoc]
  ·rename_i out H' n' R' W' hs;have hdone:FJ P B c H n out H' n' R' W':=V2 hF Zc Wy Vx hu hs;simp only[YO]at h;subst h;exact⟨R',W',hdone,fun i hi=>Z2 hi,fun i hi=>Z2 hi,Px hR0,Px hW0⟩
  ·cases h
end
end Go.CE
