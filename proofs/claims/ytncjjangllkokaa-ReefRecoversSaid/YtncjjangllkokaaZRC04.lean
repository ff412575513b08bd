/- CE: frames. Eighth part: the whole run. -/
import Derived.Test.YtncjjangllkokaaZRC03
set_option linter.all false
open List renaming mem_append_left->MV,getElem?_toArray->Nz,getElem?_cons_zero->Nb,mem_append_right->Nd,mem_append->NG
open Nat renaming lt_or_ge->Nm
namespace Go.CE
open Go Go.RowKit

theorem Ga{α:Type}{q:Bool}{x:α}{r:Option α}(h:(bif q then some x else none)=r)(hr:r.isSome=true):q=true:=by
 cases q with
 |true=>rfl
 |false=>subst h;cases hr
section
variable {P:Program} {F:FuncId->Bool} {X5:Vg} {B:Lo} {rec:CF->Qm->Nat->Option Rs} {c:CF} {H:Qm} {n:Nat}
theorem bl(hF:∀g,F g=true->Q8 P g=true)(Vt:fX P B rec){f:Operand}{ps:Array Tmp}{assign body:Code}{k:List Item}{fv:Value}{H1:Qm}{l:Nat}{ds R1 R2:List Nat}{g:FuncId}{args:Array Value}{c1:CF}{s:Rs}(hm:c.mode=.run)(hu:Under H n)
 (ht:c.todo=.code (.rangeFunc f ps assign body)::k) (hfv:Zi c.tmps f=some fv) (ho:US c H n ps assign body=some (H1,l,ds,R1)) (hc:P8 F H1 fv #[.func (.yield l) #[] #[]]=some (.enter g args,R2)) (he:Wt P g args=some c1) (hs:rec c1 H1 (l+1)=some s):
 Shape H n s.H s.n (R1++R2++s.R) s.W/\∀(S:Nat->Prop) (μ:Mu) (w:World) (fr:Frame) (cs:List Frame) (Z:Bot),Ok B S μ (Qs H) w->B.has w->(∀i,S i->i<n)->Jg μ n s.n->FrR Z μ c fr->(∀i∈R1++R2++s.R,i<n->S i)->
  ∃Zl w' μ' im mark L',Post B S n s.n s.W μ μ' H s.H w w'/\μ' l=some im/\OR2 μ' s.out Zl/\TodoR μ' k L'/\DfR μ' ds mark/\fr.mode=.run/\Ext μ μ'/\TR μ' c.tmps fr.tmps/\
   Steps P (lone fr cs w) (lone (Zl.on {fr with todo:=.inRangeFunc im.Z1::L',defers:=mark++fr.defers}) cs w'):=by
 have hR2:=xF hc;subst hR2;rw[List.append_nil];obtain⟨hsh1,hsem⟩:=TK (P:=P) (B:=B) hu ho;have hfj:=Vt c1 H1 (l+1) s (hu.shape hsh1) hs;have l1:=hsh1.le;have l2:=hfj.shape.le;refine⟨hsh1.trans hfj.shape,fun S μ w fr cs Z QF hB hS hf XK hR=> ?_⟩;obtain⟨a,b,d⟩:=XK.running hm;rw[ht]at d;obtain⟨L',e,hL⟩:=d.code;have hf1:Jg μ n (l+1):=fun q x y=>hf q x (by omega)
 obtain⟨mark,w1,μ1,im,hel,QK,hp,hdf⟩:=hsem S μ w fr QF hB hS hf1 XK.fn b XK.round (fun q hq X2=>hR q (MV _ hq) X2);have e1:=hp.mu hf1;obtain⟨nx',Uc,hnr⟩:=qM (P:=P) hF hc hp.ok ((nN b f fv hfv).mono e1) (args':=#[.func (.yield im.Z1) #[] #[]]) ⟨rfl,fun i v v' h1 h2=>by
  match i,h1,h2 with
  |0,h1,h2=>simp only[Nz,Nb,YO]at h1 h2;subst h1 h2;exact .yield QK
  |i+1,h1,h2=>simp at h1⟩ (fun i hi=>by simp at hi)
 cases hnr with
 |enter ha=>
  have hf2:∀q,l+1<=q->q<s.n->μ1 q=none:=fun q x y=>by rw[hp.ext q (by omega)];exact hf q (by omega) y
  obtain⟨Zl,w',μ',KY,ho2,hends⟩:=hfj.sem _ μ1 w1 _ ({fr with todo:=.inRangeFunc im.Z1::L',defers:=mark++fr.defers}::cs) hp.ok (hB.post QF hp) (fun q hq=>hq.elim (fun e=>by have:=hS q e;omega) (fun e=>e.2)) hf2 (Ux he ha) (fun q hq X2=>by
   rcases Nm q n with h1|h1
   ·exact .inl (hR q (Nd _ hq) h1)
   ·exact .inr ⟨h1,X2⟩)
  have e2:=KY.mu hf2;exact⟨Zl,w',μ',im,mark,L',hp.trans KY,e2 _ _ QK,ho2,hL.mono (e1.trans e2),hdf.mono e2,a,e1.trans e2,b.mono (e1.trans e2),.head (jP a e hel Uc) (hends.2 _ _ rfl)⟩
theorem sN(hF:∀g,F g=true->Q8 P g=true)(Vt:fX P B rec){f:Operand}{ps:Array Tmp}{assign body:Code}{k:List Item}{fv v:Value}{H1:Qm}{l:Nat}{ds R1 R2:List Nat}{g:FuncId}{args:Array Value}{c1:CF}{s:Rs}(hm:c.mode=.run)(hu:Under H n)
 (ht:c.todo=.code (.rangeFunc f ps assign body)::k) (hfv:Zi c.tmps f=some fv) (ho:US c H n ps assign body=some (H1,l,ds,R1)) (hc:P8 F H1 fv #[.func (.yield l) #[] #[]]=some (.enter g args,R2)) (he:Wt P g args=some c1) (hs:rec c1 H1 (l+1)=some s) (hv:s.out=.ret v):
 GoJ P B c H n {c with todo:=.endRangeFunc l::k,defers:=ds++c.defers} s.H s.n (R1++R2++s.R) s.W:=by
 obtain⟨P1,hsem⟩:=bl hF Vt hm hu ht hfv ho hc he hs;refine⟨P1,fun S μ w fr cs Z QF hB hS hf XK hR=> ?_⟩;obtain⟨Zl,w',μ',im,mark,L',hp,QK,Wd,hL,hdf,a,e,hT,ZQ⟩:=hsem S μ w fr cs Z QF hB hS hf XK hR;rw[hv]at Wd;cases Wd with
 |ret _=>exact⟨{fr with todo:=.endRangeFunc im.Z1::L',defers:=mark++fr.defers},w',μ',hp,⟨XK.fn,hT,fun _=>.cons (.endRF QK) hL,DfB.app hdf (XK.defers.mono e),XK.mode.mono e,XK.kind,XK.round.mono e⟩,rfl,rfl,ZQ⟩
theorem fN(hF:∀g,F g=true->Q8 P g=true)(Vt:fX P B rec){f:Operand}{ps:Array Tmp}{assign body:Code}{k:List Item}{fv v:Value}{H1:Qm}{l:Nat}{ds R1 R2:List Nat}{g:FuncId}{args:Array Value}{c1:CF}{s:Rs}(hm:c.mode=.run)(hu:Under H n)
 (ht:c.todo=.code (.rangeFunc f ps assign body)::k) (hfv:Zi c.tmps f=some fv) (ho:US c H n ps assign body=some (H1,l,ds,R1)) (hc:P8 F H1 fv #[.func (.yield l) #[] #[]]=some (.enter g args,R2)) (he:Wt P g args=some c1) (hs:rec c1 H1 (l+1)=some s) (hv:s.out=.ZG v):
 GoJ P B c H n {c with mode:=.ZG v,defers:=ds++c.defers} s.H s.n (R1++R2++s.R) s.W:=by
 obtain⟨P1,hsem⟩:=bl hF Vt hm hu ht hfv ho hc he hs;refine⟨P1,fun S μ w fr cs Z QF hB hS hf XK hR=> ?_⟩;obtain⟨Zl,w',μ',im,mark,L',hp,QK,Wd,hL,hdf,a,e,hT,ZQ⟩:=hsem S μ w fr cs Z QF hB hS hf XK hR;rw[hv]at Wd;cases Wd with
 |ZG Vr=>
  rename_i v';refine⟨{fr with todo:=.inRangeFunc im.Z1::L',defers:=mark++fr.defers,mode:=.panicking [{v:=v',recovered:=false}]},w',μ',hp,⟨XK.fn,hT,(fun h=>by cases h),DfB.app hdf (XK.defers.mono e),.ZG Vr,XK.kind,XK.round.mono e⟩,rfl,rfl,ZQ.trans ?_⟩;simp only[OO.on,Frame.raise,a];exact Steps.refl _ _
theorem Vx(hF:∀g,F g=true->Q8 P g=true)(XY:P.follows .mixedOrders=true)(Ws:WE P B X5)(Vt:fX P B rec)(hu:Under H n){fs:FS}(h:P6 P F X5 rec c H n=some fs):Mn P B c H n fs:=by
 unfold P6 at h;split at h
 ·rename_i hm;split at h
  ·rename_i ht;exact Pz hm hu (zx ht) h
  ·rename_i k ht;exact Pz hm hu (zw ht) h
  ·rename_i k ht;simp only[YO]at h;subst h;exact HC hm ht
  ·rename_i l k ht;simp only[YO]at h;subst h;exact F7 hm ht
  ·rename_i l k ht;simp only[YO]at h;subst h;exact z3 hm ht
  ·rename_i l k ht;simp only[YO]at h;subst h;exact z2 hm ht
  ·rename_i x y k ht;simp only[YO]at h;subst h;exact Lj hm ht
  ·rename_i q x y k ht;split at h
   ·rename_i t hq;simp only[YO]at h;subst h;exact HG hm ht hq
   ·cases h
  ·rename_i id x k ht;simp only[YO]at h;subst h;exact F9 hm ht
  ·rename_i x k ht;simp only[YO]at h;subst h;exact HD hm ht
  ·rename_i x k ht;simp only[YO]at h;subst h;exact C2 hm ht
  ·rename_i x k ht;simp only[YO]at h;subst h;exact F6 hm ht
  ·rename_i id k ht;split at h
   ·rename_i k' hx;simp only[YO]at h;subst h;exact HF hm ht hx
   ·rename_i hx;exact Pz hm hu (xh ht hx) h
  ·rename_i id k ht;split at h
   ·rename_i k' hx;simp only[YO]at h;subst h;exact HE hm ht hx
   ·rename_i hx;exact Pz hm hu (xg ht hx) h
  ·rename_i id ops draw k ht;split at h
   ·rename_i Qx T' H' n' hr;cases hd:(!draw || (Vf 0 ops.toList && indep ops 0 Qx (Jf ops.toList [])))with
    |false=>rw[hd]at h;cases h
    |true=>
     rw[<-Wb h];exact C1 hF Vt Ws XY hm hu ht hr hd
   ·rename_i Qx T' v H' n' R W hr;cases hd:(!draw || SH ops Qx T')with
    |false=>rw[hd]at h;cases h
    |true=>
     rw[<-Wb h];cases draw with
     |true=>
      obtain⟨hs,hk,Pg⟩:=Kk hF Vt Ws (len:=c.tmps.len) ops.toList c.tmps H n Qx _ rfl hu hr;exact ia XY hm ht hs hk Pg (by simpa using hd)
     |false=>exact oR hF Vt Ws hm hu ht hr
   ·cases h
  ·rename_i f ps assign body k ht;split at h
   ·rename_i fv hfv;split at h
    ·rename_i H1 l ds R1 ho;split at h
     ·rename_i g args R2 hc;split at h
      ·rename_i c1 he;split at h
       ·rename_i s hs;split at h
        ·rename_i v hv;simp only[YO]at h;subst h;exact sN hF Vt hm hu ht hfv ho hc he hs hv
        ·rename_i v hv;simp only[YO]at h;subst h;exact fN hF Vt hm hu ht hfv ho hc he hs hv
       ·cases h
      ·cases h
     ·cases h
    ·cases h
   ·cases h
  ·rename_i l k ht;split at h
   ·rename_i r hg;by_cases hs:r.state=.busy
    ·simp[hs]at h
    ·simp only[hs,decide_false,Bool.not_false,cond_true,YO]at h;subst h;exact F8 hm hu ht hg hs
   ·cases h
  ·rename_i k ht;split at h
   ·rename_i l hr;split at h
    ·rename_i r hg;by_cases hs:r.state=.ready
     ·simp only[hs,decide_true,cond_true,YO]at h;subst h;exact oS hm hu ht hr hg hs
     ·simp[hs]at h
    ·cases h
   ·cases h
  ·cases h
 ·rename_i hm;split at h
  ·rename_i d ds hd;split at h
   ·rename_i hg;simp only[YO]at h;subst h;exact z4 hm hu hd hg
   ·cases h
  ·rename_i hd;split at h
   ·rename_i v hv;have hq:=Ga h rfl;rw[<-Wb h];exact FL hv hd hq
   ·rename_i hnp;split at h
    ·rename_i v R hr hv;simp only[YO]at h;subst h;refine FK hu ?_ hd hv;cases hq:c.mode with
     |run=>exact absurd hq hm
     |ret=>rfl
     |ZG v=>exact absurd hq (hnp v)
    ·cases h
theorem FJ.lists{out:OO}{H':Qm}{n':Nat}{R W R' W':List Nat}(h:FJ P B c H n out H' n' R W)(hR:∀i,i<n->(i∈R'<->i∈R))(hW:∀i,i<n->(i∈W'<->i∈W))(X2:∀i∈W',i<n):FJ P B c H n out H' n' R' W':=by
 refine⟨⟨h.shape.le,fun i hi hw=>h.shape.keep i hi fun e=>hw ((hW i hi).2 e),h.shape.top,fun i hi=>(hR i (X2 i hi)).2 (h.shape.sub i ((hW i (X2 i hi)).1 hi)),fun i hi=>by have:=X2 i hi;have:=h.shape.le;omega⟩,fun S μ w fr cs QF hB hS hf XK hRS=> ?_⟩;obtain⟨Zl,w',μ',hp,ho,he⟩:=h.sem S μ w fr cs QF hB hS hf XK (fun i hi hl=>hRS i ((hR i hl).2 hi) hl);exact⟨Zl,w',μ',hp.lists hW,ho,he⟩
theorem Zy{b:Nat}{l acc:List Nat}{i:Nat}(hi:i<b):i∈Wc b l acc<->i∈acc\/i∈l:=by
 obtain⟨h1,h2,h3⟩:=ox (b:=b) l acc i;exact⟨fun h=>(h1 h).imp id And.left,fun h=>h.elim h2 fun h=>h3 h hi⟩
theorem PA{b:Nat}{l acc:List Nat}(h:∀i∈acc,i<b):∀i∈Wc b l acc,i<b:=fun i hi=>((ox (b:=b) l acc i).1 hi).elim (h i) And.right
theorem Ya(hF:∀g,F g=true->Q8 P g=true)(XY:P.follows .mixedOrders=true)(Ws:WE P B X5):∀(fuel:Nat) (b:Nat) (c:CF) (H:Qm) (n:Nat) (R0 W0:List Nat) (s:Rs),Under H n->(∀i∈R0,i<b)->(∀i∈W0,i<b)->oT P F X5 fuel b c H n R0 W0=some s->
 ∃Rr Wr,FJ P B c H n s.out s.H s.n Rr Wr/\(∀i,i<b->(i∈s.R<->i∈R0\/i∈Rr))/\(∀i,i<b->(i∈s.W<->i∈W0\/i∈Wr))/\(∀i∈s.R,i<b)/\(∀i∈s.W,i<b)
 |0,b,c,H,n,R0,W0,s,hu,hR0,hW0,h=>by simp[oT]at h
 |fuel+1,b,c,H,n,R0,W0,s,hu,hR0,hW0,h=>by
  have Vt:fX P B (fun c1 H1 n1=>oT P F X5 fuel n1 c1 H1 n1 [] []):=by
   intro c1 H1 n1 s1 SM h1;obtain⟨Rr,Wr,hfj,a1,a2,a3,a4⟩:=Ya hF XY Ws fuel n1 c1 H1 n1 [] [] s1 SM (fun i hi=>by simp at hi) (fun i hi=>by simp at hi) h1;exact hfj.lists (fun i hi=>by simpa using a1 i hi) (fun i hi=>by simpa using a2 i hi) a4
  simp only[oT]at h;split at h
  ·rename_i c' H' n' R' W' hs;have YA:GoJ P B c H n c' H' n' R' W':=Vx hF XY Ws Vt hu hs;obtain⟨Rr,Wr,hfj,a1,a2,a3,a4⟩:=Ya hF XY Ws fuel b c' H' n' (Wc b R' R0) (Wc b W' W0) s (hu.shape YA.shape) (PA hR0) (PA hW0) h;refine⟨R'++Rr,W'++Wr,YA.fj hfj,fun i hi=> ?_,fun i hi=> ?_,a3,a4⟩
   ·rw[a1 i hi,Zy hi,NG,or_assoc]
   ·rw[a2 i hi,Zy hi,NG,or_assoc]
  ·rename_i out H' n' R' W' hs;have hdone:FJ P B c H n out H' n' R' W':=Vx hF XY Ws Vt hu hs;simp only[YO]at h;subst h;exact⟨R',W',hdone,fun i hi=>Zy hi,fun i hi=>Zy hi,PA hR0,PA hW0⟩
  ·cases h
end
end Go.CE
