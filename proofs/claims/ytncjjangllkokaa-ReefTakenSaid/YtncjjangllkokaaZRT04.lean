/- CE: frames. Eighth part: the whole run. -/
import Derived.Test.YtncjjangllkokaaZRT03
set_option linter.all false
namespace Go.CE
open Go Go.RowKit

theorem HU{α:Type}{q:Bool}{x:α}{r:Option α}(h:(bif q then some x else none)=r)(hr:r.isSome=true):q=true:=by
 cases q with
 |true=>rfl
 |false=>subst h;cases hr
section
variable {P:Program} {F:FuncId->Bool} {Xo:WW} {B:Lo} {rec:CF->Qo->Nat->Option Rs} {c:CF} {H:Qo} {n:Nat}
theorem aK(hF:∀g,F g=true->Q3 P g=true)(Vh:fP P B rec){f:Operand}{ps:Array Tmp}{assign body:Code}{k:List Item}{fv:Value}{H1:Qo}{l:Nat}{ds R1 R2:List Nat}{g:FuncId}{args:Array Value}{c1:CF}{s:Rs}(hm:c.mode=.run)(hu:Under H n)
 (ht:c.todo=.code (.rangeFunc f ps assign body)::k) (hfv:XW c.tmps f=some fv) (ho:U6 c H n ps assign body=some (H1,l,ds,R1)) (hc:Pf F H1 fv #[.func (.yield l) #[] #[]]=some (.enter g args,R2)) (he:Wa P g args=some c1) (hs:rec c1 H1 (l+1)=some s):
 Shape H n s.H s.n (R1++R2++s.R) s.W/\∀(S:Nat->Prop) (μ:Mu) (w:World) (fr:Frame) (cs:List Frame) (Z:Bot),Ok B S μ (Qs H) w->B.has w->(∀i,S i->i<n)->Y8 μ n s.n->FrR Z μ c fr->(∀i∈R1++R2++s.R,i<n->S i)->
  ∃XY w' μ' im mark L',Post B S n s.n s.W μ μ' H s.H w w'/\μ' l=some im/\OR2 μ' s.out XY/\TodoR μ' k L'/\DfR μ' ds mark/\fr.mode=.run/\Ext μ μ'/\TR μ' c.tmps fr.tmps/\
   Steps P (lone fr cs w) (lone (XY.on {fr with todo:=.inRangeFunc im.Zn::L',defers:=mark++fr.defers}) cs w'):=by
 have hR2:=yf hc;subst hR2;rw[List.append_nil];obtain⟨hsh1,hsem⟩:=Tg (P:=P) (B:=B) hu ho;have hfj:=Vh c1 H1 (l+1) s (hu.shape hsh1) hs;have l1:=hsh1.le;have l2:=hfj.shape.le;refine⟨hsh1.trans hfj.shape,fun S μ w fr cs Z QC hB hS hf X5 hR=> ?_⟩;obtain⟨a,b,d⟩:=X5.running hm;rw[ht]at d;obtain⟨L',e,hL⟩:=d.code;have hf1:Y8 μ n (l+1):=fun q x y=>hf q x (by omega)
 obtain⟨mark,w1,μ1,im,hel,QF,hp,hdf⟩:=hsem S μ w fr QC hB hS hf1 X5.fn b X5.round (fun q hq Xh=>hR q (List.mem_append_left _ hq) Xh);have e1:=hp.mu hf1;obtain⟨nx',VI,hnr⟩:=qY (P:=P) hF hc hp.ok ((nY b f fv hfv).mono e1) (args':=#[.func (.yield im.Zn) #[] #[]]) ⟨rfl,fun i v v' h1 h2=>by
  match i,h1,h2 with
  |0,h1,h2=>simp only[List.getElem?_toArray,List.getElem?_cons_zero,YO]at h1 h2;subst h1 h2;exact .yield QF
  |i+1,h1,h2=>simp at h1⟩ (fun i hi=>by simp at hi)
 cases hnr with
 |enter ha=>
  have hf2:∀q,l+1<=q->q<s.n->μ1 q=none:=fun q x y=>by rw[hp.ext q (by omega)];exact hf q (by omega) y
  obtain⟨XY,w',μ',KE,ho2,hends⟩:=hfj.sem _ μ1 w1 _ ({fr with todo:=.inRangeFunc im.Zn::L',defers:=mark++fr.defers}::cs) hp.ok (hB.post QC hp) (fun q hq=>hq.elim (fun e=>by have:=hS q e;omega) (fun e=>e.2)) hf2 (Ui he ha) (fun q hq Xh=>by
   rcases Nat.lt_or_ge q n with h1|h1
   ·exact .inl (hR q (List.mem_append_right _ hq) h1)
   ·exact .inr ⟨h1,Xh⟩)
  have e2:=KE.mu hf2;exact⟨XY,w',μ',im,mark,L',hp.trans KE,e2 _ _ QF,ho2,hL.mono (e1.trans e2),hdf.mono e2,a,e1.trans e2,b.mono (e1.trans e2),.head (kh a e hel VI) (hends.2 _ _ rfl)⟩
theorem sM(hF:∀g,F g=true->Q3 P g=true)(Vh:fP P B rec){f:Operand}{ps:Array Tmp}{assign body:Code}{k:List Item}{fv v:Value}{H1:Qo}{l:Nat}{ds R1 R2:List Nat}{g:FuncId}{args:Array Value}{c1:CF}{s:Rs}(hm:c.mode=.run)(hu:Under H n)
 (ht:c.todo=.code (.rangeFunc f ps assign body)::k) (hfv:XW c.tmps f=some fv) (ho:U6 c H n ps assign body=some (H1,l,ds,R1)) (hc:Pf F H1 fv #[.func (.yield l) #[] #[]]=some (.enter g args,R2)) (he:Wa P g args=some c1) (hs:rec c1 H1 (l+1)=some s) (hv:s.out=.ret v):
 GoJ P B c H n {c with todo:=.endRangeFunc l::k,defers:=ds++c.defers} s.H s.n (R1++R2++s.R) s.W:=by
 obtain⟨JY,hsem⟩:=aK hF Vh hm hu ht hfv ho hc he hs;refine⟨JY,fun S μ w fr cs Z QC hB hS hf X5 hR=> ?_⟩;obtain⟨XY,w',μ',im,mark,L',hp,QF,ZL,hL,hdf,a,e,hT,Z7⟩:=hsem S μ w fr cs Z QC hB hS hf X5 hR;rw[hv]at ZL;cases ZL with
 |ret _=>exact⟨{fr with todo:=.endRangeFunc im.Zn::L',defers:=mark++fr.defers},w',μ',hp,⟨X5.fn,hT,fun _=>.cons (.endRF QF) hL,DfB.app hdf (X5.defers.mono e),X5.mode.mono e,X5.kind,X5.round.mono e⟩,rfl,rfl,Z7⟩
theorem fF(hF:∀g,F g=true->Q3 P g=true)(Vh:fP P B rec){f:Operand}{ps:Array Tmp}{assign body:Code}{k:List Item}{fv v:Value}{H1:Qo}{l:Nat}{ds R1 R2:List Nat}{g:FuncId}{args:Array Value}{c1:CF}{s:Rs}(hm:c.mode=.run)(hu:Under H n)
 (ht:c.todo=.code (.rangeFunc f ps assign body)::k) (hfv:XW c.tmps f=some fv) (ho:U6 c H n ps assign body=some (H1,l,ds,R1)) (hc:Pf F H1 fv #[.func (.yield l) #[] #[]]=some (.enter g args,R2)) (he:Wa P g args=some c1) (hs:rec c1 H1 (l+1)=some s) (hv:s.out=.Z6 v):
 GoJ P B c H n {c with mode:=.Z6 v,defers:=ds++c.defers} s.H s.n (R1++R2++s.R) s.W:=by
 obtain⟨JY,hsem⟩:=aK hF Vh hm hu ht hfv ho hc he hs;refine⟨JY,fun S μ w fr cs Z QC hB hS hf X5 hR=> ?_⟩;obtain⟨XY,w',μ',im,mark,L',hp,QF,ZL,hL,hdf,a,e,hT,Z7⟩:=hsem S μ w fr cs Z QC hB hS hf X5 hR;rw[hv]at ZL;cases ZL with
 |Z6 Vf=>
  rename_i v';refine⟨{fr with todo:=.inRangeFunc im.Zn::L',defers:=mark++fr.defers,mode:=.panicking [{v:=v',recovered:=false}]},w',μ',hp,⟨X5.fn,hT,(fun h=>by cases h),DfB.app hdf (X5.defers.mono e),.Z6 Vf,X5.kind,X5.round.mono e⟩,rfl,rfl,Z7.trans ?_⟩;simp only[OO.on,Frame.raise,a];exact Steps.refl _ _
theorem Vm(hF:∀g,F g=true->Q3 P g=true)(XP:P.follows .mixedOrders=true)(ZZ:Wu P B Xo)(Vh:fP P B rec)(hu:Under H n){fs:FS}(h:Pb P F Xo rec c H n=some fs):O1 P B c H n fs:=by
 unfold Pb at h;split at h
 ·rename_i hm;split at h
  ·rename_i ht;exact JX hm hu (Ar ht) h
  ·rename_i k ht;exact JX hm hu (Aq ht) h
  ·rename_i k ht;simp only[YO]at h;subst h;exact LF hm ht
  ·rename_i l k ht;simp only[YO]at h;subst h;exact Hy hm ht
  ·rename_i l k ht;simp only[YO]at h;subst h;exact Ay hm ht
  ·rename_i l k ht;simp only[YO]at h;subst h;exact Ax hm ht
  ·rename_i x y k ht;simp only[YO]at h;subst h;exact Nv hm ht
  ·rename_i q x y k ht;split at h
   ·rename_i t hq;simp only[YO]at h;subst h;exact LJ hm ht hq
   ·cases h
  ·rename_i id x k ht;simp only[YO]at h;subst h;exact H3 hm ht
  ·rename_i x k ht;simp only[YO]at h;subst h;exact LG hm ht
  ·rename_i x k ht;simp only[YO]at h;subst h;exact DS hm ht
  ·rename_i x k ht;simp only[YO]at h;subst h;exact Hx hm ht
  ·rename_i id k ht;split at h
   ·rename_i k' hx;simp only[YO]at h;subst h;exact LI hm ht hx
   ·rename_i hx;exact JX hm hu (xI ht hx) h
  ·rename_i id k ht;split at h
   ·rename_i k' hx;simp only[YO]at h;subst h;exact LH hm ht hx
   ·rename_i hx;exact JX hm hu (xH ht hx) h
  ·rename_i id ops draw k ht;split at h
   ·rename_i Qw T' H' n' hr;cases hd:(!draw || (WV 0 ops.toList && indep ops 0 Qw (Y6 ops.toList [])))with
    |false=>rw[hd]at h;cases h
    |true=>
     rw[<-ZJ h];exact DR hF Vh ZZ XP hm hu ht hr hd
   ·rename_i Qw T' v H' n' R W hr;cases hd:(!draw || RY ops Qw T')with
    |false=>rw[hd]at h;cases h
    |true=>
     rw[<-ZJ h];cases draw with
     |true=>
      obtain⟨hs,hk,JH⟩:=UO hF Vh ZZ (len:=c.tmps.len) ops.toList c.tmps H n Qw _ rfl hu hr;exact ib XP hm ht hs hk JH (by simpa using hd)
     |false=>exact oM hF Vh ZZ hm hu ht hr
   ·cases h
  ·rename_i f ps assign body k ht;split at h
   ·rename_i fv hfv;split at h
    ·rename_i H1 l ds R1 ho;split at h
     ·rename_i g args R2 hc;split at h
      ·rename_i c1 he;split at h
       ·rename_i s hs;split at h
        ·rename_i v hv;simp only[YO]at h;subst h;exact sM hF Vh hm hu ht hfv ho hc he hs hv
        ·rename_i v hv;simp only[YO]at h;subst h;exact fF hF Vh hm hu ht hfv ho hc he hs hv
       ·cases h
      ·cases h
     ·cases h
    ·cases h
   ·cases h
  ·rename_i l k ht;split at h
   ·rename_i r hg;by_cases hs:r.state=.busy
    ·simp[hs]at h
    ·simp only[hs,decide_false,Bool.not_false,cond_true,YO]at h;subst h;exact Hz hm hu ht hg hs
   ·cases h
  ·rename_i k ht;split at h
   ·rename_i l hr;split at h
    ·rename_i r hg;by_cases hs:r.state=.ready
     ·simp only[hs,decide_true,cond_true,YO]at h;subst h;exact oN hm hu ht hr hg hs
     ·simp[hs]at h
    ·cases h
   ·cases h
  ·cases h
 ·rename_i hm;split at h
  ·rename_i d ds hd;split at h
   ·rename_i hg;simp only[YO]at h;subst h;exact Az hm hu hd hg
   ·cases h
  ·rename_i hd;split at h
   ·rename_i v hv;have hq:=HU h rfl;rw[<-ZJ h];exact HF hv hd hq
   ·rename_i hnp;split at h
    ·rename_i v R hr hv;simp only[YO]at h;subst h;refine HE hu ?_ hd hv;cases hq:c.mode with
     |run=>exact absurd hq hm
     |ret=>rfl
     |Z6 v=>exact absurd hq (hnp v)
    ·cases h
theorem FJ.lists{out:OO}{H':Qo}{n':Nat}{R W R' W':List Nat}(h:FJ P B c H n out H' n' R W)(hR:∀i,i<n->(i∈R'<->i∈R))(hW:∀i,i<n->(i∈W'<->i∈W))(Xh:∀i∈W',i<n):FJ P B c H n out H' n' R' W':=by
 refine⟨⟨h.shape.le,fun i hi hw=>h.shape.keep i hi fun e=>hw ((hW i hi).2 e),h.shape.top,fun i hi=>(hR i (Xh i hi)).2 (h.shape.sub i ((hW i (Xh i hi)).1 hi)),fun i hi=>by have:=Xh i hi;have:=h.shape.le;omega⟩,fun S μ w fr cs QC hB hS hf X5 hRS=> ?_⟩;obtain⟨XY,w',μ',hp,ho,he⟩:=h.sem S μ w fr cs QC hB hS hf X5 (fun i hi hl=>hRS i ((hR i hl).2 hi) hl);exact⟨XY,w',μ',hp.lists hW,ho,he⟩
theorem Zj{b:Nat}{l acc:List Nat}{i:Nat}(hi:i<b):i∈ZK b l acc<->i∈acc\/i∈l:=by
 obtain⟨h1,h2,h3⟩:=o9 (b:=b) l acc i;exact⟨fun h=>(h1 h).imp id And.left,fun h=>h.elim h2 fun h=>h3 h hi⟩
theorem Ph{b:Nat}{l acc:List Nat}(h:∀i∈acc,i<b):∀i∈ZK b l acc,i<b:=fun i hi=>((o9 (b:=b) l acc i).1 hi).elim (h i) And.right
theorem KG(hF:∀g,F g=true->Q3 P g=true)(XP:P.follows .mixedOrders=true)(ZZ:Wu P B Xo):∀(fuel:Nat) (b:Nat) (c:CF) (H:Qo) (n:Nat) (R0 W0:List Nat) (s:Rs),Under H n->(∀i∈R0,i<b)->(∀i∈W0,i<b)->oO P F Xo fuel b c H n R0 W0=some s->
 ∃Rr Wr,FJ P B c H n s.out s.H s.n Rr Wr/\(∀i,i<b->(i∈s.R<->i∈R0\/i∈Rr))/\(∀i,i<b->(i∈s.W<->i∈W0\/i∈Wr))/\(∀i∈s.R,i<b)/\(∀i∈s.W,i<b)
 |0,b,c,H,n,R0,W0,s,hu,hR0,hW0,h=>by simp[oO]at h
 |fuel+1,b,c,H,n,R0,W0,s,hu,hR0,hW0,h=>by
  have Vh:fP P B (fun c1 H1 n1=>oO P F Xo fuel n1 c1 H1 n1 [] []):=by
   intro c1 H1 n1 s1 Sg h1;obtain⟨Rr,Wr,hfj,a1,a2,a3,a4⟩:=KG hF XP ZZ fuel n1 c1 H1 n1 [] [] s1 Sg (fun i hi=>by simp at hi) (fun i hi=>by simp at hi) h1;exact hfj.lists (fun i hi=>by simpa using a1 i hi) (fun i hi=>by simpa using a2 i hi) a4
  simp only[oO]at h;split at h
  ·rename_i c' H' n' R' W' hs;have J4:GoJ P B c H n c' H' n' R' W':=Vm hF XP ZZ Vh hu hs;obtain⟨Rr,Wr,hfj,a1,a2,a3,a4⟩:=KG hF XP ZZ fuel b c' H' n' (ZK b R' R0) (ZK b W' W0) s (hu.shape J4.shape) (Ph hR0) (Ph hW0) h;refine⟨R'++Rr,W'++Wr,J4.fj hfj,fun i hi=> ?_,fun i hi=> ?_,a3,a4⟩
   ·rw[a1 i hi,Zj hi,List.mem_append,or_assoc]
   ·rw[a2 i hi,Zj hi,List.mem_append,or_assoc]
  ·rename_i out H' n' R' W' hs;have hdone:FJ P B c H n out H' n' R' W':=Vm hF XP ZZ Vh hu hs;simp only[YO]at h;subst h;exact⟨R',W',hdone,fun i hi=>Zj hi,fun i hi=>Zj hi,Ph hR0,Ph hW0⟩
  ·cases h
end
end Go.CE
