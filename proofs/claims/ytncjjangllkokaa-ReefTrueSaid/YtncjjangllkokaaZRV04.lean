import Derived.Test.YtncjjangllkokaaZRV03
set_option linter.all false
open List renaming mem_append_left->Oh,getElem?_cons_zero->Oq,mem_append_right->Ov
open Nat renaming lt_or_ge->OG
namespace Go.CE
open Go Go.RowKit

theorem HM{α:Type}{q:Bool}{x:α}{r:Option α}(h:(bif q then some x else none)=r)(hr:r.isSome=true):q=true:=by
 cases q with
 |true=>rfl
 |false=>subst h;cases hr
section
variable {P:Program} {F:FuncId->Bool} {Xx:Vf} {B:Lo} {rec:CF->Qy->Nat->Option Rs} {c:CF} {H:Qy} {n:Nat}
theorem cc(hF:∀g,F g=true->Q9 P g=true)(V1:gL P B rec){f:Operand}{ps:Array Tmp}{assign body:Code}{k:List Item}{fv:Value}{H1:Qy}{l:Nat}{ds R1 R2:List Nat}{g:FuncId}{args:Array Value}{c1:CF}{s:Rs}(hm:c.mode=.run)(hu:Under H n)
 (ht:c.todo=.code (.rangeFunc f ps assign body)::k) (hfv:Zl c.tmps f=some fv) (ho:Kw c H n ps assign body=some (H1,l,ds,R1)) (hc:RI F H1 fv #[.func (.yield l) #[] #[]]=some (.enter g args,R2)) (he:ZW P g args=some c1) (hs:rec c1 H1 (l+1)=some s):
 Shape H n s.H s.n (R1++R2++s.R) s.W/\∀(S:Nat->Prop) (μ:Mu) (w:World) (fr:Frame) (cs:List Frame) (Z:Bot),Ok B S μ (Q1 H) w->B.has w->(∀i,S i->i<n)->Pr μ n s.n->FrR Z μ c fr->(∀i∈R1++R2++s.R,i<n->S i)->
  ∃Zq w' μ' im mark L',Post B S n s.n s.W μ μ' H s.H w w'/\μ' l=some im/\OR2 μ' s.out Zq/\TodoR μ' k L'/\DfR μ' ds mark/\fr.mode=.run/\Ext μ μ'/\TR μ' c.tmps fr.tmps/\
   Steps P (lone fr cs w) (lone (Zq.on {fr with todo:=.inRangeFunc im.Zz::L',defers:=mark++fr.defers}) cs w'):=by
 have hR2:=yj hc;subst hR2;rw[List.append_nil];obtain⟨hsh1,hsem⟩:=aO (P:=P) (B:=B) hu ho;have hfj:=V1 c1 H1 (l+1) s (hu.shape hsh1) hs;have l1:=hsh1.le;have l2:=hfj.shape.le;refine⟨hsh1.trans hfj.shape,fun S μ w fr cs Z QF hB hS hf XP hR=> ?_⟩;obtain⟨a,b,d⟩:=XP.running hm;rw[ht]at d;obtain⟨L',e,hL⟩:=d.code;have hf1:Pr μ n (l+1):=fun q x y=>hf q x (by omega)
 obtain⟨mark,w1,μ1,im,hel,QN,hp,hdf⟩:=hsem S μ w fr QF hB hS hf1 XP.fn b XP.round (fun q hq Xw=>hR q (Oh _ hq) Xw);have e1:=hp.mu hf1;obtain⟨nx',Uj,hnr⟩:=qA (P:=P) hF hc hp.ok ((qv b f fv hfv).mono e1) (args':=#[.func (.yield im.Zz) #[] #[]]) ⟨rfl,fun i v v' h1 h2=>by
  match i,h1,h2 with
  |0,h1,h2=>simp only[List.getElem?_toArray,Oq,YO]at h1 h2;subst h1 h2;exact .yield QN
  |i+1,h1,h2=>simp at h1⟩ (fun i hi=>by simp at hi)
 cases hnr with
 |enter ha=>
  have hf2:∀q,l+1<=q->q<s.n->μ1 q=none:=fun q x y=>by rw[hp.ext q (by omega)];exact hf q (by omega) y
  obtain⟨Zq,w',μ',Ph,ho2,hends⟩:=hfj.sem _ μ1 w1 _ ({fr with todo:=.inRangeFunc im.Zz::L',defers:=mark++fr.defers}::cs) hp.ok (hB.post QF hp) (fun q hq=>hq.elim (fun e=>by have:=hS q e;omega) (fun e=>e.2)) hf2 (Kc he ha) (fun q hq Xw=>by
   rcases OG q n with h1|h1
   ·exact .inl (hR q (Ov _ hq) h1)
   ·exact .inr ⟨h1,Xw⟩)
  have e2:=Ph.mu hf2;exact⟨Zq,w',μ',im,mark,L',hp.trans Ph,e2 _ _ QN,ho2,hL.mono (e1.trans e2),hdf.mono e2,a,e1.trans e2,b.mono (e1.trans e2),.head (kH a e hel Uj) (hends.2 _ _ rfl)⟩
theorem sm(hF:∀g,F g=true->Q9 P g=true)(V1:gL P B rec){f:Operand}{ps:Array Tmp}{assign body:Code}{k:List Item}{fv v:Value}{H1:Qy}{l:Nat}{ds R1 R2:List Nat}{g:FuncId}{args:Array Value}{c1:CF}{s:Rs}(hm:c.mode=.run)(hu:Under H n)
 (ht:c.todo=.code (.rangeFunc f ps assign body)::k) (hfv:Zl c.tmps f=some fv) (ho:Kw c H n ps assign body=some (H1,l,ds,R1)) (hc:RI F H1 fv #[.func (.yield l) #[] #[]]=some (.enter g args,R2)) (he:ZW P g args=some c1) (hs:rec c1 H1 (l+1)=some s) (hv:s.out=.ret v):
 GoJ P B c H n {c with todo:=.endRangeFunc l::k,defers:=ds++c.defers} s.H s.n (R1++R2++s.R) s.W:=by
 obtain⟨RA,hsem⟩:=cc hF V1 hm hu ht hfv ho hc he hs;refine⟨RA,fun S μ w fr cs Z QF hB hS hf XP hR=> ?_⟩;obtain⟨Zq,w',μ',im,mark,L',hp,QN,ZS,hL,hdf,a,e,hT,Wh⟩:=hsem S μ w fr cs Z QF hB hS hf XP hR;rw[hv]at ZS;cases ZS with
 |ret _=>exact⟨{fr with todo:=.endRangeFunc im.Zz::L',defers:=mark++fr.defers},w',μ',hp,⟨XP.fn,hT,fun _=>.cons (.endRF QN) hL,DfB.app hdf (XP.defers.mono e),XP.mode.mono e,XP.kind,XP.round.mono e⟩,rfl,rfl,Wh⟩
theorem gB(hF:∀g,F g=true->Q9 P g=true)(V1:gL P B rec){f:Operand}{ps:Array Tmp}{assign body:Code}{k:List Item}{fv v:Value}{H1:Qy}{l:Nat}{ds R1 R2:List Nat}{g:FuncId}{args:Array Value}{c1:CF}{s:Rs}(hm:c.mode=.run)(hu:Under H n)
 (ht:c.todo=.code (.rangeFunc f ps assign body)::k) (hfv:Zl c.tmps f=some fv) (ho:Kw c H n ps assign body=some (H1,l,ds,R1)) (hc:RI F H1 fv #[.func (.yield l) #[] #[]]=some (.enter g args,R2)) (he:ZW P g args=some c1) (hs:rec c1 H1 (l+1)=some s) (hv:s.out=.Wp v):
 GoJ P B c H n {c with mode:=.Wp v,defers:=ds++c.defers} s.H s.n (R1++R2++s.R) s.W:=by
 obtain⟨RA,hsem⟩:=cc hF V1 hm hu ht hfv ho hc he hs;refine⟨RA,fun S μ w fr cs Z QF hB hS hf XP hR=> ?_⟩;obtain⟨Zq,w',μ',im,mark,L',hp,QN,ZS,hL,hdf,a,e,hT,Wh⟩:=hsem S μ w fr cs Z QF hB hS hf XP hR;rw[hv]at ZS;cases ZS with
 |Wp Ul=>
  rename_i v';refine⟨{fr with todo:=.inRangeFunc im.Zz::L',defers:=mark++fr.defers,mode:=.panicking [{v:=v',recovered:=false}]},w',μ',hp,⟨XP.fn,hT,(fun h=>by cases h),DfB.app hdf (XP.defers.mono e),.Wp Ul,XP.kind,XP.round.mono e⟩,rfl,rfl,Wh.trans ?_⟩;simp only[OO.on,Frame.raise,a];exact Steps.refl _ _
theorem V6(hF:∀g,F g=true->Q9 P g=true)(Zu:P.follows .mixedOrders=true)(ZU:W5 P B Xx)(V1:gL P B rec)(hu:Under H n){fs:FS}(h:RB P F Xx rec c H n=some fs):Nz P B c H n fs:=by
 unfold RB at h;split at h
 ·rename_i hm;split at h
  ·rename_i ht;exact R8 hm hu (Aw ht) h
  ·rename_i k ht;exact R8 hm hu (Av ht) h
  ·rename_i k ht;simp only[YO]at h;subst h;exact IX hm ht
  ·rename_i l k ht;simp only[YO]at h;subst h;exact Hq hm ht
  ·rename_i l k ht;simp only[YO]at h;subst h;exact A5 hm ht
  ·rename_i l k ht;simp only[YO]at h;subst h;exact A4 hm ht
  ·rename_i x y k ht;simp only[YO]at h;subst h;exact M1 hm ht
  ·rename_i q x y k ht;split at h
   ·rename_i t hq;simp only[YO]at h;subst h;exact Lb hm ht hq
   ·cases h
  ·rename_i id x k ht;simp only[YO]at h;subst h;exact Ht hm ht
  ·rename_i x k ht;simp only[YO]at h;subst h;exact IY hm ht
  ·rename_i x k ht;simp only[YO]at h;subst h;exact Ep hm ht
  ·rename_i x k ht;simp only[YO]at h;subst h;exact Hp hm ht
  ·rename_i id k ht;split at h
   ·rename_i k' hx;simp only[YO]at h;subst h;exact La hm ht hx
   ·rename_i hx;exact R8 hm hu (xQ ht hx) h
  ·rename_i id k ht;split at h
   ·rename_i k' hx;simp only[YO]at h;subst h;exact IZ hm ht hx
   ·rename_i hx;exact R8 hm hu (xP ht hx) h
  ·rename_i id ops draw k ht;split at h
   ·rename_i Q4 T' H' n' hr;cases hd:(!draw || (Ve 0 ops.toList && indep ops 0 Q4 (Pq ops.toList [])))with
    |false=>rw[hd]at h;cases h
    |true=>
     rw[<-ZM h];exact Eo hF V1 ZU Zu hm hu ht hr hd
   ·rename_i Q4 T' v H' n' R W hr;cases hd:(!draw || Tu ops Q4 T')with
    |false=>rw[hd]at h;cases h
    |true=>
     rw[<-ZM h];cases draw with
     |true=>
      obtain⟨hs,hk,T3⟩:=KE hF V1 ZU (len:=c.tmps.len) ops.toList c.tmps H n Q4 _ rfl hu hr;exact iN Zu hm ht hs hk T3 (by simpa using hd)
     |false=>exact oN hF V1 ZU hm hu ht hr
   ·cases h
  ·rename_i f ps assign body k ht;split at h
   ·rename_i fv hfv;split at h
    ·rename_i H1 l ds R1 ho;split at h
     ·rename_i g args R2 hc;split at h
      ·rename_i c1 he;split at h
       ·rename_i s hs;split at h
        ·rename_i v hv;simp only[YO]at h;subst h;exact sm hF V1 hm hu ht hfv ho hc he hs hv
        ·rename_i v hv;simp only[YO]at h;subst h;exact gB hF V1 hm hu ht hfv ho hc he hs hv
       ·cases h
      ·cases h
     ·cases h
    ·cases h
   ·cases h
  ·rename_i l k ht;split at h
   ·rename_i r hg;by_cases hs:r.state=.busy
    ·simp[hs]at h
    ·simp only[hs,decide_false,Bool.not_false,cond_true,YO]at h;subst h;exact Hr hm hu ht hg hs
   ·cases h
  ·rename_i k ht;split at h
   ·rename_i l hr;split at h
    ·rename_i r hg;by_cases hs:r.state=.ready
     ·simp only[hs,decide_true,cond_true,YO]at h;subst h;exact oO hm hu ht hr hg hs
     ·simp[hs]at h
    ·cases h
   ·cases h
  ·cases h
 ·rename_i hm;split at h
  ·rename_i d ds hd;split at h
   ·rename_i hg;simp only[YO]at h;subst h;exact A6 hm hu hd hg
   ·cases h
  ·rename_i hd;split at h
   ·rename_i v hv;have hq:=HM h rfl;rw[<-ZM h];exact H7 hv hd hq
   ·rename_i hnp;split at h
    ·rename_i v R hr hv;simp only[YO]at h;subst h;refine H6 hu ?_ hd hv;cases hq:c.mode with
     |run=>exact absurd hq hm
     |ret=>rfl
     |Wp v=>exact absurd hq (hnp v)
    ·cases h
theorem FJ.lists{out:OO}{H':Qy}{n':Nat}{R W R' W':List Nat}(h:FJ P B c H n out H' n' R W)(hR:∀i,i<n->(i∈R'<->i∈R))(hW:∀i,i<n->(i∈W'<->i∈W))(Xw:∀i∈W',i<n):FJ P B c H n out H' n' R' W':=by
 refine⟨⟨h.shape.le,fun i hi hw=>h.shape.keep i hi fun e=>hw ((hW i hi).2 e),h.shape.top,fun i hi=>(hR i (Xw i hi)).2 (h.shape.sub i ((hW i (Xw i hi)).1 hi)),fun i hi=>by have:=Xw i hi;have:=h.shape.le;omega⟩,fun S μ w fr cs QF hB hS hf XP hRS=> ?_⟩;obtain⟨Zq,w',μ',hp,ho,he⟩:=h.sem S μ w fr cs QF hB hS hf XP (fun i hi hl=>hRS i ((hR i hl).2 hi) hl);exact⟨Zq,w',μ',hp.lists hW,ho,he⟩
theorem Z7{b:Nat}{l acc:List Nat}{i:Nat}(hi:i<b):i∈ZR b l acc<->i∈acc\/i∈l:=by
 obtain⟨h1,h2,h3⟩:=oC (b:=b) l acc i;exact⟨fun h=>(h1 h).imp id And.left,fun h=>h.elim h2 fun h=>h3 h hi⟩
theorem RL{b:Nat}{l acc:List Nat}(h:∀i∈acc,i<b):∀i∈ZR b l acc,i<b:=fun i hi=>((oC (b:=b) l acc i).1 hi).elim (h i) And.right
theorem YZ(hF:∀g,F g=true->Q9 P g=true)(Zu:P.follows .mixedOrders=true)(ZU:W5 P B Xx):∀(fuel:Nat) (b:Nat) (c:CF) (H:Qy) (n:Nat) (R0 W0:List Nat) (s:Rs),Under H n->(∀i∈R0,i<b)->(∀i∈W0,i<b)->oP P F Xx fuel b c H n R0 W0=some s->
 ∃Rr Wr,FJ P B c H n s.out s.H s.n Rr Wr/\(∀i,i<b->(i∈s.R<->i∈R0\/i∈Rr))/\(∀i,i<b->(i∈s.W<->i∈W0\/i∈Wr))/\(∀i∈s.R,i<b)/\(∀i∈s.W,i<b)
 |0,b,c,H,n,R0,W0,s,hu,hR0,hW0,h=>by simp[oP]at h
 |fuel+1,b,c,H,n,R0,W0,s,hu,hR0,hW0,h=>by
  have V1:gL P B (fun c1 H1 n1=>oP P F Xx fuel n1 c1 H1 n1 [] []):=by
   intro c1 H1 n1 s1 hu1 h1;obtain⟨Rr,Wr,hfj,a1,a2,a3,a4⟩:=YZ hF Zu ZU fuel n1 c1 H1 n1 [] [] s1 hu1 (fun i hi=>by simp at hi) (fun i hi=>by simp at hi) h1;exact hfj.lists (fun i hi=>by simpa using a1 i hi) (fun i hi=>by simpa using a2 i hi) a4
  simp only[oP]at h;split at h
  ·rename_i c' H' n' R' W' hs;have T6:GoJ P B c H n c' H' n' R' W':=V6 hF Zu ZU V1 hu hs;obtain⟨Rr,Wr,hfj,a1,a2,a3,a4⟩:=YZ hF Zu ZU fuel b c' H' n' (ZR b R' R0) (ZR b W' W0) s (hu.shape T6.shape) (RL hR0) (RL hW0) h;refine⟨R'++Rr,W'++Wr,T6.fj hfj,fun i hi=> ?_,fun i hi=> ?_,a3,a4⟩
   ·rw[a1 i hi,Z7 hi,List.mem_append,or_assoc]
   ·rw[a2 i hi,Z7 hi,List.mem_append,or_assoc]
  ·rename_i out H' n' R' W' hs;have hdone:FJ P B c H n out H' n' R' W':=V6 hF Zu ZU V1 hu hs;simp only[YO]at h;subst h;exact⟨R',W',hdone,fun i hi=>Z7 hi,fun i hi=>Z7 hi,RL hR0,RL hW0⟩
  ·cases h
end
end Go.CE
