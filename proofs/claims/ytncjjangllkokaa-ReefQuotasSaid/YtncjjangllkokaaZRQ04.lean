/- CE: frames. Eighth part: the whole run. -/
import Derived.Test.YtncjjangllkokaaZRQ03
set_option linter.all false
open List renaming mem_append_left->NK,getElem?_toArray->Oy,getElem?_cons_zero->NQ,mem_append_right->NT,mem_append->OD
open Nat renaming lt_or_ge->Oe
namespace Go.CE
open Go Go.RowKit

theorem Gl{α:Type}{q:Bool}{x:α}{r:Option α}(h:(bif q then some x else none)=r)(hr:r.isSome=true):q=true:=by
 cases q with
 |true=>rfl
 |false=>subst h;cases hr
section
variable {P:Program} {F:FuncId->Bool} {Xt:Vj} {B:Lo} {rec:CF->Qp->Nat->Option Rs} {c:CF} {H:Qp} {n:Nat}
theorem aL(hF:∀g,F g=true->QA P g=true)(Vu:fw P B rec){f:Operand}{ps:Array Tmp}{assign body:Code}{k:List Item}{fv:Value}{H1:Qp}{l:Nat}{ds R1 R2:List Nat}{g:FuncId}{args:Array Value}{c1:CF}{s:Rs}(hm:c.mode=.run)(hu:Under H n)
 (ht:c.todo=.code (.rangeFunc f ps assign body)::k) (hfv:Zd c.tmps f=some fv) (ho:U2 c H n ps assign body=some (H1,l,ds,R1)) (hc:Pv F H1 fv #[.func (.yield l) #[] #[]]=some (.enter g args,R2)) (he:Wo P g args=some c1) (hs:rec c1 H1 (l+1)=some s):
 Shape H n s.H s.n (R1++R2++s.R) s.W/\∀(S:Nat->Prop) (μ:Mu) (w:World) (fr:Frame) (cs:List Frame) (Z:Bot),Ok B S μ (Qu H) w->B.has w->(∀i,S i->i<n)->YU μ n s.n->FrR Z μ c fr->(∀i∈R1++R2++s.R,i<n->S i)->
  ∃Zf w' μ' im mark L',Post B S n s.n s.W μ μ' H s.H w w'/\μ' l=some im/\OR2 μ' s.out Zf/\TodoR μ' k L'/\DfR μ' ds mark/\fr.mode=.run/\Ext μ μ'/\TR μ' c.tmps fr.tmps/\
   Steps P (lone fr cs w) (lone (Zf.on {fr with todo:=.inRangeFunc im.Zv::L',defers:=mark++fr.defers}) cs w'):=by
 have hR2:=w9 hc;subst hR2;rw[List.append_nil];obtain⟨hsh1,hsem⟩:=Tt (P:=P) (B:=B) hu ho;have hfj:=Vu c1 H1 (l+1) s (hu.shape hsh1) hs;have l1:=hsh1.le;have l2:=hfj.shape.le;refine⟨hsh1.trans hfj.shape,fun S μ w fr cs Z QD hB hS hf XC hR=> ?_⟩;obtain⟨a,b,d⟩:=XC.running hm;rw[ht]at d;obtain⟨L',e,hL⟩:=d.code;have hf1:YU μ n (l+1):=fun q x y=>hf q x (by omega)
 obtain⟨mark,w1,μ1,im,hel,QI,hp,hdf⟩:=hsem S μ w fr QD hB hS hf1 XC.fn b XC.round (fun q hq Xm=>hR q (NK _ hq) Xm);have e1:=hp.mu hf1;obtain⟨nx',VN,hnr⟩:=ph (P:=P) hF hc hp.ok ((mS b f fv hfv).mono e1) (args':=#[.func (.yield im.Zv) #[] #[]]) ⟨rfl,fun i v v' h1 h2=>by
  match i,h1,h2 with
  |0,h1,h2=>simp only[Oy,NQ,YO]at h1 h2;subst h1 h2;exact .yield QI
  |i+1,h1,h2=>simp at h1⟩ (fun i hi=>by simp at hi)
 cases hnr with
 |enter ha=>
  have hf2:∀q,l+1<=q->q<s.n->μ1 q=none:=fun q x y=>by rw[hp.ext q (by omega)];exact hf q (by omega) y
  obtain⟨Zf,w',μ',JU,ho2,hends⟩:=hfj.sem _ μ1 w1 _ ({fr with todo:=.inRangeFunc im.Zv::L',defers:=mark++fr.defers}::cs) hp.ok (hB.post QD hp) (fun q hq=>hq.elim (fun e=>by have:=hS q e;omega) (fun e=>e.2)) hf2 (Ui he ha) (fun q hq Xm=>by
   rcases Oe q n with h1|h1
   ·exact .inl (hR q (NT _ hq) h1)
   ·exact .inr ⟨h1,Xm⟩)
  have e2:=JU.mu hf2;exact⟨Zf,w',μ',im,mark,L',hp.trans JU,e2 _ _ QI,ho2,hL.mono (e1.trans e2),hdf.mono e2,a,e1.trans e2,b.mono (e1.trans e2),.head (jr a e hel VN) (hends.2 _ _ rfl)⟩
theorem rh(hF:∀g,F g=true->QA P g=true)(Vu:fw P B rec){f:Operand}{ps:Array Tmp}{assign body:Code}{k:List Item}{fv v:Value}{H1:Qp}{l:Nat}{ds R1 R2:List Nat}{g:FuncId}{args:Array Value}{c1:CF}{s:Rs}(hm:c.mode=.run)(hu:Under H n)
 (ht:c.todo=.code (.rangeFunc f ps assign body)::k) (hfv:Zd c.tmps f=some fv) (ho:U2 c H n ps assign body=some (H1,l,ds,R1)) (hc:Pv F H1 fv #[.func (.yield l) #[] #[]]=some (.enter g args,R2)) (he:Wo P g args=some c1) (hs:rec c1 H1 (l+1)=some s) (hv:s.out=.ret v):
 GoJ P B c H n {c with todo:=.endRangeFunc l::k,defers:=ds++c.defers} s.H s.n (R1++R2++s.R) s.W:=by
 obtain⟨Pq,hsem⟩:=aL hF Vu hm hu ht hfv ho hc he hs;refine⟨Pq,fun S μ w fr cs Z QD hB hS hf XC hR=> ?_⟩;obtain⟨Zf,w',μ',im,mark,L',hp,QI,ZU,hL,hdf,a,e,hT,XZ⟩:=hsem S μ w fr cs Z QD hB hS hf XC hR;rw[hv]at ZU;cases ZU with
 |ret _=>exact⟨{fr with todo:=.endRangeFunc im.Zv::L',defers:=mark++fr.defers},w',μ',hp,⟨XC.fn,hT,fun _=>.cons (.endRF QI) hL,DfB.app hdf (XC.defers.mono e),XC.mode.mono e,XC.kind,XC.round.mono e⟩,rfl,rfl,XZ⟩
theorem eZ(hF:∀g,F g=true->QA P g=true)(Vu:fw P B rec){f:Operand}{ps:Array Tmp}{assign body:Code}{k:List Item}{fv v:Value}{H1:Qp}{l:Nat}{ds R1 R2:List Nat}{g:FuncId}{args:Array Value}{c1:CF}{s:Rs}(hm:c.mode=.run)(hu:Under H n)
 (ht:c.todo=.code (.rangeFunc f ps assign body)::k) (hfv:Zd c.tmps f=some fv) (ho:U2 c H n ps assign body=some (H1,l,ds,R1)) (hc:Pv F H1 fv #[.func (.yield l) #[] #[]]=some (.enter g args,R2)) (he:Wo P g args=some c1) (hs:rec c1 H1 (l+1)=some s) (hv:s.out=.ZH v):
 GoJ P B c H n {c with mode:=.ZH v,defers:=ds++c.defers} s.H s.n (R1++R2++s.R) s.W:=by
 obtain⟨Pq,hsem⟩:=aL hF Vu hm hu ht hfv ho hc he hs;refine⟨Pq,fun S μ w fr cs Z QD hB hS hf XC hR=> ?_⟩;obtain⟨Zf,w',μ',im,mark,L',hp,QI,ZU,hL,hdf,a,e,hT,XZ⟩:=hsem S μ w fr cs Z QD hB hS hf XC hR;rw[hv]at ZU;cases ZU with
 |ZH Vt=>
  rename_i v';refine⟨{fr with todo:=.inRangeFunc im.Zv::L',defers:=mark++fr.defers,mode:=.panicking [{v:=v',recovered:=false}]},w',μ',hp,⟨XC.fn,hT,(fun h=>by cases h),DfB.app hdf (XC.defers.mono e),.ZH Vt,XC.kind,XC.round.mono e⟩,rfl,rfl,XZ.trans ?_⟩;simp only[OO.on,Frame.raise,a];exact Steps.refl _ _
theorem Vx(hF:∀g,F g=true->QA P g=true)(XS:P.follows .mixedOrders=true)(Wl:WB P B Xt)(Vu:fw P B rec)(hu:Under H n){fs:FS}(h:Ps P F Xt rec c H n=some fs):Na P B c H n fs:=by
 unfold Ps at h;split at h
 ·rename_i hm;split at h
  ·rename_i ht;exact Pp hm hu (y6 ht) h
  ·rename_i k ht;exact Pp hm hu (y5 ht) h
  ·rename_i k ht;simp only[YO]at h;subst h;exact Io hm ht
  ·rename_i l k ht;simp only[YO]at h;subst h;exact FE hm ht
  ·rename_i l k ht;simp only[YO]at h;subst h;exact yE hm ht
  ·rename_i l k ht;simp only[YO]at h;subst h;exact yD hm ht
  ·rename_i x y k ht;simp only[YO]at h;subst h;exact Md hm ht
  ·rename_i q x y k ht;split at h
   ·rename_i t hq;simp only[YO]at h;subst h;exact Is hm ht hq
   ·cases h
  ·rename_i id x k ht;simp only[YO]at h;subst h;exact FG hm ht
  ·rename_i x k ht;simp only[YO]at h;subst h;exact Ip hm ht
  ·rename_i x k ht;simp only[YO]at h;subst h;exact Ca hm ht
  ·rename_i x k ht;simp only[YO]at h;subst h;exact FD hm ht
  ·rename_i id k ht;split at h
   ·rename_i k' hx;simp only[YO]at h;subst h;exact Ir hm ht hx
   ·rename_i hx;exact Pp hm hu (vX ht hx) h
  ·rename_i id k ht;split at h
   ·rename_i k' hx;simp only[YO]at h;subst h;exact Iq hm ht hx
   ·rename_i hx;exact Pp hm hu (vW ht hx) h
  ·rename_i id ops draw k ht;split at h
   ·rename_i Qy T' H' n' hr;cases hd:(!draw || (Vi 0 ops.toList && indep ops 0 Qy (YT ops.toList [])))with
    |false=>rw[hd]at h;cases h
    |true=>
     rw[<-ZS h];exact BZ hF Vu Wl XS hm hu ht hr hd
   ·rename_i Qy T' v H' n' R W hr;cases hd:(!draw || Sm ops Qy T')with
    |false=>rw[hd]at h;cases h
    |true=>
     rw[<-ZS h];cases draw with
     |true=>
      obtain⟨hs,hk,KM⟩:=UK hF Vu Wl (len:=c.tmps.len) ops.toList c.tmps H n Qy _ rfl hu hr;exact gB XS hm ht hs hk KM (by simpa using hd)
     |false=>exact nA hF Vu Wl hm hu ht hr
   ·cases h
  ·rename_i f ps assign body k ht;split at h
   ·rename_i fv hfv;split at h
    ·rename_i H1 l ds R1 ho;split at h
     ·rename_i g args R2 hc;split at h
      ·rename_i c1 he;split at h
       ·rename_i s hs;split at h
        ·rename_i v hv;simp only[YO]at h;subst h;exact rh hF Vu hm hu ht hfv ho hc he hs hv
        ·rename_i v hv;simp only[YO]at h;subst h;exact eZ hF Vu hm hu ht hfv ho hc he hs hv
       ·cases h
      ·cases h
     ·cases h
    ·cases h
   ·cases h
  ·rename_i l k ht;split at h
   ·rename_i r hg;by_cases hs:r.state=.busy
    ·simp[hs]at h
    ·simp only[hs,decide_false,Bool.not_false,cond_true,YO]at h;subst h;exact FF hm hu ht hg hs
   ·cases h
  ·rename_i k ht;split at h
   ·rename_i l hr;split at h
    ·rename_i r hg;by_cases hs:r.state=.ready
     ·simp only[hs,decide_true,cond_true,YO]at h;subst h;exact nB hm hu ht hr hg hs
     ·simp[hs]at h
    ·cases h
   ·cases h
  ·cases h
 ·rename_i hm;split at h
  ·rename_i d ds hd;split at h
   ·rename_i hg;simp only[YO]at h;subst h;exact yF hm hu hd hg
   ·cases h
  ·rename_i hd;split at h
   ·rename_i v hv;have hq:=Gl h rfl;rw[<-ZS h];exact FW hv hd hq
   ·rename_i hnp;split at h
    ·rename_i v R hr hv;simp only[YO]at h;subst h;refine FV hu ?_ hd hv;cases hq:c.mode with
     |run=>exact absurd hq hm
     |ret=>rfl
     |ZH v=>exact absurd hq (hnp v)
    ·cases h
theorem FJ.lists{out:OO}{H':Qp}{n':Nat}{R W R' W':List Nat}(h:FJ P B c H n out H' n' R W)(hR:∀i,i<n->(i∈R'<->i∈R))(hW:∀i,i<n->(i∈W'<->i∈W))(Xm:∀i∈W',i<n):FJ P B c H n out H' n' R' W':=by
 refine⟨⟨h.shape.le,fun i hi hw=>h.shape.keep i hi fun e=>hw ((hW i hi).2 e),h.shape.top,fun i hi=>(hR i (Xm i hi)).2 (h.shape.sub i ((hW i (Xm i hi)).1 hi)),fun i hi=>by have:=Xm i hi;have:=h.shape.le;omega⟩,fun S μ w fr cs QD hB hS hf XC hRS=> ?_⟩;obtain⟨Zf,w',μ',hp,ho,he⟩:=h.sem S μ w fr cs QD hB hS hf XC (fun i hi hl=>hRS i ((hR i hl).2 hi) hl);exact⟨Zf,w',μ',hp.lists hW,ho,he⟩
theorem Zo{b:Nat}{l acc:List Nat}{i:Nat}(hi:i<b):i∈ZT b l acc<->i∈acc\/i∈l:=by
 obtain⟨h1,h2,h3⟩:=nr (b:=b) l acc i;exact⟨fun h=>(h1 h).imp id And.left,fun h=>h.elim h2 fun h=>h3 h hi⟩
theorem Py{b:Nat}{l acc:List Nat}(h:∀i∈acc,i<b):∀i∈ZT b l acc,i<b:=fun i hi=>((nr (b:=b) l acc i).1 hi).elim (h i) And.right
theorem KO(hF:∀g,F g=true->QA P g=true)(XS:P.follows .mixedOrders=true)(Wl:WB P B Xt):∀(fuel:Nat) (b:Nat) (c:CF) (H:Qp) (n:Nat) (R0 W0:List Nat) (s:Rs),Under H n->(∀i∈R0,i<b)->(∀i∈W0,i<b)->nC P F Xt fuel b c H n R0 W0=some s->
 ∃Rr Wr,FJ P B c H n s.out s.H s.n Rr Wr/\(∀i,i<b->(i∈s.R<->i∈R0\/i∈Rr))/\(∀i,i<b->(i∈s.W<->i∈W0\/i∈Wr))/\(∀i∈s.R,i<b)/\(∀i∈s.W,i<b)
 |0,b,c,H,n,R0,W0,s,hu,hR0,hW0,h=>by simp[nC]at h
 |fuel+1,b,c,H,n,R0,W0,s,hu,hR0,hW0,h=>by
  have Vu:fw P B (fun c1 H1 n1=>nC P F Xt fuel n1 c1 H1 n1 [] []):=by
   intro c1 H1 n1 s1 St h1;obtain⟨Rr,Wr,hfj,a1,a2,a3,a4⟩:=KO hF XS Wl fuel n1 c1 H1 n1 [] [] s1 St (fun i hi=>by simp at hi) (fun i hi=>by simp at hi) h1;exact hfj.lists (fun i hi=>by simpa using a1 i hi) (fun i hi=>by simpa using a2 i hi) a4
  simp only[nC]at h;split at h
  ·rename_i c' H' n' R' W' hs;have JL:GoJ P B c H n c' H' n' R' W':=Vx hF XS Wl Vu hu hs;obtain⟨Rr,Wr,hfj,a1,a2,a3,a4⟩:=KO hF XS Wl fuel b c' H' n' (ZT b R' R0) (ZT b W' W0) s (hu.shape JL.shape) (Py hR0) (Py hW0) h;refine⟨R'++Rr,W'++Wr,JL.fj hfj,fun i hi=> ?_,fun i hi=> ?_,a3,a4⟩
   ·rw[a1 i hi,Zo hi,OD,or_assoc]
   ·rw[a2 i hi,Zo hi,OD,or_assoc]
  ·rename_i out H' n' R' W' hs;have hdone:FJ P B c H n out H' n' R' W':=Vx hF XS Wl Vu hu hs;simp only[YO]at h;subst h;exact⟨R',W',hdone,fun i hi=>Zo hi,fun i hi=>Zo hi,Py hR0,Py hW0⟩
  ·cases h
end
end Go.CE
