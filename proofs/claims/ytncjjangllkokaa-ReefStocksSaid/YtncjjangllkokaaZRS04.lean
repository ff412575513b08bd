/- CE: frames. Eighth part: the whole run. -/
import Derived.Test.YtncjjangllkokaaZRS03
set_option linter.all false
open List renaming mem_append_left->Ln,getElem?_cons_zero->Lu,mem_append_right->Lw
open Nat renaming lt_or_ge->LK
namespace Go.CE
open Go Go.RowKit

theorem HS{α:Type}{q:Bool}{x:α}{r:Option α}(h:(bif q then some x else none)=r)(hr:r.isSome=true):q=true:=by
 cases q with
 |true=>rfl
 |false=>subst h;cases hr
section
variable {P:Program} {F:FuncId->Bool} {Xu:WW} {B:Lo} {rec:CF->Qt->Nat->Option Rs} {c:CF} {H:Qt} {n:Nat}
theorem cr(hF:∀g,F g=true->Q6 P g=true)(Vs:gZ P B rec){f:Operand}{ps:Array Tmp}{assign body:Code}{k:List Item}{fv:Value}{H1:Qt}{l:Nat}{ds R1 R2:List Nat}{g:FuncId}{args:Array Value}{c1:CF}{s:Rs}(hm:c.mode=.run)(hu:Under H n)
 (ht:c.todo=.code (.rangeFunc f ps assign body)::k) (hfv:Zd c.tmps f=some fv) (ho:Kh c H n ps assign body=some (H1,l,ds,R1)) (hc:Sa F H1 fv #[.func (.yield l) #[] #[]]=some (.enter g args,R2)) (he:ZY P g args=some c1) (hs:rec c1 H1 (l+1)=some s):
 Shape H n s.H s.n (R1++R2++s.R) s.W/\∀(S:Nat->Prop) (μ:Mu) (w:World) (fr:Frame) (cs:List Frame) (Z:Bot),Ok B S μ (Qw H) w->B.has w->(∀i,S i->i<n)->P0 μ n s.n->FrR Z μ c fr->(∀i∈R1++R2++s.R,i<n->S i)->
  ∃Zg w' μ' im mark L',Post B S n s.n s.W μ μ' H s.H w w'/\μ' l=some im/\OR2 μ' s.out Zg/\TodoR μ' k L'/\DfR μ' ds mark/\fr.mode=.run/\Ext μ μ'/\TR μ' c.tmps fr.tmps/\
   Steps P (lone fr cs w) (lone (Zg.on {fr with todo:=.inRangeFunc im.Zt::L',defers:=mark++fr.defers}) cs w'):=by
 have hR2:=xX hc;subst hR2;rw[List.append_nil];obtain⟨hsh1,hsem⟩:=aZ (P:=P) (B:=B) hu ho;have hfj:=Vs c1 H1 (l+1) s (hu.shape hsh1) hs;have l1:=hsh1.le;have l2:=hfj.shape.le;refine⟨hsh1.trans hfj.shape,fun S μ w fr cs Z QE hB hS hf XF hR=> ?_⟩;obtain⟨a,b,d⟩:=XF.running hm;rw[ht]at d;obtain⟨L',e,hL⟩:=d.code;have hf1:P0 μ n (l+1):=fun q x y=>hf q x (by omega)
 obtain⟨mark,w1,μ1,im,hel,QK,hp,hdf⟩:=hsem S μ w fr QE hB hS hf1 XF.fn b XF.round (fun q hq Xp=>hR q (Ln _ hq) Xp);have e1:=hp.mu hf1;obtain⟨nx',VU,hnr⟩:=qp (P:=P) hF hc hp.ok ((qi b f fv hfv).mono e1) (args':=#[.func (.yield im.Zt) #[] #[]]) ⟨rfl,fun i v v' h1 h2=>by
  match i,h1,h2 with
  |0,h1,h2=>simp only[List.getElem?_toArray,Lu,YO]at h1 h2;subst h1 h2;exact .yield QK
  |i+1,h1,h2=>simp at h1⟩ (fun i hi=>by simp at hi)
 cases hnr with
 |enter ha=>
  have hf2:∀q,l+1<=q->q<s.n->μ1 q=none:=fun q x y=>by rw[hp.ext q (by omega)];exact hf q (by omega) y
  obtain⟨Zg,w',μ',Sm,ho2,hends⟩:=hfj.sem _ μ1 w1 _ ({fr with todo:=.inRangeFunc im.Zt::L',defers:=mark++fr.defers}::cs) hp.ok (hB.post QE hp) (fun q hq=>hq.elim (fun e=>by have:=hS q e;omega) (fun e=>e.2)) hf2 (UL he ha) (fun q hq Xp=>by
   rcases LK q n with h1|h1
   ·exact .inl (hR q (Lw _ hq) h1)
   ·exact .inr ⟨h1,Xp⟩)
  have e2:=Sm.mu hf2;exact⟨Zg,w',μ',im,mark,L',hp.trans Sm,e2 _ _ QK,ho2,hL.mono (e1.trans e2),hdf.mono e2,a,e1.trans e2,b.mono (e1.trans e2),.head (kD a e hel VU) (hends.2 _ _ rfl)⟩
theorem se(hF:∀g,F g=true->Q6 P g=true)(Vs:gZ P B rec){f:Operand}{ps:Array Tmp}{assign body:Code}{k:List Item}{fv v:Value}{H1:Qt}{l:Nat}{ds R1 R2:List Nat}{g:FuncId}{args:Array Value}{c1:CF}{s:Rs}(hm:c.mode=.run)(hu:Under H n)
 (ht:c.todo=.code (.rangeFunc f ps assign body)::k) (hfv:Zd c.tmps f=some fv) (ho:Kh c H n ps assign body=some (H1,l,ds,R1)) (hc:Sa F H1 fv #[.func (.yield l) #[] #[]]=some (.enter g args,R2)) (he:ZY P g args=some c1) (hs:rec c1 H1 (l+1)=some s) (hv:s.out=.ret v):
 GoJ P B c H n {c with todo:=.endRangeFunc l::k,defers:=ds++c.defers} s.H s.n (R1++R2++s.R) s.W:=by
 obtain⟨RU,hsem⟩:=cr hF Vs hm hu ht hfv ho hc he hs;refine⟨RU,fun S μ w fr cs Z QE hB hS hf XF hR=> ?_⟩;obtain⟨Zg,w',μ',im,mark,L',hp,QK,ZU,hL,hdf,a,e,hT,Zh⟩:=hsem S μ w fr cs Z QE hB hS hf XF hR;rw[hv]at ZU;cases ZU with
 |ret _=>exact⟨{fr with todo:=.endRangeFunc im.Zt::L',defers:=mark++fr.defers},w',μ',hp,⟨XF.fn,hT,fun _=>.cons (.endRF QK) hL,DfB.app hdf (XF.defers.mono e),XF.mode.mono e,XF.kind,XF.round.mono e⟩,rfl,rfl,Zh⟩
theorem gN(hF:∀g,F g=true->Q6 P g=true)(Vs:gZ P B rec){f:Operand}{ps:Array Tmp}{assign body:Code}{k:List Item}{fv v:Value}{H1:Qt}{l:Nat}{ds R1 R2:List Nat}{g:FuncId}{args:Array Value}{c1:CF}{s:Rs}(hm:c.mode=.run)(hu:Under H n)
 (ht:c.todo=.code (.rangeFunc f ps assign body)::k) (hfv:Zd c.tmps f=some fv) (ho:Kh c H n ps assign body=some (H1,l,ds,R1)) (hc:Sa F H1 fv #[.func (.yield l) #[] #[]]=some (.enter g args,R2)) (he:ZY P g args=some c1) (hs:rec c1 H1 (l+1)=some s) (hv:s.out=.We v):
 GoJ P B c H n {c with mode:=.We v,defers:=ds++c.defers} s.H s.n (R1++R2++s.R) s.W:=by
 obtain⟨RU,hsem⟩:=cr hF Vs hm hu ht hfv ho hc he hs;refine⟨RU,fun S μ w fr cs Z QE hB hS hf XF hR=> ?_⟩;obtain⟨Zg,w',μ',im,mark,L',hp,QK,ZU,hL,hdf,a,e,hT,Zh⟩:=hsem S μ w fr cs Z QE hB hS hf XF hR;rw[hv]at ZU;cases ZU with
 |We VY=>
  rename_i v';refine⟨{fr with todo:=.inRangeFunc im.Zt::L',defers:=mark++fr.defers,mode:=.panicking [{v:=v',recovered:=false}]},w',μ',hp,⟨XF.fn,hT,(fun h=>by cases h),DfB.app hdf (XF.defers.mono e),.We VY,XF.kind,XF.round.mono e⟩,rfl,rfl,Zh.trans ?_⟩;simp only[OO.on,Frame.raise,a];exact Steps.refl _ _
theorem Vw(hF:∀g,F g=true->Q6 P g=true)(Zm:P.follows .mixedOrders=true)(ZX:Ws P B Xu)(Vs:gZ P B rec)(hu:Under H n){fs:FS}(h:RV P F Xu rec c H n=some fs):OQ P B c H n fs:=by
 unfold RV at h;split at h
 ·rename_i hm;split at h
  ·rename_i ht;exact RT hm hu (At ht) h
  ·rename_i k ht;exact RT hm hu (As ht) h
  ·rename_i k ht;simp only[YO]at h;subst h;exact My hm ht
  ·rename_i l k ht;simp only[YO]at h;subst h;exact Hu hm ht
  ·rename_i l k ht;simp only[YO]at h;subst h;exact A4 hm ht
  ·rename_i l k ht;simp only[YO]at h;subst h;exact A3 hm ht
  ·rename_i x y k ht;simp only[YO]at h;subst h;exact NT hm ht
  ·rename_i q x y k ht;split at h
   ·rename_i t hq;simp only[YO]at h;subst h;exact M3 hm ht hq
   ·cases h
  ·rename_i id x k ht;simp only[YO]at h;subst h;exact Hw hm ht
  ·rename_i x k ht;simp only[YO]at h;subst h;exact Mz hm ht
  ·rename_i x k ht;simp only[YO]at h;subst h;exact DR hm ht
  ·rename_i x k ht;simp only[YO]at h;subst h;exact Ht hm ht
  ·rename_i id k ht;split at h
   ·rename_i k' hx;simp only[YO]at h;subst h;exact M1 hm ht hx
   ·rename_i hx;exact RT hm hu (xC ht hx) h
  ·rename_i id k ht;split at h
   ·rename_i k' hx;simp only[YO]at h;subst h;exact M0 hm ht hx
   ·rename_i hx;exact RT hm hu (xB ht hx) h
  ·rename_i id ops draw k ht;split at h
   ·rename_i Qz T' H' n' hr;cases hd:(!draw || (WV 0 ops.toList && indep ops 0 Qz (Py ops.toList [])))with
    |false=>rw[hd]at h;cases h
    |true=>
     rw[<-ZN h];exact DQ hF Vs ZX Zm hm hu ht hr hd
   ·rename_i Qz T' v H' n' R W hr;cases hd:(!draw || TI ops Qz T')with
    |false=>rw[hd]at h;cases h
    |true=>
     rw[<-ZN h];cases draw with
     |true=>
      obtain⟨hs,hk,Pq⟩:=K1 hF Vs ZX (len:=c.tmps.len) ops.toList c.tmps H n Qz _ rfl hu hr;exact iN Zm hm ht hs hk Pq (by simpa using hd)
     |false=>exact oI hF Vs ZX hm hu ht hr
   ·cases h
  ·rename_i f ps assign body k ht;split at h
   ·rename_i fv hfv;split at h
    ·rename_i H1 l ds R1 ho;split at h
     ·rename_i g args R2 hc;split at h
      ·rename_i c1 he;split at h
       ·rename_i s hs;split at h
        ·rename_i v hv;simp only[YO]at h;subst h;exact se hF Vs hm hu ht hfv ho hc he hs hv
        ·rename_i v hv;simp only[YO]at h;subst h;exact gN hF Vs hm hu ht hfv ho hc he hs hv
       ·cases h
      ·cases h
     ·cases h
    ·cases h
   ·cases h
  ·rename_i l k ht;split at h
   ·rename_i r hg;by_cases hs:r.state=.busy
    ·simp[hs]at h
    ·simp only[hs,decide_false,Bool.not_false,cond_true,YO]at h;subst h;exact Hv hm hu ht hg hs
   ·cases h
  ·rename_i k ht;split at h
   ·rename_i l hr;split at h
    ·rename_i r hg;by_cases hs:r.state=.ready
     ·simp only[hs,decide_true,cond_true,YO]at h;subst h;exact oJ hm hu ht hr hg hs
     ·simp[hs]at h
    ·cases h
   ·cases h
  ·cases h
 ·rename_i hm;split at h
  ·rename_i d ds hd;split at h
   ·rename_i hg;simp only[YO]at h;subst h;exact A5 hm hu hd hg
   ·cases h
  ·rename_i hd;split at h
   ·rename_i v hv;have hq:=HS h rfl;rw[<-ZN h];exact HD hv hd hq
   ·rename_i hnp;split at h
    ·rename_i v R hr hv;simp only[YO]at h;subst h;refine HC hu ?_ hd hv;cases hq:c.mode with
     |run=>exact absurd hq hm
     |ret=>rfl
     |We v=>exact absurd hq (hnp v)
    ·cases h
theorem FJ.lists{out:OO}{H':Qt}{n':Nat}{R W R' W':List Nat}(h:FJ P B c H n out H' n' R W)(hR:∀i,i<n->(i∈R'<->i∈R))(hW:∀i,i<n->(i∈W'<->i∈W))(Xp:∀i∈W',i<n):FJ P B c H n out H' n' R' W':=by
 refine⟨⟨h.shape.le,fun i hi hw=>h.shape.keep i hi fun e=>hw ((hW i hi).2 e),h.shape.top,fun i hi=>(hR i (Xp i hi)).2 (h.shape.sub i ((hW i (Xp i hi)).1 hi)),fun i hi=>by have:=Xp i hi;have:=h.shape.le;omega⟩,fun S μ w fr cs QE hB hS hf XF hRS=> ?_⟩;obtain⟨Zg,w',μ',hp,ho,he⟩:=h.sem S μ w fr cs QE hB hS hf XF (fun i hi hl=>hRS i ((hR i hl).2 hi) hl);exact⟨Zg,w',μ',hp.lists hW,ho,he⟩
theorem Z5{b:Nat}{l acc:List Nat}{i:Nat}(hi:i<b):i∈ZT b l acc<->i∈acc\/i∈l:=by
 obtain⟨h1,h2,h3⟩:=o7 (b:=b) l acc i;exact⟨fun h=>(h1 h).imp id And.left,fun h=>h.elim h2 fun h=>h3 h hi⟩
theorem Sd{b:Nat}{l acc:List Nat}(h:∀i∈acc,i<b):∀i∈ZT b l acc,i<b:=fun i hi=>((o7 (b:=b) l acc i).1 hi).elim (h i) And.right
theorem YZ(hF:∀g,F g=true->Q6 P g=true)(Zm:P.follows .mixedOrders=true)(ZX:Ws P B Xu):∀(fuel:Nat) (b:Nat) (c:CF) (H:Qt) (n:Nat) (R0 W0:List Nat) (s:Rs),Under H n->(∀i∈R0,i<b)->(∀i∈W0,i<b)->oK P F Xu fuel b c H n R0 W0=some s->
 ∃Rr Wr,FJ P B c H n s.out s.H s.n Rr Wr/\(∀i,i<b->(i∈s.R<->i∈R0\/i∈Rr))/\(∀i,i<b->(i∈s.W<->i∈W0\/i∈Wr))/\(∀i∈s.R,i<b)/\(∀i∈s.W,i<b)
 |0,b,c,H,n,R0,W0,s,hu,hR0,hW0,h=>by simp[oK]at h
 |fuel+1,b,c,H,n,R0,W0,s,hu,hR0,hW0,h=>by
  have Vs:gZ P B (fun c1 H1 n1=>oK P F Xu fuel n1 c1 H1 n1 [] []):=by
   intro c1 H1 n1 s1 hu1 h1;obtain⟨Rr,Wr,hfj,a1,a2,a3,a4⟩:=YZ hF Zm ZX fuel n1 c1 H1 n1 [] [] s1 hu1 (fun i hi=>by simp at hi) (fun i hi=>by simp at hi) h1;exact hfj.lists (fun i hi=>by simpa using a1 i hi) (fun i hi=>by simpa using a2 i hi) a4
  simp only[oK]at h;split at h
  ·rename_i c' H' n' R' W' hs;have SZ:GoJ P B c H n c' H' n' R' W':=Vw hF Zm ZX Vs hu hs;obtain⟨Rr,Wr,hfj,a1,a2,a3,a4⟩:=YZ hF Zm ZX fuel b c' H' n' (ZT b R' R0) (ZT b W' W0) s (hu.shape SZ.shape) (Sd hR0) (Sd hW0) h;refine⟨R'++Rr,W'++Wr,SZ.fj hfj,fun i hi=> ?_,fun i hi=> ?_,a3,a4⟩
   ·rw[a1 i hi,Z5 hi,List.mem_append,or_assoc]
   ·rw[a2 i hi,Z5 hi,List.mem_append,or_assoc]
  ·rename_i out H' n' R' W' hs;have hdone:FJ P B c H n out H' n' R' W':=Vw hF Zm ZX Vs hu hs;simp only[YO]at h;subst h;exact⟨R',W',hdone,fun i hi=>Z5 hi,fun i hi=>Z5 hi,Sd hR0,Sd hW0⟩
  ·cases h
end
end Go.CE
