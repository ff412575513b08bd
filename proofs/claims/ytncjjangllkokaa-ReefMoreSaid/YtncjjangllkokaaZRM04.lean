/- CE: frames. Eighth part: the whole run. -/
import Derived.Test.YtncjjangllkokaaZRM03
set_option linter.all false
open List renaming mem_append_left->Lk,getElem?_cons_zero->Lq,mem_append_right->Lr
open Nat renaming lt_or_ge->LA
namespace Go.CE
open Go Go.RowKit

theorem Ch{α:Type}{q:Bool}{x:α}{r:Option α}(h:(bif q then some x else none)=r)(hr:r.isSome=true):q=true:=by
 cases q with
 |true=>rfl
 |false=>subst h;cases hr
section
variable {P:Program} {F:FuncId->Bool} {Xs:W9} {B:Lo} {rec:CF->Q0->Nat->Option Rs} {c:CF} {H:Q0} {n:Nat}
theorem Sw(hF:∀g,F g=true->QB P g=true)(WJ:cG P B rec){f:Operand}{ps:Array Tmp}{assign body:Code}{k:List Item}{fv:Value}{H1:Q0}{l:Nat}{ds R1 R2:List Nat}{g:FuncId}{args:Array Value}{c1:CF}{s:Rs}(hm:c.mode=.run)(hu:Under H n)
 (ht:c.todo=.code (.rangeFunc f ps assign body)::k) (hfv:Zd c.tmps f=some fv) (ho:VM c H n ps assign body=some (H1,l,ds,R1)) (hc:Yz F H1 fv #[.func (.yield l) #[] #[]]=some (.enter g args,R2)) (he:ZM P g args=some c1) (hs:rec c1 H1 (l+1)=some s):
 Shape H n s.H s.n (R1++R2++s.R) s.W/\∀(S:Nat->Prop) (μ:Mu) (w:World) (fr:Frame) (cs:List Frame) (Z:Bot),Ok B S μ (Q4 H) w->B.has w->(∀i,S i->i<n)->K7 μ n s.n->FrR Z μ c fr->(∀i∈R1++R2++s.R,i<n->S i)->
  ∃Za w' μ' im mark L',Post B S n s.n s.W μ μ' H s.H w w'/\μ' l=some im/\OR2 μ' s.out Za/\TodoR μ' k L'/\DfR μ' ds mark/\fr.mode=.run/\Ext μ μ'/\TR μ' c.tmps fr.tmps/\
   Steps P (lone fr cs w) (lone (Za.on {fr with todo:=.inRangeFunc im.Zi::L',defers:=mark++fr.defers}) cs w'):=by
 have hR2:=rZ hc;subst hR2;rw[List.append_nil];obtain⟨hsh1,hsem⟩:=PD (P:=P) (B:=B) hu ho;have hfj:=WJ c1 H1 (l+1) s (hu.shape hsh1) hs;have l1:=hsh1.le;have l2:=hfj.shape.le;refine⟨hsh1.trans hfj.shape,fun S μ w fr cs Z QR hB hS hf X9 hR=> ?_⟩;obtain⟨a,b,d⟩:=X9.running hm;rw[ht]at d;obtain⟨L',e,hL⟩:=d.code;have hf1:K7 μ n (l+1):=fun q x y=>hf q x (by omega)
 obtain⟨mark,w1,μ1,im,hel,QV,hp,hdf⟩:=hsem S μ w fr QR hB hS hf1 X9.fn b X9.round (fun q hq Xu=>hR q (Lk _ hq) Xu);have e1:=hp.mu hf1;obtain⟨nx',Vh,hnr⟩:=mw (P:=P) hF hc hp.ok ((ml b f fv hfv).mono e1) (args':=#[.func (.yield im.Zi) #[] #[]]) ⟨rfl,fun i v v' h1 h2=>by
  match i,h1,h2 with
  |0,h1,h2=>simp only[List.getElem?_toArray,Lq,YO]at h1 h2;subst h1 h2;exact .yield QV
  |i+1,h1,h2=>simp at h1⟩ (fun i hi=>by simp at hi)
 cases hnr with
 |enter ha=>
  have hf2:∀q,l+1<=q->q<s.n->μ1 q=none:=fun q x y=>by rw[hp.ext q (by omega)];exact hf q (by omega) y
  obtain⟨Za,w',μ',hp2,ho2,hends⟩:=hfj.sem _ μ1 w1 _ ({fr with todo:=.inRangeFunc im.Zi::L',defers:=mark++fr.defers}::cs) hp.ok (hB.post QR hp) (fun q hq=>hq.elim (fun e=>by have:=hS q e;omega) (fun e=>e.2)) hf2 (Vz he ha) (fun q hq Xu=>by
   rcases LA q n with h1|h1
   ·exact .inl (hR q (Lr _ hq) h1)
   ·exact .inr ⟨h1,Xu⟩)
  have e2:=hp2.mu hf2;exact⟨Za,w',μ',im,mark,L',hp.trans hp2,e2 _ _ QV,ho2,hL.mono (e1.trans e2),hdf.mono e2,a,e1.trans e2,b.mono (e1.trans e2),.head (fQ a e hel Vh) (hends.2 _ _ rfl)⟩
theorem nF(hF:∀g,F g=true->QB P g=true)(WJ:cG P B rec){f:Operand}{ps:Array Tmp}{assign body:Code}{k:List Item}{fv v:Value}{H1:Q0}{l:Nat}{ds R1 R2:List Nat}{g:FuncId}{args:Array Value}{c1:CF}{s:Rs}(hm:c.mode=.run)(hu:Under H n)
 (ht:c.todo=.code (.rangeFunc f ps assign body)::k) (hfv:Zd c.tmps f=some fv) (ho:VM c H n ps assign body=some (H1,l,ds,R1)) (hc:Yz F H1 fv #[.func (.yield l) #[] #[]]=some (.enter g args,R2)) (he:ZM P g args=some c1) (hs:rec c1 H1 (l+1)=some s) (hv:s.out=.ret v):
 GoJ P B c H n {c with todo:=.endRangeFunc l::k,defers:=ds++c.defers} s.H s.n (R1++R2++s.R) s.W:=by
 obtain⟨Yu,hsem⟩:=Sw hF WJ hm hu ht hfv ho hc he hs;refine⟨Yu,fun S μ w fr cs Z QR hB hS hf X9 hR=> ?_⟩;obtain⟨Za,w',μ',im,mark,L',hp,QV,ZJ,hL,hdf,a,e,hT,Wn⟩:=hsem S μ w fr cs Z QR hB hS hf X9 hR;rw[hv]at ZJ;cases ZJ with
 |ret _=>exact⟨{fr with todo:=.endRangeFunc im.Zi::L',defers:=mark++fr.defers},w',μ',hp,⟨X9.fn,hT,fun _=>.cons (.endRF QV) hL,DfB.app hdf (X9.defers.mono e),X9.mode.mono e,X9.kind,X9.round.mono e⟩,rfl,rfl,Wn⟩
theorem cy(hF:∀g,F g=true->QB P g=true)(WJ:cG P B rec){f:Operand}{ps:Array Tmp}{assign body:Code}{k:List Item}{fv v:Value}{H1:Q0}{l:Nat}{ds R1 R2:List Nat}{g:FuncId}{args:Array Value}{c1:CF}{s:Rs}(hm:c.mode=.run)(hu:Under H n)
 (ht:c.todo=.code (.rangeFunc f ps assign body)::k) (hfv:Zd c.tmps f=some fv) (ho:VM c H n ps assign body=some (H1,l,ds,R1)) (hc:Yz F H1 fv #[.func (.yield l) #[] #[]]=some (.enter g args,R2)) (he:ZM P g args=some c1) (hs:rec c1 H1 (l+1)=some s) (hv:s.out=.ZW v):
 GoJ P B c H n {c with mode:=.ZW v,defers:=ds++c.defers} s.H s.n (R1++R2++s.R) s.W:=by
 obtain⟨Yu,hsem⟩:=Sw hF WJ hm hu ht hfv ho hc he hs;refine⟨Yu,fun S μ w fr cs Z QR hB hS hf X9 hR=> ?_⟩;obtain⟨Za,w',μ',im,mark,L',hp,QV,ZJ,hL,hdf,a,e,hT,Wn⟩:=hsem S μ w fr cs Z QR hB hS hf X9 hR;rw[hv]at ZJ;cases ZJ with
 |ZW Vi=>
  rename_i v';refine⟨{fr with todo:=.inRangeFunc im.Zi::L',defers:=mark++fr.defers,mode:=.panicking [{v:=v',recovered:=false}]},w',μ',hp,⟨X9.fn,hT,(fun h=>by cases h),DfB.app hdf (X9.defers.mono e),.ZW Vi,X9.kind,X9.round.mono e⟩,rfl,rfl,Wn.trans ?_⟩;simp only[OO.on,Frame.raise,a];exact Steps.refl _ _
theorem WN(hF:∀g,F g=true->QB P g=true)(Ze:P.follows .mixedOrders=true)(ZL:Wd P B Xs)(WJ:cG P B rec)(hu:Under H n){fs:FS}(h:Yv P F Xs rec c H n=some fs):FA P B c H n fs:=by
 unfold Yv at h;split at h
 ·rename_i hm;split at h
  ·rename_i ht;exact Yt hm hu (uw ht) h
  ·rename_i k ht;exact Yt hm hu (uv ht) h
  ·rename_i k ht;simp only[YO]at h;subst h;exact Dp hm ht
  ·rename_i l k ht;simp only[YO]at h;subst h;exact BA hm ht
  ·rename_i l k ht;simp only[YO]at h;subst h;exact u7 hm ht
  ·rename_i l k ht;simp only[YO]at h;subst h;exact u6 hm ht
  ·rename_i x y k ht;simp only[YO]at h;subst h;exact EB hm ht
  ·rename_i q x y k ht;split at h
   ·rename_i t hq;simp only[YO]at h;subst h;exact Dt hm ht hq
   ·cases h
  ·rename_i id x k ht;simp only[YO]at h;subst h;exact BC hm ht
  ·rename_i x k ht;simp only[YO]at h;subst h;exact Dq hm ht
  ·rename_i x k ht;simp only[YO]at h;subst h;exact zo hm ht
  ·rename_i x k ht;simp only[YO]at h;subst h;exact B9 hm ht
  ·rename_i id k ht;split at h
   ·rename_i k' hx;simp only[YO]at h;subst h;exact Ds hm ht hx
   ·rename_i hx;exact Yt hm hu (rE ht hx) h
  ·rename_i id k ht;split at h
   ·rename_i k' hx;simp only[YO]at h;subst h;exact Dr hm ht hx
   ·rename_i hx;exact Yt hm hu (rD ht hx) h
  ·rename_i id ops draw k ht;split at h
   ·rename_i Q6 T' H' n' hr;cases hd:(!draw || (W8 0 ops.toList && indep ops 0 Q6 (K6 ops.toList [])))with
    |false=>rw[hd]at h;cases h
    |true=>
     rw[<-ZB h];exact zm hF WJ ZL Ze hm hu ht hr hd
   ·rename_i Q6 T' v H' n' R W hr;cases hd:(!draw || JQ ops Q6 T')with
    |false=>rw[hd]at h;cases h
    |true=>
     rw[<-ZB h];cases draw with
     |true=>
      obtain⟨hs,hk,JY⟩:=Ua hF WJ ZL (len:=c.tmps.len) ops.toList c.tmps H n Q6 _ rfl hu hr;exact dx Ze hm ht hs hk JY (by simpa using hd)
     |false=>exact kH hF WJ ZL hm hu ht hr
   ·cases h
  ·rename_i f ps assign body k ht;split at h
   ·rename_i fv hfv;split at h
    ·rename_i H1 l ds R1 ho;split at h
     ·rename_i g args R2 hc;split at h
      ·rename_i c1 he;split at h
       ·rename_i s hs;split at h
        ·rename_i v hv;simp only[YO]at h;subst h;exact nF hF WJ hm hu ht hfv ho hc he hs hv
        ·rename_i v hv;simp only[YO]at h;subst h;exact cy hF WJ hm hu ht hfv ho hc he hs hv
       ·cases h
      ·cases h
     ·cases h
    ·cases h
   ·cases h
  ·rename_i l k ht;split at h
   ·rename_i r hg;by_cases hs:r.state=.busy
    ·simp[hs]at h
    ·simp only[hs,decide_false,Bool.not_false,cond_true,YO]at h;subst h;exact BB hm hu ht hg hs
   ·cases h
  ·rename_i k ht;split at h
   ·rename_i l hr;split at h
    ·rename_i r hg;by_cases hs:r.state=.ready
     ·simp only[hs,decide_true,cond_true,YO]at h;subst h;exact kI hm hu ht hr hg hs
     ·simp[hs]at h
    ·cases h
   ·cases h
  ·cases h
 ·rename_i hm;split at h
  ·rename_i d ds hd;split at h
   ·rename_i hg;simp only[YO]at h;subst h;exact u9 hm hu hd hg
   ·cases h
  ·rename_i hd;split at h
   ·rename_i v hv;have hq:=Ch h rfl;rw[<-ZB h];exact BO hv hd hq
   ·rename_i hnp;split at h
    ·rename_i v R hr hv;simp only[YO]at h;subst h;refine BN hu ?_ hd hv;cases hq:c.mode with
     |run=>exact absurd hq hm
     |ret=>rfl
     |ZW v=>exact absurd hq (hnp v)
    ·cases h
theorem FJ.lists{out:OO}{H':Q0}{n':Nat}{R W R' W':List Nat}(h:FJ P B c H n out H' n' R W)(hR:∀i,i<n->(i∈R'<->i∈R))(hW:∀i,i<n->(i∈W'<->i∈W))(Xu:∀i∈W',i<n):FJ P B c H n out H' n' R' W':=by
 refine⟨⟨h.shape.le,fun i hi hw=>h.shape.keep i hi fun e=>hw ((hW i hi).2 e),h.shape.top,fun i hi=>(hR i (Xu i hi)).2 (h.shape.sub i ((hW i (Xu i hi)).1 hi)),fun i hi=>by have:=Xu i hi;have:=h.shape.le;omega⟩,fun S μ w fr cs QR hB hS hf X9 hRS=> ?_⟩;obtain⟨Za,w',μ',hp,ho,he⟩:=h.sem S μ w fr cs QR hB hS hf X9 (fun i hi hl=>hRS i ((hR i hl).2 hi) hl);exact⟨Za,w',μ',hp.lists hW,ho,he⟩
theorem Zr{b:Nat}{l acc:List Nat}{i:Nat}(hi:i<b):i∈ZI b l acc<->i∈acc\/i∈l:=by
 obtain⟨h1,h2,h3⟩:=ky (b:=b) l acc i;exact⟨fun h=>(h1 h).imp id And.left,fun h=>h.elim h2 fun h=>h3 h hi⟩
theorem Y1{b:Nat}{l acc:List Nat}(h:∀i∈acc,i<b):∀i∈ZI b l acc,i<b:=fun i hi=>((ky (b:=b) l acc i).1 hi).elim (h i) And.right
theorem UO(hF:∀g,F g=true->QB P g=true)(Ze:P.follows .mixedOrders=true)(ZL:Wd P B Xs):∀(fuel:Nat) (b:Nat) (c:CF) (H:Q0) (n:Nat) (R0 W0:List Nat) (s:Rs),Under H n->(∀i∈R0,i<b)->(∀i∈W0,i<b)->kJ P F Xs fuel b c H n R0 W0=some s->
 ∃Rr Wr,FJ P B c H n s.out s.H s.n Rr Wr/\(∀i,i<b->(i∈s.R<->i∈R0\/i∈Rr))/\(∀i,i<b->(i∈s.W<->i∈W0\/i∈Wr))/\(∀i∈s.R,i<b)/\(∀i∈s.W,i<b)
 |0,b,c,H,n,R0,W0,s,hu,hR0,hW0,h=>by simp[kJ]at h
 |fuel+1,b,c,H,n,R0,W0,s,hu,hR0,hW0,h=>by
  have WJ:cG P B (fun c1 H1 n1=>kJ P F Xs fuel n1 c1 H1 n1 [] []):=by
   intro c1 H1 n1 s1 hu1 h1;obtain⟨Rr,Wr,hfj,a1,a2,a3,a4⟩:=UO hF Ze ZL fuel n1 c1 H1 n1 [] [] s1 hu1 (fun i hi=>by simp at hi) (fun i hi=>by simp at hi) h1;exact hfj.lists (fun i hi=>by simpa using a1 i hi) (fun i hi=>by simpa using a2 i hi) a4
  simp only[kJ]at h;split at h
  ·rename_i c' H' n' R' W' hs;have Pa:GoJ P B c H n c' H' n' R' W':=WN hF Ze ZL WJ hu hs;obtain⟨Rr,Wr,hfj,a1,a2,a3,a4⟩:=UO hF Ze ZL fuel b c' H' n' (ZI b R' R0) (ZI b W' W0) s (hu.shape Pa.shape) (Y1 hR0) (Y1 hW0) h;refine⟨R'++Rr,W'++Wr,Pa.fj hfj,fun i hi=> ?_,fun i hi=> ?_,a3,a4⟩
   ·rw[a1 i hi,Zr hi,List.mem_append,or_assoc]
   ·rw[a2 i hi,Zr hi,List.mem_append,or_assoc]
  ·rename_i out H' n' R' W' hs;have hdone:FJ P B c H n out H' n' R' W':=WN hF Ze ZL WJ hu hs;simp only[YO]at h;subst h;exact⟨R',W',hdone,fun i hi=>Zr hi,fun i hi=>Zr hi,Y1 hR0,Y1 hW0⟩
  ·cases h
end
end Go.CE
