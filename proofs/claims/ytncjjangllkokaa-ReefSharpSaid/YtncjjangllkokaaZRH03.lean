/- CE: regions. Fourth part: whole regions, in any order and in the text's. -/
import Derived.Test.YtncjjangllkokaaZRH02
import Derived.RangeFuncRecord
import Derived.Tactics
import Derived.RangeFuncNested
set_option linter.all false
open List renaming mem_cons_of_mem->Lw,mem_of_getElem? ->Lp,range->Lg,mem_append_right->Lx,mem_append_left->Lm,length_cons->Lk,range'->LK,getElem?_cons_zero->Lv,getElem?_append_left->Ly,getElem?_map->LC,length->Lc,getElem?_append_right->Ll,append_assoc->LY
open Nat renaming zero_add->LB,strongRecOn->Lz,le_refl->LH,lt_or_ge->LJ,beq->Lf,ble->LP,blt->Ls,ble_eq_true_of_le->LD
open Option renaming map_some->LI
open Array renaming getElem?_toList->Lr
namespace Go.CE
open Go Go.RowKit

theorem jb{α:Type}{p q:α->Bool}:∀(l:List α),(∀x∈l,p x=true->q x=true)->(∃x∈l,q x=true/\p x=false)->l.countP p<l.countP q
 |[],_,h=>by obtain⟨x,hx,_⟩:=h;simp at hx
 |a::l,hpq,h=>by
  obtain⟨x,hx,h1,h2⟩:=h;have hm:l.countP p<=l.countP q:=List.countP_mono_left fun y hy hp=>hpq y (Lw _ hy) hp
  rcases List.mem_cons.1 hx with rfl|hx
  ·rw[List.countP_cons,List.countP_cons,h1,h2];simp;omega
  ·have:=jb l (fun y hy=>hpq y (Lw _ hy)) ⟨x,hx,h1,h2⟩;have ha:=hpq a (by simp);rw[List.countP_cons,List.countP_cons];cases hp:p a with
   |true=>rw[ha hp];simp;omega
   |false=>simp;omega
section
variable {P:Program} {B:Lo} {ops:Array Oper} {Qz:List Rec} {bs:List (List Nat)} {T:Tm} {H:Qq} {n:Nat} {T':Tm} {H':Qq} {n':Nat}
def Uc(Qz:List Rec):List Nat:=Qz.flatMap (·.W)
def Y9(Qz:List Rec):List Nat:=Qz.flatMap (·.R)
theorem DH(h:Setup P B ops Qz bs T H n T' H' n'){S:Nat->Prop}{μ0 μ:Mu}{w0 w:World}{D:Nat->Bool}(hpg:PG B S (uK Qz D) (WD Qz n D) μ0 μ (Qt H) (gD Qz H D) w0 w)(hD:∀k,k<ops.size->D k=true)(hS:∀i,S i->i<n):
 Post B S n n' (Uc Qz) μ0 μ H H' w0 w:=by
 have Sw:=P2 Qz T H n T' H' n' h.chain h.Sm;have dk:∀(k:Nat) (r:Rec),Qz[k]? =some r->D k=true:=fun k r hk=>hD k (by rw[<-h.len];exact(List.getElem?_eq_some_iff.1 hk).1)
 refine PG.post (New:=uK Qz D) (hpg.congr (fun _=>Iff.rfl) (fun i=> ?_) (fun i=> ?_)) (fun i=> ?_) Sw.1 hS
 ·constructor
  ·rintro⟨a,q,r,_,b,c⟩;exact⟨List.mem_flatMap.2 ⟨r,Lp b,c⟩,a⟩
  ·rintro⟨a,b⟩;obtain⟨r,hr,hw⟩:=List.mem_flatMap.1 a;obtain⟨q,hq⟩:=List.getElem?_of_mem hr;exact⟨b,q,r,dk q r hq,hq,hw⟩
 ·rw[(eZ (len:=T.len) i Qz 0 T H n T' H' n' h.chain h.Sm).2];refine Wv _ _ _ fun q y hy=> ?_
  obtain⟨r,hr,_⟩:=lN hy;rw[LB];exact dk q r hr
 ·constructor
  ·rintro⟨q,r,_,b,c,d⟩;have:=Sw.2.1 r (Lp b);omega
  ·rintro⟨a,b⟩;obtain⟨q,r,hq,c,d⟩:=Sw.2.2.2 i a b;exact⟨q,r,dk q r hq,hq,c,d⟩
theorem Inv.full(h:Setup P B ops Qz bs T H n T' H' n'){S:Nat->Prop}{μ0 μ:Mu}{w0 w:World}{D:Nat->Bool}{A:Array Value}(hi:Inv B Qz T H n S μ0 w0 D μ A w)(hD:∀k,k<ops.size->D k=true)(hS:∀i,S i->i<n):
 Post B S n n' (Uc Qz) μ0 μ H H' w0 w/\TR μ T' A:=by
 have Sw:=P2 Qz T H n T' H' n' h.chain h.Sm;have dk:∀(k:Nat) (r:Rec),Qz[k]? =some r->D k=true:=fun k r hk=>hD k (by rw[<-h.len];exact(List.getElem?_eq_some_iff.1 hk).1)
 constructor
 ·exact DH h hi.pg hD hS
 ·have hl:=(KI (len:=T.len) 0 Qz 0 T H n T' H' n' h.chain h.Sm rfl).2.1;refine⟨by rw[hl,hi.size],fun t=> ?_⟩;rw[(KI (len:=T.len) t Qz 0 T H n T' H' n' h.chain h.Sm rfl).2.2];have:=hi.tmps t;rw[show tD Qz T D t=Kk (fun _=>true) (Qz.map (cT t)) 0 (Zc T t)from ?_]at this
  ·exact this
  ·refine Wv _ _ _ fun q y hy=> ?_
   obtain⟨r,hr,_⟩:=lL hy;rw[LB];exact dk q r hr
theorem Qat(h:Setup P B ops Qz bs T H n T' H' n')(hk:∀r∈Qz,Sl P B ops r){S:Nat->Prop}{μ0:Mu}{w0:World}(hS:∀i,S i->i<n)(hR:∀r∈Qz,∀i∈r.R,i<n->S i)(UK:P4 μ0 n n')(hB:B.has w0)(hok0:Ok B S μ0 (Qt H) w0){fr:Frame}{cs:List Frame}{k:List Item}(hm:fr.mode=.run):
 ∀(fuel t:Nat) (listed:Array Bool) (μ:Mu) (A:Array Value) (w:World),listed.size=ops.size->UO ops (fun i=>listed.getD i false)->(Lg ops.size).countP (fun i=> !listed.getD i false)<=fuel->Inv B Qz T H n S μ0 w0 (fun i=>listed.getD i false) μ A w->
  ∃μ' A' w',Post B S n n' (Uc Qz) μ0 μ' H H' w0 w'/\TR μ' T' A'/\Steps P (lone (Xu fr A ops (Region.linearise.go .any ops fuel t listed []) k) cs w) (lone {fr with tmps:=A',todo:=k} cs w'):=by
 have done:∀(listed:Array Bool) (μ:Mu) (A:Array Value) (w:World),Inv B Qz T H n S μ0 w0 (fun i=>listed.getD i false) μ A w->(∀k,k<ops.size->listed.getD k false=true)->
  ∃μ' A' w',Post B S n n' (Uc Qz) μ0 μ' H H' w0 w'/\TR μ' T' A'/\Steps P (lone (Xu fr A ops [] k) cs w) (lone {fr with tmps:=A',todo:=k} cs w'):=by
  intro listed μ A w hi YC;obtain⟨h1,h2⟩:=hi.full h YC hS;exact⟨μ,A,w,h1,h2,.one (Uf hm)⟩
 intro fuel;induction fuel with
 |zero=>
  intro t listed μ A w hl hc hcnt hi;have hz:∀q∈Lg ops.size,¬(!listed.getD q false)=true:=List.countP_eq_zero.1 (by omega);simp only[Region.linearise.go,List.reverse_nil];exact done listed μ A w hi fun q hq=>by simpa using hz q (List.mem_range.2 hq)
 |succ fuel ih=>
  intro t listed μ A w hl hc hcnt hi;simp only[Region.linearise.go];change ∃μ' A' w',_/\_/\Steps P (lone (Xu fr A ops (match(Region.ready .any ops listed)[t % (Region.ready .any ops listed).length]? with
   |some i=>Region.linearise.go .any ops fuel (t / (Region.ready .any ops listed).length) (listed.setIfInBounds i true) [i]
   |none=>[].reverse) k) cs w) _
  have gtrue:∀q,q<ops.size->listed.getD q true=listed.getD q false:=by
   intro q hq;have:q<listed.size:=by omega
   simp[this]
  cases hi0:(Region.ready .any ops listed)[t % (Region.ready .any ops listed).length]? with
  |none=>
   have hnil:Region.ready .any ops listed=[]:=by
    cases hr:Region.ready .any ops listed with
    |nil=>rfl
    |cons x xs=>
     rw[hr]at hi0;have Xp:t % (x::xs).length<(x::xs).length:=Nat.mod_lt _ (by simp);simp at hi0;simp at Xp;omega
   have YC:∀q,q<ops.size->listed.getD q false=true:=by
    intro q;induction q using Lz with
    |_ q ihq=>
     intro hq;cases hd:listed.getD q false with
     |true=>rfl
     |false=>
      have:q∈Region.ready .any ops listed:=by
       rw[mem_ready];refine⟨by rw[gtrue q hq];exact hd,ops[q],by simp[hq],fun e he hb=> ?_⟩;have Xp:=h.edge q ops[q] (by simp[hq]) e he hb;exact ihq e.on Xp (by omega)
      rw[hnil]at this;cases this
   simp only[List.reverse_nil];exact done listed μ A w hi YC
  |some j=>
   have hmem:=Lp hi0;obtain⟨hj1,o,ho,hj2⟩:=mem_ready.1 hmem;have hjlt:j<ops.size:=(Array.getElem?_eq_some_iff.1 ho).1;have hjf:listed.getD j false=false:=by rw[<-gtrue j hjlt];exact hj1
   simp only[];rw[linearise_go_acc,List.reverse_singleton,List.singleton_append];have hready:∀o',ops[j]? =some o'->∀e∈o'.after,Region.binds .any e=true->listed.getD e.on false=true:=fun o' Kt=>by rw[ho]at Kt;cases Kt;exact hj2
   obtain⟨μ1,A1,w1,hi1,hs1⟩:=Ab h hS hR UK hB hok0 (D:=fun i=>listed.getD i false) hc hjlt hjf (fun x hx=>hk x (Lp hx)) hready hi (cs:=cs) (l:=Region.linearise.go .any ops fuel (t / (Region.ready .any ops listed).length) (listed.setIfInBounds j true) []) (k:=k) hm;have heq:(fun i=>(listed.setIfInBounds j true).getD i false)=plus (fun i=>listed.getD i false) j:=by
    funext q;by_cases e:q=j
    ·subst e;rw[Vf];simp[show q<listed.size by omega]
    ·rw[V7 e,getD_set_ne false (Ne.symm e)]
   have hc1:UO ops (fun i=>(listed.setIfInBounds j true).getD i false):=by
    intro q o' hq Kt e he hb;rw[heq]at hq;by_cases eq:q=j
    ·subst eq;exact getD_set_true (hready o' Kt e he hb)
    ·rw[V7 eq]at hq;exact getD_set_true (hc q o' hq Kt e he hb)
   obtain⟨μ2,A2,w2,h1,h2,h3⟩:=ih (t / (Region.ready .any ops listed).length) (listed.setIfInBounds j true) μ1 A1 w1 (by simpa using hl) hc1 (by
    have:(Lg ops.size).countP (fun i=> !(listed.setIfInBounds j true).getD i false)<(Lg ops.size).countP (fun i=> !listed.getD i false):=by
     refine jb _ (fun q _ hq=> ?_) ⟨j,List.mem_range.2 hjlt,by simpa using hjf, ?_⟩
     ·have e2:=congrFun heq q;rw[e2]at hq;by_cases e:q=j
      ·subst e;rw[Vf]at hq;cases hq
      ·rw[V7 e]at hq;exact hq
     ·have e2:=congrFun heq j;rw[e2,Vf];rfl
    omega) (by rw[heq];exact hi1)
   exact⟨μ2,A2,w2,h1,h2,hs1.trans h3⟩
theorem NS(h:Setup P B ops Qz bs T H n T' H' n')(hk:∀(i:Nat) r,Qz[i]? =some r->i+1<ops.size->Sl P B ops r)(hpos:0<ops.size)(hlast:∀i,i+1<ops.size->i∈bs.getD (ops.size-1) []){S:Nat->Prop}{μ0:Mu}{w0:World}(hS:∀i,S i->i<n)(hR:∀r∈Qz,∀i∈r.R,i<n->S i)(UK:P4 μ0 n n')(hB:B.has w0)(hok0:Ok B S μ0 (Qt H) w0){fr:Frame}{cs:List Frame}{k:List Item}(hm:fr.mode=.run):
 ∀(fuel t:Nat) (listed:Array Bool) (μ:Mu) (A:Array Value) (w:World),listed.size=ops.size->UO ops (fun i=>listed.getD i false)->(Lg ops.size).countP (fun i=> !listed.getD i false)<=fuel->listed.getD (ops.size-1) false=false->Inv B Qz T H n S μ0 w0 (fun i=>listed.getD i false) μ A w->
  ∃l μ' A' w',Inv B Qz T H n S μ0 w0 (fun i=>decide (i+1<ops.size)) μ' A' w'/\Steps P (lone (Xu fr A ops (Region.linearise.go .any ops fuel t listed []) k) cs w) (lone (Xu fr A' ops ((ops.size-1)::l) k) cs w'):=by
 intro fuel;induction fuel with
 |zero=>
  intro t listed μ A w hl hc hcnt hun hi;have hz:∀q∈Lg ops.size,¬(!listed.getD q false)=true:=List.countP_eq_zero.1 (by omega);exact absurd (hz (ops.size-1) (List.mem_range.2 (by omega))) (by simp only[hun];decide)
 |succ fuel ih=>
  intro t listed μ A w hl hc hcnt hun hi;simp only[Region.linearise.go];change ∃l μ' A' w',_/\Steps P (lone (Xu fr A ops (match(Region.ready .any ops listed)[t % (Region.ready .any ops listed).length]? with
   |some i=>Region.linearise.go .any ops fuel (t / (Region.ready .any ops listed).length) (listed.setIfInBounds i true) [i]
   |none=>[].reverse) k) cs w) _
  have gtrue:∀q,q<ops.size->listed.getD q true=listed.getD q false:=by
   intro q hq;have:q<listed.size:=by omega
   simp[this]
  cases hi0:(Region.ready .any ops listed)[t % (Region.ready .any ops listed).length]? with
  |none=>
   have hnil:Region.ready .any ops listed=[]:=by
    cases hr:Region.ready .any ops listed with
    |nil=>rfl
    |cons x xs=>
     rw[hr]at hi0;have Xp:t % (x::xs).length<(x::xs).length:=Nat.mod_lt _ (by simp);simp at hi0;simp at Xp;omega
   have YC:∀q,q<ops.size->listed.getD q false=true:=by
    intro q;induction q using Lz with
    |_ q ihq=>
     intro hq;cases hd:listed.getD q false with
     |true=>rfl
     |false=>
      have:q∈Region.ready .any ops listed:=by
       rw[mem_ready];refine⟨by rw[gtrue q hq];exact hd,ops[q],by simp[hq],fun e he hb=> ?_⟩;have Xp:=h.edge q ops[q] (by simp[hq]) e he hb;exact ihq e.on Xp (by omega)
      rw[hnil]at this;cases this
   exact absurd (YC (ops.size-1) (by omega)) (by rw[hun];decide)
  |some j=>
   have hmem:=Lp hi0;obtain⟨hj1,o,ho,hj2⟩:=mem_ready.1 hmem;have hjlt:j<ops.size:=(Array.getElem?_eq_some_iff.1 ho).1;have hjf:listed.getD j false=false:=by rw[<-gtrue j hjlt];exact hj1
   simp only[];rw[linearise_go_acc,List.reverse_singleton,List.singleton_append];have hready:∀o',ops[j]? =some o'->∀e∈o'.after,Region.binds .any e=true->listed.getD e.on false=true:=fun o' Kt=>by rw[ho]at Kt;cases Kt;exact hj2
   by_cases hjl:j=ops.size-1
   ·have heq:(fun i=>listed.getD i false)=fun i=>decide (i+1<ops.size):=by
     funext q;by_cases hq:q+1<ops.size
     ·have:=qx h hc (k:=j) hready q (by rw[hjl];exact hlast q hq);rw[this];simp[hq]
     ·by_cases hq2:q=ops.size-1
      ·rw[hq2,hun];simp;omega
      ·have:¬q<listed.size:=by omega
       simp[this,hq]
    rw[heq]at hi;refine⟨Region.linearise.go .any ops fuel (t / (Region.ready .any ops listed).length) (listed.setIfInBounds j true) [],μ,A,w,hi, ?_⟩;rw[<-hjl];exact Steps.refl _ _
   ·have hjs:j+1<ops.size:=by omega
    obtain⟨μ1,A1,w1,hi1,hs1⟩:=Ab h hS hR UK hB hok0 (D:=fun i=>listed.getD i false) hc hjlt hjf (fun x hx=>hk j x hx hjs) hready hi (cs:=cs) (l:=Region.linearise.go .any ops fuel (t / (Region.ready .any ops listed).length) (listed.setIfInBounds j true) []) (k:=k) hm;have heq:(fun i=>(listed.setIfInBounds j true).getD i false)=plus (fun i=>listed.getD i false) j:=by
     funext q;by_cases e:q=j
     ·subst e;rw[Vf];simp[show q<listed.size by omega]
     ·rw[V7 e,getD_set_ne false (Ne.symm e)]
    have hc1:UO ops (fun i=>(listed.setIfInBounds j true).getD i false):=by
     intro q o' hq Kt e he hb;rw[heq]at hq;by_cases eq:q=j
     ·subst eq;exact getD_set_true (hready o' Kt e he hb)
     ·rw[V7 eq]at hq;exact getD_set_true (hc q o' hq Kt e he hb)
    obtain⟨l2,μ2,A2,w2,h1,h3⟩:=ih (t / (Region.ready .any ops listed).length) (listed.setIfInBounds j true) μ1 A1 w1 (by simpa using hl) hc1 (by
     have:(Lg ops.size).countP (fun i=> !(listed.setIfInBounds j true).getD i false)<(Lg ops.size).countP (fun i=> !listed.getD i false):=by
      refine jb _ (fun q _ hq=> ?_) ⟨j,List.mem_range.2 hjlt,by simpa using hjf, ?_⟩
      ·have e2:=congrFun heq q;rw[e2]at hq;by_cases e:q=j
       ·subst e;rw[Vf]at hq;cases hq
       ·rw[V7 e]at hq;exact hq
      ·have e2:=congrFun heq j;rw[e2,Vf];rfl
     omega) (by have e3:=congrFun heq (ops.size-1);rw[e3,V7 (Ne.symm hjl)];exact hun) (by rw[heq];exact hi1)
    exact⟨l2,μ2,A2,w2,h1,hs1.trans h3⟩
theorem jz(Zl:P.follows .mixedOrders=true)(h:Setup P B ops Qz bs T H n T' H' n')(hk0:∀r∈Qz,Sl P B ops r){S:Nat->Prop}{μ:Mu}{w:World}(QE:Ok B S μ (Qt H) w)(hS:∀i,S i->i<n)(hR:∀i∈Y9 Qz,i<n->S i)(UK:P4 μ n n')(hB:B.has w){fr:Frame}{cs:List Frame}{id:Nat}{k:List Item}
 (hm:fr.mode=.run) (ht:TR μ T fr.tmps) (hk:fr.todo=.code (.region id ops true)::k):
 ∃μ' A' w',Post B S n n' (Uc Qz) μ μ' H H' w w'/\TR μ' T' A'/\Steps P (lone fr cs w) (lone {fr with tmps:=A',todo:=k} cs w'):=by
 let w1:World:={w with drawn:=w.drawn+1}
 have hw1:Ok B S μ (Qt H) w1:=⟨fun i o a b c=>let⟨im,x,y⟩:=QE.rel i o a b c;⟨im,x,y.keep (Ext.refl _) rfl⟩,QE.low,QE.inj,QE.Pj,QE.sep⟩
 have hstep:step P (lone fr cs w)=.next (lone (Xu fr fr.tmps ops (Region.schedule (P.follows .mixedOrders) ops (w.tape w.drawn (.order fr.fn id))) k) cs w1):=
  step_lone_go (by simp[stepG,stepG.exec,Xu,hm,hk,choose,Sem.run,Question.forced,Question.cut,w1])
 have hsch:Region.schedule (P.follows .mixedOrders) ops (w.tape w.drawn (.order fr.fn id))=Region.linearise .any ops (w.tape w.drawn (.order fr.fn id)):=by
  simp[Region.schedule,Zl]
 rw[hsch]at hstep;have hrep:∀i,(Array.replicate ops.size false).getD i false=false:=by
  intro i;by_cases hi:i<ops.size <;> simp[hi]
 have hinv:Inv B Qz T H n S μ w1 (fun i=>(Array.replicate ops.size false).getD i false) μ fr.tmps w1:=by
  refine⟨(PG.refl hw1).congr (fun i=>⟨False.elim, ?_⟩) (fun i=>⟨False.elim, ?_⟩) (fun i=> ?_),ht.1.symm,fun t=> ?_⟩
  ·rintro⟨q,r,a,_⟩;exact absurd ((hrep q).symm.trans a) (by simp)
  ·rintro⟨_,q,r,a,_⟩;exact absurd ((hrep q).symm.trans a) (by simp)
  ·exact(UG _ _ _ fun q x _=>hrep _).symm
  ·rw[show tD Qz T (fun i=>(Array.replicate ops.size false).getD i false) t=Zc T t from UG _ _ _ fun q x _=>hrep _];exact ht.2 t
 obtain⟨μ',A',w',h1,h2,h3⟩:=Qat h hk0 (w0:=w1) hS (fun r hr i hi=>hR i (List.mem_flatMap.2 ⟨r,hr,hi⟩)) UK ⟨hB.le,B.still w w1 (fun _ _=>rfl) hB.inv⟩ hw1 (fr:=fr) (cs:=cs) (k:=k) hm ops.size (w.tape w.drawn (.order fr.fn id)) (Array.replicate ops.size false) μ fr.tmps w1 (by simp)
  (fun q o a=>absurd ((hrep q).symm.trans a) (by simp)) (by
   have:=List.countP_le_length (p:=fun i=> !(Array.replicate ops.size false).getD i false) (l:=Lg ops.size);simpa using this) hinv
 exact⟨μ',A',w',⟨h1.ok,h1.le,h1.ext,h1.keep,h1.grow,h1.frame,h1.wr,h1.fresh,h1.rf,h1.os,h1.tape,h1.output⟩,h2,.head hstep h3⟩
theorem kI(Zl:P.follows .mixedOrders=true)(h:Setup P B ops Qz bs T H n T' H' n')(hk0:∀(i:Nat) r,Qz[i]? =some r->i+1<ops.size->Sl P B ops r)(hlast:∀i,i+1<ops.size->i∈bs.getD (ops.size-1) []){x:Rec}{v:Value}(hx:Qz[ops.size-1]? =some x)(hdo:T3 P B x.o (Zd x.T) x.H x.n (.Wn v) x.H' x.n' x.R x.W)(Yh:Region.wanted x.o (XS ops x.T)=true){S:Nat->Prop}{μ:Mu}{w:World}(QE:Ok B S μ (Qt H) w)(hS:∀i,S i->i<n)(hR:∀i∈Y9 Qz,i<n->S i)(UK:P4 μ n n')(hB:B.has w){fr:Frame}{cs:List Frame}{id:Nat}{k:List Item}
 (hm:fr.mode=.run) (ht:TR μ T fr.tmps) (hk:fr.todo=.code (.region id ops true)::k):
 ∃μ' A' w' l v',Post B S n n' (Uc Qz) μ μ' H H' w w'/\TR μ' x.T A'/\VR μ' v v'/\Steps P (lone fr cs w) (lone {Xu fr A' ops ((ops.size-1)::l) k with mode:=.panicking [{v:=v',recovered:=false}]} cs w'):=by
 have hpos:0<ops.size:=by have:=(List.getElem?_eq_some_iff.1 hx).1;rw[h.len]at this;omega
 let w1:World:={w with drawn:=w.drawn+1}
 have hw1:Ok B S μ (Qt H) w1:=⟨fun i o a b c=>let⟨im,x,y⟩:=QE.rel i o a b c;⟨im,x,y.keep (Ext.refl _) rfl⟩,QE.low,QE.inj,QE.Pj,QE.sep⟩
 have hstep:step P (lone fr cs w)=.next (lone (Xu fr fr.tmps ops (Region.schedule (P.follows .mixedOrders) ops (w.tape w.drawn (.order fr.fn id))) k) cs w1):=
  step_lone_go (by simp[stepG,stepG.exec,Xu,hm,hk,choose,Sem.run,Question.forced,Question.cut,w1])
 have hsch:Region.schedule (P.follows .mixedOrders) ops (w.tape w.drawn (.order fr.fn id))=Region.linearise .any ops (w.tape w.drawn (.order fr.fn id)):=by
  simp[Region.schedule,Zl]
 rw[hsch]at hstep;have hrep:∀i,(Array.replicate ops.size false).getD i false=false:=by
  intro i;by_cases hi:i<ops.size <;> simp[hi]
 have hinv:Inv B Qz T H n S μ w1 (fun i=>(Array.replicate ops.size false).getD i false) μ fr.tmps w1:=by
  refine⟨(PG.refl hw1).congr (fun i=>⟨False.elim, ?_⟩) (fun i=>⟨False.elim, ?_⟩) (fun i=> ?_),ht.1.symm,fun t=> ?_⟩
  ·rintro⟨q,r,a,_⟩;exact absurd ((hrep q).symm.trans a) (by simp)
  ·rintro⟨_,q,r,a,_⟩;exact absurd ((hrep q).symm.trans a) (by simp)
  ·exact(UG _ _ _ fun q x _=>hrep _).symm
  ·rw[show tD Qz T (fun i=>(Array.replicate ops.size false).getD i false) t=Zc T t from UG _ _ _ fun q x _=>hrep _];exact ht.2 t
 have hRR:∀r∈Qz,∀i∈r.R,i<n->S i:=fun r hr i hi=>hR i (List.mem_flatMap.2 ⟨r,hr,hi⟩)
 have hB1:B.has w1:=⟨hB.le,B.still w w1 (fun _ _=>rfl) hB.inv⟩
 obtain⟨l,μ1,A1,w2,h1,h3⟩:=NS h hk0 hpos hlast (w0:=w1) hS (fun r hr i hi=>hR i (List.mem_flatMap.2 ⟨r,hr,hi⟩)) UK ⟨hB.le,B.still w w1 (fun _ _=>rfl) hB.inv⟩ hw1 (fr:=fr) (cs:=cs) (k:=k) hm ops.size (w.tape w.drawn (.order fr.fn id)) (Array.replicate ops.size false) μ fr.tmps w1 (by simp)
  (fun q o a=>absurd ((hrep q).symm.trans a) (by simp)) (by
   have:=List.countP_le_length (p:=fun i=> !(Array.replicate ops.size false).getD i false) (l:=Lg ops.size);simpa using this) (hrep _) hinv
 have hcl:UO ops (fun i=>decide (i+1<ops.size)):=by
  intro q o hq ho e he hb;have:=h.edge q o ho e he hb;simp only[decide_eq_true_eq]at hq ⊢;omega
 obtain⟨Zh,μ',w',hpg,hext,ZU,ZB⟩:=Ac h hS hRR UK hB1 hw1 hcl (j:=ops.size-1) (by simp;omega) (fun o ho e he hb=>by
  have:=h.edge _ o ho e he hb;simp only[decide_eq_true_eq];omega) h1 (fr:=fr) (cs:=cs) (l:=l) (k:=k) hm hx hdo Yh
 have hp:=DH h hpg (fun q hq=>by
  by_cases e:q=ops.size-1
  ·rw[e];exact Vf
  ·rw[V7 e];simp only[decide_eq_true_eq];omega) hS
 have Sw:=P2 Qz T H n T' H' n' h.chain h.Sm;have hT:TR μ1 x.T A1:=by
  have hl:=((KI (len:=T.len) 0 Qz 0 T H n T' H' n' h.chain h.Sm rfl).1 _ x hx).1;refine⟨by rw[hl,h1.size],fun t=> ?_⟩;have hq:=((KI (len:=T.len) t Qz 0 T H n T' H' n' h.chain h.Sm rfl).1 _ x hx).2;rw[hq];have:=h1.tmps t;rw[show tD Qz T (fun i=>decide (i+1<ops.size)) t=Kk (fun q=>decide (q<0+(ops.size-1))) (Qz.map (cT t)) 0 (Zc T t)from ?_]at this
  ·exact this
  ·refine Wv _ _ _ fun q y hy=> ?_
   exact decide_eq_decide.2 (by omega)
 cases ZU with
 |Wn hv=>
  rename_i v';refine⟨μ',A1,w',l,v',⟨hp.ok,hp.le,hp.ext,hp.keep,hp.grow,hp.frame,hp.wr,hp.fresh,hp.rf,hp.os,hp.tape,hp.output⟩, ?_,hv,.head hstep (h3.trans (ZB.trans ?_))⟩
  ·exact hT.mono hext
  ·simp only[OO.on,Frame.raise,Xu,hm];exact Steps.refl _ _
end
end Go.CE

namespace Go.CE
open Go Go.RowKit
structure Shape (H:Qq) (n:Nat) (H':Qq) (n':Nat) (R W:List Nat):Prop where
 le:n<=n'
 keep:∀i,i<n->i ∉ W->Qt H' i=Qt H i
 top:∀i,n'<=i->Qt H' i=Qt H i
 sub:∀i,i∈W->i∈R
 wlt:∀i,i∈W->i<n'
theorem Shape.same(H:Qq)(n:Nat)(R:List Nat):Shape H n H n R []:=⟨LH _,fun _ _ _=>rfl,fun _ _=>rfl,fun _ h=>by simp at h,fun _ h=>by simp at h⟩
theorem Shape.trans{H H1 H2:Qq}{n n1 n2:Nat}{R1 R2 W1 W2:List Nat}(h:Shape H n H1 n1 R1 W1)(k:Shape H1 n1 H2 n2 R2 W2):Shape H n H2 n2 (R1++R2) (W1++W2):=by
 have:=h.le;have:=k.le;refine⟨by omega,fun i hi hw=> ?_,fun i hi=> ?_,fun i hi=> ?_,fun i hi=> ?_⟩
 ·rw[k.keep i (by omega) (fun e=>hw (Lx _ e)),h.keep i hi (fun e=>hw (Lm _ e))]
 ·rw[k.top i hi,h.top i (by omega)]
 ·exact(List.mem_append.1 hi).elim (fun e=>Lm _ (h.sub i e)) (fun e=>Lx _ (k.sub i e))
 ·exact(List.mem_append.1 hi).elim (fun e=>by have:=h.wlt i e;omega) (k.wlt i)
theorem Shape.new(H:Qq)(n:Nat)(o:Obj)(R:List Nat):Shape H n ((n,o)::H) (n+1) R []:=
 ⟨by omega,fun i hi _=>by rw[QQ,if_neg (by omega)],fun i hi=>by rw[QQ,if_neg (by omega)],fun _ h=>by simp at h,fun _ h=>by simp at h⟩
theorem Shape.set{H:Qq}{n b:Nat}(o:Obj)(hb:b<n):Shape H n (VE H b o) n [b] [b]:=
 ⟨LH _,fun i _ hw=>by rw[da,if_neg (fun e=>hw (by simp[e.1]))],fun i hi=>by rw[da,if_neg (fun e=>by omega)],fun _ h=>h,fun _ h=>by simp at h;omega⟩
theorem Shape.moreR{H H':Qq}{n n':Nat}{R R' W:List Nat}(h:Shape H n H' n' R W)(hr:∀i,i∈W->i∈R'):Shape H n H' n' R' W:=⟨h.le,h.keep,h.top,hr,h.wlt⟩
def Under(H:Qq)(n:Nat):Prop:=∀i,n<=i->Qt H i=none
theorem Under.lt{H:Qq}{n i:Nat}{o:Obj}(h:Under H n)(hg:Qt H i=some o):i<n:=by
 rcases LJ i n with hl|hl
 ·exact hl
 ·rw[h i hl]at hg;cases hg
theorem Under.shape{H H':Qq}{n n':Nat}{R W:List Nat}(h:Under H n)(hs:Shape H n H' n' R W):Under H' n':=fun i hi=>by
 rw[hs.top i hi];exact h i (Nat.le_trans hs.le hi)
theorem qN{P:Program}{t:TypeId}{H:Qq}{n:Nat}{s x:Value}{r:CR}(hu:Under H n)(h:VY P t H n s x=some r):Shape H n r.H r.n r.R r.W:=by
 unfold VY at h;split at h
 ·split at h
  ·split at h
   ·split at h
    ·rename_i cs k ko ns m b hh hn;rw[<-ZN h];have hko:∀q,ko=some q->q<n:=by
      intro q hq;subst hq;have hh':=hh;unfold Sv at hh';split at hh'
      ·cases hh'
      ·split at hh'
       ·rename_i hg;have e:=(pZ hg hh).2.2.2.2.2;simp only[YO]at e;rw[e];exact hu.lt hg
       ·cases hh'
      ·cases hh'
     refine⟨by simp,fun i hi hw=> ?_,fun i hi=> ?_,fun i hi=>Lw _ hi,fun i hi=> ?_⟩
     ·simp only at hw ⊢;rw[QQ,if_neg (by omega),UJ,if_neg];rintro⟨⟨q,rfl,rfl⟩,_⟩;exact hw (by simp)
     ·simp only at hi ⊢;rw[QQ,if_neg (by omega),UJ,if_neg];rintro⟨⟨q,e,rfl⟩,_⟩;have:=hko _ e;omega
     ·simp only at hi ⊢;have:=hko i (by cases ko <;> simp_all);omega
    ·cases h
   ·cases h
  ·cases h
 ·cases h
theorem Dp{P:Program}{t t':TypeId}{H:Qq}{n:Nat}{s x:Value}{r:CR}(hu:Under H n)(h:At P t t' H n s x=some r):Shape H n r.H r.n r.R r.W:=by
 unfold At at h;cases htt:Lf t t' with
 |false=>
  rw[htt]at h;simp only[cond_false]at h;unfold s6 at h;split at h
  ·split at h
   ·split at h
    ·rw[<-ZN h];exact Shape.new _ _ _ _
    ·cases h
   ·cases h
  ·cases h
 |true=>
  rw[htt]at h;simp only[cond_true]at h;split at h
  ·rename_i r0 hca;simp only[YO]at h;subst h;exact qN hu hca
  ·unfold Ed at h;split at h
   ·split at h
    ·rw[<-ZN h];exact Shape.same _ _ _
    ·cases h
   ·cases h
theorem jc{P:Program}{F:FuncId->Bool}{o:Oper}{ev:Operand->Option Value}{H:Qq}{n:Nat}{r:CR}(hu:Under H n)(h:uu P F ev o H n=some r):Shape H n r.H r.n r.R r.W:=by
 have XY:∀{x:Option Value},mkPure x H n=some r->Shape H n r.H r.n r.R r.W:=by
  intro x h;obtain⟨v,_,rfl⟩:=Z8 h;exact Shape.same _ _ _
 unfold uu at h;split at h
 ·exact XY h
 ·exact XY h
 ·split at h
  ·exact XY h
  ·cases h
 ·split at h
  ·rw[<-ZN h];exact Shape.new _ _ _ _
  ·cases h
 ·split at h
  ·simp only[YO]at h;subst h;exact Shape.new _ _ _ _
  ·cases h
 ·split at h
  ·exact XY h
  ·cases h
 ·split at h
  ·split at h
   ·simp only[YO]at h;subst h;exact Shape.new _ _ _ _
   ·rw[<-ZN h];exact Shape.same _ _ _
  ·cases h
 ·split at h
  ·split at h
   ·simp only[YO]at h;subst h;exact Shape.same _ _ _
   ·cases h
  ·cases h
 ·-- store
  split at h
  ·split at h
   ·rename_i H' b hb;simp only[YO]at h;subst h;unfold Sy at hb;split at hb
    ·split at hb
     ·rename_i hg;split at hb
      ·have e:=ZN hb;simp only[YR]at e;obtain⟨rfl,rfl⟩:=e;exact Shape.set _ (hu.lt hg)
      ·cases hb
     ·cases hb
    ·cases hb
   ·cases h
  ·cases h
 ·split at h
  ·exact XY h
  ·cases h
 ·split at h
  ·exact XY h
  ·cases h
 ·split at h
  ·exact XY h
  ·cases h
 ·split at h
  ·exact XY h
  ·exact XY h
 ·split at h
  ·exact XY h
  ·cases h
 ·split at h
  ·split at h
   ·simp only[YO]at h;subst h;exact Shape.new _ _ _ _
   ·cases h
  ·cases h
 ·split at h
  ·exact XY h
  ·exact XY h
  ·exact XY h
 ·rename_i t x lo hi mx ho;cases hc:dd P t (ev x) (G0 ev lo) (ev hi) (ev mx)with
  |true=>rw[hc]at h;simp only[cond_true,YO]at h;subst h;exact Shape.same _ _ _
  |false=>rw[hc]at h;exact XY h
 ·split at h
  ·simp only[YO]at h;subst h;exact Shape.same _ _ _
  ·cases h
 ·simp only[YO]at h;subst h;exact Shape.new _ _ _ _
 ·split at h
  ·split at h
   ·simp only[YO]at h;subst h;exact Shape.same _ _ _
   ·cases h
  ·cases h
 ·-- mapUpdate
  split at h
  ·split at h
   ·rename_i H' b hb;simp only[YO]at h;subst h;unfold Jh at hb;split at hb
    ·split at hb
     ·rename_i hg;have hb:=Jj hb;split at hb
      ·split at hb
       ·have e:=ZN hb;simp only[YR]at e;obtain⟨rfl,rfl⟩:=e;exact Shape.set _ (hu.lt hg)
       ·cases hb
      ·simp only[YO,YR]at hb;obtain⟨rfl,rfl⟩:=hb;exact Shape.set _ (hu.lt hg)
      ·cases hb
     ·cases hb
    ·cases hb
   ·cases h
  ·cases h
 ·split at h
  ·split at h
   ·simp only[YO]at h;subst h;exact Shape.same _ _ _
   ·exact XY h
  ·cases h
 ·split at h
  ·simp only[YO]at h;subst h;exact Shape.same _ _ _
  ·simp only[YO]at h;subst h;exact Shape.same _ _ _
  ·simp only[YO]at h;subst h;exact Shape.same _ _ _
  ·cases h
 ·split at h
  ·split at h
   ·split at h
    ·-- append
     exact Dp hu h
    ·cases h
   ·cases h
  ·split at h
   ·split at h
    ·simp only[YO]at h;subst h;exact Shape.same _ _ _
    ·simp only[YO]at h;subst h;exact Shape.same _ _ _
    ·exact XY h
   ·cases h
  ·split at h
   ·split at h
    ·-- copy
     unfold Ar at h;split at h
     ·split at h
      ·split at h
       ·split at h
        ·rename_i hg _;rw[<-ZN h];obtain⟨a1,a2,a3,a4,a5⟩:=Shape.set (H:=H) (n:=n) (.cells (splice _ _ _) _ (0,0)) (hu.lt hg);exact⟨a1,a2,a3,fun i hi=>by simp at hi;subst hi;simp,a5⟩
        ·cases h
       ·cases h
      ·cases h
     ·cases h
    ·cases h
   ·cases h
  ·exact XY h
  ·split at h
   ·split at h
    ·simp only[YO]at h;subst h;exact Shape.same _ _ _
    ·cases h
   ·cases h
  ·cases h
 ·exact XY h
end Go.CE

namespace Go.CE
open Go Go.RowKit

inductive CM where
 |run
 |ret
 |Wn (v:Value)
structure CF where
 fn:FuncId
 tmps:Tm
 todo:List Item
 defers:List Nat
 mode:CM
 roundOf:Option Nat
structure Rs where
 out:OO
 H:Qq
 n:Nat
 R:List Nat
 W:List Nat
def ofL:List Value->Nat->Tri->Tri
 |[],_,t=>t
 |v::l,i,t=>ofL l (i+1) (Tri.set 14 t i v)
def ju(T:Tm):Array Value:=((Lg T.len).map (Zc T)).toArray
def ofList(len:Nat)(l:List Value):Tm:=⟨len,ofL l 0 .lf⟩
def Wa(P:Program)(f:FuncId)(args:Array Value):Option CF:=
 match nth P.funcs.toList f with
 |some fn=>match fn.body with
  |some c=>bif LP (args.size+(fn.ntmps-args.size)) 16000 then some ⟨f,ofList (args.size+(fn.ntmps-args.size)) args.toList,[.code c],[],.run,none⟩else none
  |none=>none
 |none=>none
def Jn(H:Qq)(s:Rs):Rs:=
 match s.W,s.out with
 |[],.ret v=>bif af v then {s with H:=H}else s
 |_,_=>s
abbrev WZ:=FuncId->Array Value->Qq->Nat->Option Rs
def Rq(P:Program)(F:FuncId->Bool)(ev:Operand->Option Value)(o:Oper)(H:Qq)(n:Nat):Option CR:=
 match uu P F ev o H n with
 |some r=>bif r.R.all (fun i=>Ls i n)then some r else none
 |none=>none
theorem qk{P:Program}{F:FuncId->Bool}{ev:Operand->Option Value}{o:Oper}{H:Qq}{n:Nat}{r:CR}(h:Rq P F ev o H n=some r):uu P F ev o H n=some r/\∀q∈r.R,q<n:=by
 unfold Rq at h;split at h
 ·rename_i r' hr;cases hq:r'.R.all (fun i=>Ls i n)with
  |false=>rw[hq]at h;cases h
  |true=>
   rw[<-ZN h];exact⟨hr,fun q hq'=>YL (List.all_eq_true.1 hq q hq')⟩
 ·cases h
def di(P:Program)(F:FuncId->Bool)(Xr:WZ)(rec:CF->Qq->Nat->Option Rs)(T:Tm)(o:Oper)(H:Qq)(n:Nat):Option Rs:=
 match o.op with
 | .defer _=>none
 | .panic x=>match Zd T x with
   |some (.iface t v)=>some ⟨.Wn (.iface t v),H,n,[],[]⟩
   |_=>none
 |_=>match Rq P F (Zd T) o H n with
  |some r=>match r.nx with
   | .val v=>some ⟨.ret v,r.H,r.n,r.R,r.W⟩
   | .enter g args=>match Xr g args r.H r.n with
     |some s=>some ⟨s.out,s.H,s.n,r.R++s.R,r.W++s.W⟩
     |none=>match Wa P g args with
      |some c=>match rec c r.H r.n with
       |some s=>match Jn r.H s with
        |s=>some ⟨s.out,s.H,s.n,r.R++s.R,r.W++s.W⟩
       |none=>none
      |none=>none
   | .round l fn tm a b=>bif LP tm.size 16000 then match rec ⟨fn,ofList tm.size tm.toList,[.code a,.beginRound,.code b],[],.run,some l⟩ r.H r.n with
     |some s=>some ⟨s.out,s.H,s.n,r.R++s.R,r.W++s.W⟩
     |none=>none
     else none
  |none=>none
def Rp(T:Tm):Option Tmp->Bool
 |some d=>Ls d T.len && Ls d 16000
 |none=>true
inductive RF where
 |ok (T:Tm) (H:Qq) (n:Nat)
 |Wn (T:Tm) (v:Value) (H:Qq) (n:Nat) (R W:List Nat)
def iz(P:Program)(F:FuncId->Bool)(Xr:WZ)(rec:CF->Qq->Nat->Option Rs)(ops:Array Oper):List Oper->Tm->Qq->Nat->Option (List Rec×RF)
 |[],T,H,n=>some ([],.ok T H n)
 |o::l,T,H,n=>
  bif Rp T o.dst then
   bif Region.wanted o (XS ops T)then
    match di P F Xr rec T o H n with
    |some s=>match s.out with
     | .ret v=>match iz P F Xr rec ops l (VG T o.dst v) s.H s.n with
       |some (rs,fin)=>some (⟨o,true,v,T,H,s.H,n,s.n,s.R,s.W⟩::rs,fin)
       |none=>none
     | .Wn v=>some ([],.Wn T v s.H s.n s.R s.W)
    |none=>none
   else match iz P F Xr rec ops l (VG T o.dst undef) H n with
    |some (rs,fin)=>some (⟨o,false,undef,T,H,H,n,n,[],[]⟩::rs,fin)
    |none=>none
  else none
def WY:Nat->List Oper->Bool
 |_,[]=>true
 |k,o::l=>o.after.all (fun e=> !Region.binds .any e || Ls e.on k) && WY (k+1) l
def ai(ops:Array Oper)(Qz:List Rec)(T:Tm):Bool:=
 WY 0 ops.toList && (indep ops 0 Qz (P3 ops.toList []) && (Lf (Qz.length+1) ops.toList.length && ((Lg Qz.length).all (fun i=>((P3 ops.toList []).getD Qz.length []).contains i) && ops.toList.all (fun o=>Rp T o.dst))))
def TL(P:Program)(H:Qq)(T:Tm):List ResultVar->Option (List Value×List Nat)
 |[]=>some ([],[])
 | .tmp t::l=>match TL P H T l with
   |some (vs,R)=>some (Zc T t::vs,R)
   |none=>none
 | .cell a t::l=>match Ty P t H (Zc T a)with
   |some (v,b)=>match TL P H T l with
    |some (vs,R)=>some (v::vs,b::R)
    |none=>none
   |none=>none
def oneOf:List Value->Value
 |[v]=>v
 |vs=>.tuple vs.toArray
def vI(P:Program)(f:FuncId)(H:Qq)(T:Tm):Option (Value×List Nat):=
 match nth P.funcs.toList f with
 |some fn=>match TL P H T fn.results.toList with
  |some (vs,R)=>some (oneOf vs,R)
  |none=>none
 |none=>none
def NV(P:Program)(f:FuncId):Bool:=match nth P.funcs.toList f with|some _=>true|none=>false
inductive FS where
 |go (c:CF) (H:Qq) (n:Nat) (R W:List Nat)
 |done (out:OO) (H:Qq) (n:Nat) (R W:List Nat)
def Sr(c:CF)(H:Qq)(n:Nat)(jump:Option Code):Option FS:=
 match c.roundOf with
 |none=>match jump with
  |none|some .ret=>some (.go {c with mode:=.ret} H n [] [])
  |_=>none
 |some l=>match Qt H l with
  |some (.loop r)=>some (.done (.ret (.bool jump.isNone)) (VE H l (.loop {r with state:=if jump.isNone then .ready else .done,pending:=jump})) n [l] [l])
  |_=>none
def Ki(c:CF)(H:Qq)(n:Nat)(params:Array Tmp)(assign body:Code):Option (Qq×Nat×List Nat×List Nat):=
 match c.roundOf with
 |none=>some ((n+1,.loop ⟨.ready,none,c.fn,ju c.tmps,params,assign,body,n⟩)::(n,.deferred (some []))::H,n+1,[n],[])
 |some l=>match Qt H l with
  |some (.loop _)=>some ((n,.loop ⟨.ready,none,c.fn,ju c.tmps,params,assign,body,n⟩)::H,n,[],[l])
  |_=>none
def Sb(P:Program)(F:FuncId->Bool)(Xr:WZ)(rec:CF->Qq->Nat->Option Rs)(c:CF)(H:Qq)(n:Nat):Option FS:=
 match c.mode with
 | .run=>match c.todo with
   |[]=>Sr c H n none
   | .code .ret::_=>Sr c H n (some .ret)
   | .code .skip::k| .code (.label _)::k| .inBlock _::k| .inScope _::k=>some (.go {c with todo:=k} H n [] [])
   | .code (.seq a b)::k=>some (.go {c with todo:=.code a::.code b::k} H n [] [])
   | .code (.cond x a b)::k=>match Zd c.tmps x with
     |some (.bool t)=>some (.go {c with todo:=.code (bif t then a else b)::k} H n [] [])
     |_=>none
   | .code (.block id b)::k=>some (.go {c with todo:=.code b::.inBlock id::k} H n [] [])
   | .code (.loop b)::k| .inLoop b::k=>some (.go {c with todo:=.code b::.inLoop b::k} H n [] [])
   | .code (.scope b)::k=>some (.go {c with todo:=.code b::.inScope b::k} H n [] [])
   | .code (.exit id)::k=>match exitTo id k with
     |some k'=>some (.go {c with todo:=k'} H n [] [])
     |none=>Sr c H n (some (.exit id))
   | .code (.goto l)::k=>match gotoIn l k with
     |some k'=>some (.go {c with todo:=k'} H n [] [])
     |none=>Sr c H n (some (.goto l))
   | .code (.region _ ops draw)::k=>match iz P F Xr rec ops ops.toList c.tmps H n with
     |some (Qz,.ok T' H' n')=>bif !draw || (WY 0 ops.toList && indep ops 0 Qz (P3 ops.toList []))then some (.go {c with tmps:=T',todo:=k} H' n' (Y9 Qz) (Uc Qz))else none
     |some (Qz,.Wn T' v H' n' R W)=>bif !draw || ai ops Qz T' then some (.go {c with tmps:=T',mode:=.Wn v} H' n' (Y9 Qz++R) (Uc Qz++W))else none
     |none=>none
   | .code (.rangeFunc f params assign body)::k=>match Zd c.tmps f with
     |some fv=>
      match Ki c H n params assign body with
      |some (H1,l,ds,R1)=>match Si F H1 fv #[.func (.yield l) #[] #[]]with
       |some (.enter g args,R2)=>match Wa P g args with
        |some c1=>match rec c1 H1 (l+1)with
         |some s=>match s.out with
          | .ret _=>some (.go {c with todo:=.endRangeFunc l::k,defers:=ds++c.defers} s.H s.n (R1++R2++s.R) s.W)
          | .Wn v=>some (.go {c with mode:=.Wn v,defers:=ds++c.defers} s.H s.n (R1++R2++s.R) s.W)
         |none=>none
        |none=>none
       |_=>none
      |none=>none
     |none=>none
   | .endRangeFunc l::k=>match Qt H l with
     |some (.loop r)=>bif !(decide (r.state=.busy))then some (.go {c with todo:=(r.pending.map Item.code).toList++k} (VE H l (.loop {r with state:=.exhausted})) n [l] [l])else none
     |_=>none
   | .beginRound::k=>match c.roundOf with
     |some l=>match Qt H l with
      |some (.loop r)=>bif decide (r.state=.ready)then some (.go {c with todo:=k} (VE H l (.loop {r with state:=.busy})) n [l] [l])else none
      |_=>none
     |none=>none
   |_=>none
 |m=>match c.defers with
  |d::ds=>match Qt H d with
   |some (.deferred (some []))=>some (.go {c with defers:=ds} (VE H d (.deferred none)) n [d] [d])
   |_=>none
  |[]=>match m with
   | .Wn v=>bif NV P c.fn then some (.done (.Wn v) H n [] [])else none
   |_=>match c.roundOf,vI P c.fn H c.tmps with
    |none,some (v,R)=>some (.done (.ret v) H n R [])
    |_,_=>none
def ZT(b:Nat):List Nat->List Nat->List Nat
 |[],acc=>acc
 |x::l,acc=>ZT b l (bif Ls x b && !(acc.contains x)then x::acc else acc)
theorem qz{b:Nat}:∀(l acc:List Nat) (i:Nat),(i∈ZT b l acc->i∈acc\/(i∈l/\i<b))/\(i∈acc->i∈ZT b l acc)/\(i∈l->i<b->i∈ZT b l acc)
 |[],acc,i=>⟨fun h=>.inl h,fun h=>h,fun h=>by simp at h⟩
 |x::l,acc,i=>by
  obtain⟨h1,h2,h3⟩:=qz l (bif Ls x b && !(acc.contains x)then x::acc else acc) i;have hb:Ls x b=true<->x<b:=⟨fun h=>YL h,fun h=>LD h⟩
  simp only[ZT];cases hc:(Ls x b && !(acc.contains x))with
  |true=>
   rw[hc]at h1 h2 h3;simp only[cond_true]at h1 h2 h3 ⊢;simp only[YB]at hc;refine⟨fun h=> ?_,fun h=>h2 (Lw _ h),fun h hl=> ?_⟩
   ·rcases h1 h with h|h
    ·rcases List.mem_cons.1 h with rfl|h
     ·exact .inr ⟨by simp,hb.1 hc.1⟩
     ·exact .inl h
    ·exact .inr ⟨Lw _ h.1,h.2⟩
   ·rcases List.mem_cons.1 h with rfl|h
    ·exact h2 (by simp)
    ·exact h3 h hl
  |false=>
   rw[hc]at h1 h2 h3;simp only[cond_false]at h1 h2 h3 ⊢;refine⟨fun h=>(h1 h).imp id fun h=>⟨Lw _ h.1,h.2⟩,h2,fun h hl=> ?_⟩;rcases List.mem_cons.1 h with rfl|h
   ·rw[hb.2 hl]at hc;simp only[Bool.true_and,Bool.not_eq_false',List.contains_iff_mem]at hc;exact h2 hc
   ·exact h3 h hl
def qL(P:Program)(F:FuncId->Bool)(Xr:WZ):Nat->Nat->CF->Qq->Nat->List Nat->List Nat->Option Rs
 |0,_,_,_,_,_,_=>none
 |fuel+1,b,c,H,n,R,W=>
  match Sb P F Xr (fun c1 H1 n1=>qL P F Xr fuel n1 c1 H1 n1 [] []) c H n with
  |some (.go c' H' n' R' W')=>qL P F Xr fuel b c' H' n' (ZT b R' R) (ZT b W' W)
  |some (.done out H' n' R' W')=>some ⟨out,H',n',ZT b R' R,ZT b W' W⟩
  |none=>none
end Go.CE

namespace Go.CE
open Go Go.RowKit

inductive IR (μ:Mu):Item->Item->Prop
 |code (c):IR μ (.code c) (.code c)
 |inBlock (id):IR μ (.inBlock id) (.inBlock id)
 |inLoop (c):IR μ (.inLoop c) (.inLoop c)
 |inScope (c):IR μ (.inScope c) (.inScope c)
 |beginRound:IR μ .beginRound .beginRound
 |endRF {l im}:μ l=some im->IR μ (.endRangeFunc l) (.endRangeFunc im.Zu)
inductive TodoR (μ:Mu):List Item->List Item->Prop
 |nil:TodoR μ [] []
 |cons {x x' l l'}:IR μ x x'->TodoR μ l l'->TodoR μ (x::l) (x'::l')
theorem IR.mono{μ μ':Mu}(e:Ext μ μ'){x x':Item}(h:IR μ x x'):IR μ' x x':=by
 cases h with
 |code c=>exact .code c
 |inBlock id=>exact .inBlock id
 |inLoop c=>exact .inLoop c
 |inScope c=>exact .inScope c
 |beginRound=>exact .beginRound
 |endRF h=>exact .endRF (e _ _ h)
theorem TodoR.mono{μ μ':Mu}(e:Ext μ μ'){l l':List Item}(h:TodoR μ l l'):TodoR μ' l l':=by
 induction h with
 |nil=>exact .nil
 |cons h _ ih=>exact .cons (h.mono e) ih
inductive DfR (μ:Mu):List Nat->List Deferred->Prop
 |nil:DfR μ [] []
 |cons {d im l l'}:μ d=some im->DfR μ l l'->DfR μ (d::l) ({target:=.collected im.Zu,args:=#[]}::l')
theorem DfR.mono{μ μ':Mu}(e:Ext μ μ'){l:List Nat}{l':List Deferred}(h:DfR μ l l'):DfR μ' l l':=by
 induction h with
 |nil=>exact .nil
 |cons h _ ih=>exact .cons (e _ _ h) ih
inductive MR (μ:Mu):CM->FrameMode->Prop
 |run:MR μ .run .run
 |ret:MR μ .ret .returning
 |Wn {v v'}:VR μ v v'->MR μ (.Wn v) (.panicking [{v:=v',recovered:=false}])
theorem MR.mono{μ μ':Mu}(e:Ext μ μ'){m:CM}{m':FrameMode}(h:MR μ m m'):MR μ' m m':=by
 cases h with
 |run=>exact .run
 |ret=>exact .ret
 |Wn h=>exact .Wn (h.mono e)
def RoR(μ:Mu):Option Nat->Option Nat->Prop
 |none,none=>True
 |some l,some l'=> ∃im,μ l=some im/\im.Zu=l'
 |_,_=>False
theorem RoR.mono{μ μ':Mu}(e:Ext μ μ'){a b:Option Nat}(h:RoR μ a b):RoR μ' a b:=by
 cases a <;> cases b <;> first|exact h|skip
 obtain⟨im,h1,h2⟩:=h;exact⟨im,e _ _ h1,h2⟩
def CM.pans:CM->Bool
 | .Wn _=>true
 |_=>false
structure Bot where
 D:List Deferred
 kd:CallKind
def Bot.no:Bot:=⟨[],.normal⟩
def DfB(Z:Bot)(μ:Mu)(l:List Nat)(l':List Deferred):Prop:=∃L,DfR μ l L/\l'=L++Z.D
theorem DfB.mono{Z:Bot}{μ μ':Mu}{l:List Nat}{l':List Deferred}(h:DfB Z μ l l')(e:Ext μ μ'):DfB Z μ' l l':=let⟨L,h1,h2⟩:=h;⟨L,h1.mono e,h2⟩
theorem DfB.empty{Z:Bot}{μ:Mu}{l':List Deferred}(h:DfB Z μ [] l'):l'=Z.D:=by
 obtain⟨L,h1,h2⟩:=h;cases h1;simpa using h2
theorem DfB.of_empty{Z:Bot}{μ:Mu}{l':List Deferred}(h:l'=Z.D):DfB Z μ [] l':=⟨[],.nil,by simpa using h⟩
theorem DfB.cons_inv{Z:Bot}{μ:Mu}{d:Nat}{l:List Nat}{l':List Deferred}(h:DfB Z μ (d::l) l'):∃im l2,μ d=some im/\l'={target:=.collected im.Zu,args:=#[]}::l2/\DfB Z μ l l2:=by
 obtain⟨L,h1,h2⟩:=h;cases h1 with
 |cons a b=>exact⟨_,_,a,h2,_,b,rfl⟩
structure FrR (Z:Bot) (μ:Mu) (c:CF) (fr:Frame):Prop where
 fn:fr.fn=c.fn
 tmps:TR μ c.tmps fr.tmps
 todo:c.mode.pans=false->TodoR μ c.todo fr.todo
 defers:DfB Z μ c.defers fr.defers
 mode:MR μ c.mode fr.mode
 kind:fr.kind=Z.kd
 round:RoR μ c.roundOf fr.roundOf
theorem OR2.mono{μ μ':Mu}(e:Ext μ μ'){a b:OO}(h:OR2 μ a b):OR2 μ' a b:=by
 cases h with
 |ret h=>exact .ret (h.mono e)
 |Wn h=>exact .Wn (h.mono e)
def OO.ending:OO->Ending
 | .ret v=>.returned v
 | .Wn v=>.panicked [{v,recovered:=false}]
def EndsAs(P:Program)(fr:Frame)(cs:List Frame)(w:World)(out:OO)(w':World):Prop:=
 (fr.roundOf=none->∃frE,Steps P (lone fr cs w) (lone frE cs w')/\frE.fn=fr.fn/\frE.leaving P w' out.ending)/\
 (∀c cs',cs=c::cs'->Steps P (lone fr cs w) (lone (out.on c) cs' w'))
theorem EndsAs.of_steps{P:Program}{fr S1:Frame}{cs:List Frame}{w w1 w':World}{out:OO}(h:Steps P (lone fr cs w) (lone S1 cs w1))(hr:S1.roundOf=fr.roundOf)(hf:S1.fn=fr.fn)(k:EndsAs P S1 cs w1 out w'):EndsAs P fr cs w out w':=by
 refine⟨fun hn=> ?_,fun c cs' e=>h.trans (k.2 c cs' e)⟩;obtain⟨frE,a,b,d⟩:=k.1 (hr.trans hn);exact⟨frE,h.trans a,b.trans hf,d⟩
structure FJ (P:Program) (B:Lo) (c:CF) (H:Qq) (n:Nat) (out:OO) (H':Qq) (n':Nat) (R W:List Nat):Prop where
 shape:Shape H n H' n' R W
 sem:∀(S:Nat->Prop) (μ:Mu) (w:World) (fr:Frame) (cs:List Frame),Ok B S μ (Qt H) w->B.has w->(∀i,S i->i<n)->P4 μ n n'->FrR Bot.no μ c fr->(∀i∈R,i<n->S i)->
  ∃Zh w' μ',Post B S n n' W μ μ' H H' w w'/\OR2 μ' out Zh/\EndsAs P fr cs w Zh w'
def jg(P:Program)(B:Lo)(rec:CF->Qq->Nat->Option Rs):Prop:=
 ∀c H n s,Under H n->rec c H n=some s->FJ P B c H n s.out s.H s.n s.R s.W
def Wz(P:Program)(B:Lo)(Xr:WZ):Prop:=
 ∀g args H n s,Under H n->Xr g args H n=some s->Shape H n s.H s.n s.R s.W/\∀(S:Nat->Prop) (μ:Mu) (w:World) (args':Array Value) (cs:List Frame),Ok B S μ (Qt H) w->B.has w->(∀i,S i->i<n)->P4 μ n s.n->VRs μ args args'->(∀i∈s.R,i<n->S i)->
  ∃Zh w' μ',Post B S n s.n s.W μ μ' H s.H w w'/\OR2 μ' s.out Zh/\EndsAs P (Frame.enter P g args' .normal) cs w Zh w'
theorem bW{P:Program}{fr:Frame}{cs:List Frame}{w:World}{ops:Array Oper}{i:Nat}{rest:List Nat}{k:List Item}{o:Oper}(hm:fr.mode=.run)(ht:fr.todo=.inRegion ops (i::rest)::k)(ho:ops[i]? =some o)
 (hw:Region.wanted o (yielded ops fr.tmps)=true) (hd:∀c,o.op≠.defer c):
 stepG P true {frame:=fr,callers:=cs,status:=.running,dying:=none} w=stepG.apply P true fr cs none (execOp fr.eval o) w:=by
 simp only[stepG,hm];unfold stepG.exec;simp only[ht,ho,LI,hw,Option.getD_some,if_true];unfold stepG.oper;simp only[Frame.oper?,ht,ho];cases hr:fr.roundOf with
 |none=>rfl
 |some l=>
  cases Zi:o.op <;> first|rfl|exact absurd Zi (hd _)
section
variable {P:Program} {o:Oper} {w w1 w':World} {fr:Frame} {cs:List Frame} {ops:Array Oper} {i:Nat} {rest:List Nat} {k:List Item}
theorem Rj{v:Value}(hm:fr.mode=.run)(ht:fr.todo=.inRegion ops (i::rest)::k)(ho:ops[i]? =some o)(hw:Region.wanted o (yielded ops fr.tmps)=true)(hd:∀c,o.op≠.defer c)
 (h:(execOp fr.eval o).run P w=.ok (.value v) w'):Steps P (lone fr cs w) (lone ((OO.ret v).on fr) cs w'):=by
 refine .one (step_lone_go ?_);rw[bW hm ht ho hw hd];simp[stepG.apply,h,OO.on]
theorem FO(hm:fr.mode=.run)(ht:fr.todo=.inRegion ops (i::rest)::k)(ho:ops[i]? =some o)(hw:Region.wanted o (yielded ops fr.tmps)=true)(hd:∀c,o.op≠.defer c)
 (h:(execOp fr.eval o).run P w=.ok .skip w'):Steps P (lone fr cs w) (lone ((OO.ret undef).on fr) cs w'):=by
 refine .one (step_lone_go ?_);rw[bW hm ht ho hw hd];simp[stepG.apply,h,OO.on]
theorem Cw{v:Value}(hm:fr.mode=.run)(ht:fr.todo=.inRegion ops (i::rest)::k)(ho:ops[i]? =some o)(hw:Region.wanted o (yielded ops fr.tmps)=true)(hd:∀c,o.op≠.defer c)
 (h:(execOp fr.eval o).run P w=.halt (.panic v) w'):Steps P (lone fr cs w) (lone ((OO.Wn v).on fr) cs w'):=by
 refine .one (step_lone_go ?_);rw[bW hm ht ho hw hd];simp[stepG.apply,h,OO.on]
theorem ox{f:FuncId}{args:Array Value}{out:OO}(hm:fr.mode=.run)(ht:fr.todo=.inRegion ops (i::rest)::k)(ho:ops[i]? =some o)(hw:Region.wanted o (yielded ops fr.tmps)=true)(hd:∀c,o.op≠.defer c)
 (h:(execOp fr.eval o).run P w=.ok (.enter f args) w1) (q:EndsAs P (Frame.enter P f args .normal) (fr::cs) w1 out w'):Steps P (lone fr cs w) (lone (out.on fr) cs w'):=by
 refine .head (step_lone_go (fr':=Frame.enter P f args .normal) (cs':=fr::cs) (w':=w1) ?_) (q.2 fr cs rfl);rw[bW hm ht ho hw hd];simp[stepG.apply,h,ht]
theorem Cv{l:Nat}{f:FuncId}{tm:Array Value}{a b:Code}{out:OO}(hm:fr.mode=.run)(ht:fr.todo=.inRegion ops (i::rest)::k)(ho:ops[i]? =some o)(hw:Region.wanted o (yielded ops fr.tmps)=true)(hd:∀c,o.op≠.defer c)
 (h:(execOp fr.eval o).run P w=.ok (.round l f tm a b) w1) (q:EndsAs P (Frame.round l f tm a b .normal) (fr::cs) w1 out w'):Steps P (lone fr cs w) (lone (out.on fr) cs w'):=by
 refine .head (step_lone_go (fr':=Frame.round l f tm a b .normal) (cs':=fr::cs) (w':=w1) ?_) (q.2 fr cs rfl);rw[bW hm ht ho hw hd];simp[stepG.apply,h]
end

theorem l7:∀(l:List Value) (i:Nat) (t:Tri) (j:Nat),i+l.length<=16000->(ofL l i t).get j=if i<=j/\j<i+l.length then l.getD (j-i) undef else t.get j
 |[],i,t,j,_=>by simp[ofL];omega
 |v::l,i,t,j,h=>by
  simp only[Lk]at h;simp only[ofL];rw[l7 l (i+1) _ j (by omega),Tri.get_set 14 t i v j (Qbi i (by omega))];simp only[Lk];by_cases h1:i+1<=j/\j<i+1+l.length
  ·rw[if_pos h1,if_pos (by omega)];rw[show j-i=(j-(i+1))+1 by omega];rfl
  ·rw[if_neg h1];by_cases h2:j=i
   ·subst h2;rw[if_pos rfl,if_pos (by omega)];simp
   ·rw[if_neg h2,if_neg (by omega)]
theorem sd{μ:Mu}{xs xs':Array Value}(h:VRs μ xs xs'){m:Nat}(hm:xs.size+(m-xs.size)<=16000):TR μ (ofList (xs.size+(m-xs.size)) xs.toList) (xs'++Array.replicate (m-xs'.size) undef):=by
 refine⟨by simp[ofList,h.1],fun t=> ?_⟩;simp only[Zc,ofList];rw[l7 _ _ _ _ (by simp;omega)];simp only[Nat.zero_le,true_and,LB,Array.length_toList,Nat.sub_zero,Tri.get_lf];by_cases ht:t<xs.size
 ·rw[if_pos ht];have ht':t<xs'.size:=h.1 ▸ ht;have:=h.2 t xs[t] xs'[t] (by simp[ht]) (by simp[ht']);simpa[ht,ht',Array.getElem?_append]using this
 ·rw[if_neg ht];have ht':¬t<xs'.size:=h.1 ▸ ht;have e:(xs'++Array.replicate (m-xs'.size) undef).getD t undef=undef:=by
   by_cases h2:t-xs'.size<m-xs'.size
   ·simp[Array.getElem?_append,ht',h2]
   ·simp[Array.getElem?_append,ht',h2]
  rw[e];exact VR.undef
theorem NO{μ:Mu}{xs xs':Array Value}(h:VRs μ xs xs')(hm:xs.size<=16000):TR μ (ofList xs.size xs.toList) xs':=by
 have:=sd (m:=0) h (by omega);simpa using this
theorem qi{P:Program}{f:FuncId}{args args':Array Value}{c:CF}{μ:Mu}(kd:CallKind)(h:Wa P f args=some c)(hv:VRs μ args args'):FrR ⟨[],kd⟩ μ c (Frame.enter P f args' kd):=by
 unfold Wa at h;rw[bR,Lr]at h;split at h
 ·rename_i fn hf;split at h
  ·rename_i b hb;have hlim:args.size+(fn.ntmps-args.size)<=16000:=by
    cases hq:LP (args.size+(fn.ntmps-args.size)) 16000 with
    |false=>rw[hq]at h;cases h
    |true=>exact YL hq
   rw[<-ZN h];have ht:=sd (m:=fn.ntmps) hv hlim;exact⟨rfl,by simpa[Frame.enter,hf]using ht,fun _=>by simp only[Frame.enter,hf,Option.bind_some,hb,Option.getD_some];exact .cons (.code _) .nil,.of_empty rfl,.run,rfl,trivial⟩
  ·cases h
 ·cases h
theorem UL{P:Program}{f:FuncId}{args args':Array Value}{c:CF}{μ:Mu}(h:Wa P f args=some c)(hv:VRs μ args args'):FrR Bot.no μ c (Frame.enter P f args' .normal):=qi .normal h hv
end Go.CE

namespace Go.CE
open Go Go.RowKit

theorem Post.drop{B n n':Nat}{S:Nat->Prop}{μ μ':Mu}{H H':Qq}{w w':World}(h:Post B S n n' [] μ μ' H H' w w')(hu:Under H n):Post B S n n' [] μ μ' H H w w':=by
 have hg:∀i o,Qt H i=some o->S i\/n<=i/\i<n'->S i/\Qt H' i=some o:=by
  intro i o ho hi;have Xp:=hu.lt ho;have hs:=hi.elim id fun h=>absurd h.1 (by omega)
  exact⟨hs,by rw[h.keep i Xp (by simp)];exact ho⟩
 refine⟨⟨fun i o hi ho hl=> ?_,fun i o im hi ho hl QJ=> ?_,fun i j oi oj a b hi hj ay Wl Wk=> ?_,fun i o hi ho=> ?_,fun i j oi oj a b x hi hj Wl Wk=> ?_⟩,h.le,h.ext,fun _ _ _=>rfl,h.grow,h.frame,h.wr,fun i im o h1 h2 ho=> ?_,fun i im o h1 ho=> ?_,h.os,h.tape,h.output⟩
 ·exact h.ok.rel i o hi (hg i o ho hi).2 hl
 ·exact h.ok.low i o im hi (hg i o ho hi).2 hl QJ
 ·exact h.ok.inj i j oi oj a b hi hj ay (hg i oi Wl hi).2 (hg j oj Wk hj).2
 ·exact h.ok.Pj i o hi (hg i o ho hi).2
 ·exact h.ok.sep i j oi oj a b x hi hj (hg i oi Wl hi).2 (hg j oj Wk hj).2
 ·have:=hu.lt ho;omega
 ·have:=hu.lt ho;rcases h1 with h1|h1
  ·omega
  ·simp at h1
theorem Shape.drop{H H':Qq}{n n':Nat}{R:List Nat}(h:Shape H n H' n' R []):Shape H n H n' R []:=⟨h.le,fun _ _ _=>rfl,fun _ _=>rfl,h.sub,fun _ h=>by simp at h⟩
theorem Of{P:Program}{B:Lo}{c:CF}{H:Qq}{n:Nat}{s:Rs}(hu:Under H n)(h:FJ P B c H n s.out s.H s.n s.R s.W):FJ P B c H n (Jn H s).out (Jn H s).H (Jn H s).n (Jn H s).R (Jn H s).W:=by
 unfold Jn;split
 ·rename_i v hW hv;cases ha:af v with
  |false=>exact h
  |true=>
   simp only[cond_true];rw[hW]at h;refine⟨by rw[hW];exact h.shape.drop,fun S μ w fr cs QE hB hS hf XJ hR=> ?_⟩;obtain⟨Zh,w',μ',hp,ho,he⟩:=h.sem S μ w fr cs QE hB hS hf XJ hR;exact⟨Zh,w',μ',by rw[hW];exact hp.drop hu,ho,he⟩
 ·exact h
theorem Mb{P:Program}{F:FuncId->Bool}{Xr:WZ}{rec:CF->Qq->Nat->Option Rs}{T:Tm}{o:Oper}{H:Qq}{n:Nat}{s:Rs}(h:di P F Xr rec T o H n=some s):∀c,o.op≠.defer c:=by
 intro c e;simp[di,e]at h
theorem YY{P:Program}{F:FuncId->Bool}{Xr:WZ}{B:Lo}{rec:CF->Qq->Nat->Option Rs}(hF:∀g,F g=true->Q1 P g=true)(Vv:jg P B rec)(ZY:Wz P B Xr){T:Tm}{o:Oper}{H:Qq}{n:Nat}{s:Rs}(hu:Under H n)
 (h:di P F Xr rec T o H n=some s):T3 P B o (Zd T) H n s.out s.H s.n s.R s.W/\Shape H n s.H s.n s.R s.W:=by
 have hd:=Mb h;unfold di at h;split at h
 ·cases h
 ·-- panic
  rename_i x Zi;split at h
  ·rename_i t v hx;simp only[YO]at h;subst h;refine⟨fun S μ w fr cs k ops i rest QE hB hS hf XT hR hm ht ho hw=> ?_,Shape.same _ _ _⟩;have hv:=XT x (by simp[Zi,Op.operands]) _ hx;generalize hg:fr.eval x=u at hv;cases hv with
   |iface ZX=>
    rename_i v';exact⟨.Wn (.iface t v'),w,μ,Post.refl QE,.Wn (.iface ZX),Cw hm ht ho hw hd (by simp[execOp,Zi,hg,Instr.panic])⟩
  ·cases h
 ·split at h
  ·rename_i r hrr;obtain⟨hr,hRlt⟩:=qk hrr;have hsnd:=Oh (B:=B) hF hr;have RZ:=jc hu hr;have hu1:=hu.shape RZ;split at h
   ·-- a value
    rename_i v hnx;simp only[YO]at h;subst h;refine⟨fun S μ w fr cs k ops i rest QE hB hS hf XT hR hm ht ho hw=> ?_,RZ⟩;obtain⟨nx,w',μ',VU,hp,hnr⟩:=hsnd S μ fr.eval w QE hB.le hS hf XT (fun q hq=>hR q hq (hRlt q hq));rw[hnx]at hnr;cases hnr with
    |val hv=>exact⟨_,w',μ',hp,.ret hv,Rj hm ht ho hw hd VU⟩
    |skip=>exact⟨_,w',μ',hp,.ret VR.undef,FO hm ht ho hw hd VU⟩
   ·-- a call
    rename_i g args hnx;split at h
    ·-- known
     rename_i s1 hs1;obtain⟨hsh1,hsem⟩:=ZY g args r.H r.n s1 hu1 hs1;simp only[YO]at h;subst h;refine⟨fun S μ w fr cs k ops i rest QE hB hS hf XT hR hm ht ho hw=> ?_,RZ.trans hsh1⟩;simp only at hf hR;have l1:=RZ.le;have l2:=hsh1.le;obtain⟨nx,w1,μ1,VU,hp,hnr⟩:=hsnd S μ fr.eval w QE hB.le hS (fun q a b=>hf q a (by omega)) XT (fun q hq=>hR q (Lm _ hq) (hRlt q hq));rw[hnx]at hnr;cases hnr with
     |enter ha=>
      obtain⟨Zh,w',μ',Pb,ho2,hends⟩:=hsem _ μ1 w1 _ (fr::cs) hp.ok (hB.post QE hp) (fun q hq=>hq.elim (fun e=>by have:=hS q e;omega) (fun e=>e.2))
       (fun q a b=>by rw[hp.ext q (by omega)];exact hf q (by omega) b) ha (fun q hq Xp=>by
        rcases LJ q n with h1|h1
        ·exact .inl (hR q (Lx _ hq) h1)
        ·exact .inr ⟨h1,Xp⟩)
      exact⟨Zh,w',μ',hp.trans Pb,ho2,ox hm ht ho hw hd VU hends⟩
    ·split at h
     ·rename_i c hc;split at h
      ·rename_i s0 hs0;have hfj0:=Vv c r.H r.n s0 hu1 hs0;have hfj:=Of hu1 hfj0;generalize hdn:Jn r.H s0=s1 at h hfj;simp only[YO]at h;subst h;refine⟨fun S μ w fr cs k ops i rest QE hB hS hf XT hR hm ht ho hw=> ?_,RZ.trans hfj.shape⟩;simp only at hf hR;have l1:=RZ.le;have l2:=hfj.shape.le;obtain⟨nx,w1,μ1,VU,hp,hnr⟩:=hsnd S μ fr.eval w QE hB.le hS (fun q a b=>hf q a (by omega)) XT (fun q hq=>hR q (Lm _ hq) (hRlt q hq));rw[hnx]at hnr;cases hnr with
       |enter ha=>
        obtain⟨Zh,w',μ',Pb,ho2,hends⟩:=hfj.sem _ μ1 w1 _ (fr::cs) hp.ok (hB.post QE hp) (fun q hq=>hq.elim (fun e=>by have:=hS q e;omega) (fun e=>e.2))
         (fun q a b=>by rw[hp.ext q (by omega)];exact hf q (by omega) b) (UL hc ha) (fun q hq Xp=>by
          rcases LJ q n with h1|h1
          ·exact .inl (hR q (Lx _ hq) h1)
          ·exact .inr ⟨h1,Xp⟩)
        exact⟨Zh,w',μ',hp.trans Pb,ho2,ox hm ht ho hw hd VU hends⟩
      ·cases h
     ·cases h
   ·-- a round
    rename_i l fn tm a b hnx;have hlim:tm.size<=16000:=by
     cases hq:LP tm.size 16000 with
     |true=>exact YL hq
     |false=>rw[hq]at h;cases h
    have h:=Jj h;split at h
    ·rename_i s1 hs1;have hfj:=Vv _ r.H r.n s1 hu1 hs1;simp only[YO]at h;subst h;refine⟨fun S μ w fr cs k ops i rest QE hB hS hf XT hR hm ht ho hw=> ?_,RZ.trans hfj.shape⟩;simp only at hf hR;have l1:=RZ.le;have l2:=hfj.shape.le;obtain⟨nx,w1,μ1,VU,hp,hnr⟩:=hsnd S μ fr.eval w QE hB.le hS (fun q a b=>hf q a (by omega)) XT (fun q hq=>hR q (Lm _ hq) (hRlt q hq));rw[hnx]at hnr;cases hnr with
     |round QJ hv=>
      rename_i im xs';obtain⟨Zh,w',μ',Pb,ho2,hends⟩:=hfj.sem _ μ1 w1 (Frame.round im.Zu fn xs' a b .normal) (fr::cs) hp.ok (hB.post QE hp) (fun q hq=>hq.elim (fun e=>by have:=hS q e;omega) (fun e=>e.2))
       (fun q a b=>by rw[hp.ext q (by omega)];exact hf q (by omega) b)
       ⟨rfl,NO hv hlim,fun _=>.cons (.code _) (.cons .beginRound (.cons (.code _) .nil)),.of_empty rfl,.run,rfl,im,QJ,rfl⟩ (fun q hq Xp=>by
        rcases LJ q n with h1|h1
        ·exact .inl (hR q (Lx _ hq) h1)
        ·exact .inr ⟨h1,Xp⟩)
      exact⟨Zh,w',μ',hp.trans Pb,ho2,Cv hm ht ho hw hd VU hends⟩
    ·cases h
  ·cases h
end Go.CE

namespace Go.CE
open Go Go.RowKit

theorem so{μ:Mu}{T:Tm}{fr:Frame}(h:TR μ T fr.tmps)(y:Operand)(v:Value)(hv:Zd T y=some v):VR μ v (fr.eval y):=by
 cases y with
 |tmp t=>
  simp only[Zd,YO]at hv;subst hv;exact h.2 t
 |const u=>
  simp only[Zd]at hv;cases ha:af u with
  |false=>rw[ha]at hv;cases hv
  |true=>rw[ha]at hv;simp only[cond_true,YO]at hv;subst hv;exact PL ha
 |func f=>
  simp only[Zd,YO]at hv;subst hv;exact PL rfl
 |global g=>cases hv
theorem YH{μ:Mu}{T:Tm}{A:Array Value}(h:TR μ T A)(ops:Array Oper):yielded ops A=XS ops T:=by
 funext j;rw[lS,jh];cases(ops[j]?).bind (·.dst)with
 |none=>rfl
 |some t=>exact Ee (h.2 t)
def putA(A:Array Value)(v:Value):Option Tmp->Array Value
 |some d=>A.setIfInBounds d v
 |none=>A
theorem TR.putA{μ:Mu}{T:Tm}{A:Array Value}(h:TR μ T A){d:Option Tmp}(hd:∀x,d=some x->x<T.len/\x<16000){v v':Value}(hv:VR μ v v'):TR μ (VG T d v) (putA A v' d):=by
 have:=h.put hd hv;cases d <;> exact this
theorem Sc{fr:Frame}{A:Array Value}{ops:Array Oper}{i:Nat}{l:List Nat}{k:List Item}{o:Oper}(ho:ops[i]? =some o)(v:Value):
 (Xu fr A ops (i::l) k).finish v=Xu fr (putA A v o.dst) ops l k:=by
 rw[a9 ho];cases o.dst <;> rfl
theorem Ro{T:Tm}{d:Option Tmp}(h:Rp T d=true):∀x,d=some x->x<T.len/\x<16000:=by
 intro x hx;subst hx;simp only[Rp,YB]at h;exact⟨YL h.1,YL h.2⟩
def RunOk(P:Program)(B:Lo)(ops:Array Oper)(l:List Oper)(Qz:List Rec)(T:Tm)(H:Qq)(n:Nat):RF->Prop
 | .ok T' H' n'=>Yn Qz T H n T' H' n'/\Qz.map (·.o)=l/\Under H' n'
 | .Wn T1 v H' n' R W=> ∃H1 n1 o l2,Yn Qz T H n T1 H1 n1/\Qz.map (·.o)++o::l2=l/\Region.wanted o (XS ops T1)=true/\T3 P B o (Zd T1) H1 n1 (.Wn v) H' n' R W/\Shape H1 n1 H' n' R W
theorem RunOk.cons{P:Program}{B:Lo}{ops:Array Oper}{l:List Oper}{Qz:List Rec}{T:Tm}{H:Qq}{n:Nat}{fin:RF}{r:Rec}(hT:r.T=T)(hH:r.H=H)(hn:r.n=n)(h:RunOk P B ops l Qz (VG T r.o.dst r.v) r.H' r.n' fin):RunOk P B ops (r.o::l) (r::Qz) T H n fin:=by
 cases fin with
 |ok T' H' n'=>
  obtain⟨h1,h2,h3⟩:=h;exact⟨⟨hT,hH,hn,h1⟩,by simp[h2],h3⟩
 |Wn T1 v H' n' R W=>
  obtain⟨H1,n1,o,l2,h1,h2,h3⟩:=h;exact⟨H1,n1,o,l2,⟨hT,hH,hn,h1⟩,by simp[h2],h3⟩
section
variable {P:Program} {F:FuncId->Bool} {Xr:WZ} {B:Lo} {rec:CF->Qq->Nat->Option Rs}
theorem K7(hF:∀g,F g=true->Q1 P g=true)(Vv:jg P B rec)(ZY:Wz P B Xr){ops:Array Oper}{len:Nat}:∀(l:List Oper) (T:Tm) (H:Qq) (n:Nat) (Qz:List Rec) (fin:RF),T.len=len->Under H n->iz P F Xr rec ops l T H n=some (Qz,fin)->
 (∀r∈Qz,dm len r)/\(∀r∈Qz,Sl P B ops r)/\RunOk P B ops l Qz T H n fin
 |[],T,H,n,Qz,fin,hl,hu,h=>by
  simp only[iz,YO,YR]at h;obtain⟨rfl,rfl⟩:=h;exact⟨fun r hr=>by simp at hr,fun r hr=>by simp at hr,⟨rfl,rfl,rfl⟩,rfl,hu⟩
 |o::l,T,H,n,Qz,fin,hl,hu,h=>by
  simp only[iz]at h;cases hd:Rp T o.dst with
  |false=>rw[hd]at h;cases h
  |true=>
   have hdst:=Ro hd;rw[hl]at hdst;rw[hd]at h;simp only[cond_true]at h;cases hw:Region.wanted o (XS ops T)with
   |true=>
    rw[hw]at h;simp only[cond_true]at h;split at h
    ·rename_i s hs;obtain⟨hdo,RZ⟩:=YY hF Vv ZY hu hs;split at h
     ·rename_i v hv;split at h
      ·rename_i rs fin' hr;simp only[YO,YR]at h;obtain⟨rfl,rfl⟩:=h;obtain⟨h1,h2,h3⟩:=K7 hF Vv ZY (ops:=ops) (len:=len) l (VG T o.dst v) s.H s.n rs fin' (by rw[UZ];exact hl) (hu.shape RZ) hr;refine⟨fun r hr=> ?_,fun r hr=> ?_,RunOk.cons rfl rfl rfl h3⟩
       ·rcases List.mem_cons.1 hr with rfl|hr
        ·exact⟨RZ.le,RZ.keep,RZ.top,RZ.sub,RZ.wlt,hdst⟩
        ·exact h1 r hr
       ·rcases List.mem_cons.1 hr with rfl|hr
        ·exact⟨hw.symm,(fun _=>by rw[hv]at hdo;exact hdo),(fun e=>by cases e)⟩
        ·exact h2 r hr
      ·cases h
     ·rename_i v hv;simp only[YO,YR]at h;obtain⟨rfl,rfl⟩:=h;rw[hv]at hdo;exact⟨fun r hr=>by simp at hr,fun r hr=>by simp at hr,H,n,o,l,⟨rfl,rfl,rfl⟩,rfl,hw,hdo,RZ⟩
    ·cases h
   |false=>
    rw[hw]at h;simp only[cond_false]at h;split at h
    ·rename_i rs fin' hr;simp only[YO,YR]at h;obtain⟨rfl,rfl⟩:=h;obtain⟨h1,h2,h3⟩:=K7 hF Vv ZY (ops:=ops) (len:=len) l (VG T o.dst undef) H n rs fin' (by rw[UZ];exact hl) hu hr;refine⟨fun r hr=> ?_,fun r hr=> ?_,RunOk.cons rfl rfl rfl h3⟩
     ·rcases List.mem_cons.1 hr with rfl|hr
      ·exact⟨LH _,fun _ _ _=>rfl,fun _ _=>rfl,fun i hi=>by simp at hi,fun i hi=>by simp at hi,hdst⟩
      ·exact h1 r hr
     ·rcases List.mem_cons.1 hr with rfl|hr
      ·exact⟨hw.symm,(fun e=>by cases e),fun _=>⟨rfl,rfl,rfl,rfl⟩⟩
      ·exact h2 r hr
    ·cases h
end
theorem Wb{len:Nat}:∀(l:List Rec) (T:Tm) (H:Qq) (n:Nat) (T':Tm) (H':Qq) (n':Nat),Yn l T H n T' H' n'->(∀r∈l,dm len r)->Shape H n H' n' (Y9 l) (Uc l)
 |[],T,H,n,T',H',n',h,_=>by
  obtain⟨rfl,rfl,rfl⟩:=h;exact Shape.same _ _ _
 |r::l,T,H,n,T',H',n',h,hs=>by
  obtain⟨h1,h2,h3,h4⟩:=h;have hr:=hs r (by simp);have:=Wb l _ _ _ _ _ _ h4 fun x hx=>hs x (Lw _ hx)
  have h0:Shape H n r.H' r.n' r.R r.W:=by
   subst h2 h3;exact⟨hr.le,hr.keep,hr.top,hr.sub,hr.wlt⟩
  exact h0.trans this
section
variable {P:Program} {B:Lo} {ops:Array Oper}
theorem cv{len:Nat}{fr:Frame}{cs:List Frame}{k:List Item}(hm:fr.mode=.run):∀(Qz:List Rec) (i:Nat) (T:Tm) (H:Qq) (n:Nat) (T':Tm) (H':Qq) (n':Nat) (rest:List Nat),Yn Qz T H n T' H' n'->(∀r∈Qz,dm len r)->(∀r∈Qz,Sl P B ops r)->
 (∀(j:Nat) r,Qz[j]? =some r->ops[i+j]? =some r.o)->T.len=len->∀(S:Nat->Prop) (μ:Mu) (w:World) (A:Array Value),Ok B S μ (Qt H) w->B.has w->(∀i,S i->i<n)->P4 μ n n'->(∀i∈Y9 Qz,i<n->S i)->TR μ T A->
 ∃μ' A' w',Post B S n n' (Uc Qz) μ μ' H H' w w'/\TR μ' T' A'/\Steps P (lone (Xu fr A ops (LK i Qz.length++rest) k) cs w) (lone (Xu fr A' ops rest k) cs w')
 |[],i,T,H,n,T',H',n',rest,h,_,_,_,_,S,μ,w,A,QE,_,_,_,_,ht=>by
  obtain⟨rfl,rfl,rfl⟩:=h;exact⟨μ,A,w,Post.refl QE,ht,Steps.refl _ _⟩
 |r::l,i,T,H,n,T',H',n',rest,h,hs,hk,ho,hl,S,μ,w,A,QE,hB,hS,hf,hR,ht=>by
  obtain⟨h1,h2,h3,h4⟩:=h;have hr:=hs r (by simp);obtain⟨VU,hdo,hno⟩:=hk r (by simp);have Wl:=ho 0 r rfl;rw[Nat.add_zero]at Wl;have hl4:=Wb l _ _ _ _ _ _ h4 fun x hx=>hs x (Lw _ hx)
  have le1:=hr.le;have le2:=hl4.le;have hdst:∀x,r.o.dst=some x->x<T.len/\x<16000:=by rw[hl];exact hr.dst
  have next:∀(μ1:Mu) (A1:Array Value) (w1:World),Post B S n r.n' r.W μ μ1 H r.H' w w1->TR μ1 (VG T r.o.dst r.v) A1->Steps P (lone (Xu fr A ops (i::(LK (i+1) l.length++rest)) k) cs w) (lone (Xu fr A1 ops (LK (i+1) l.length++rest) k) cs w1)->
   ∃μ' A' w',Post B S n n' (Uc (r::l)) μ μ' H H' w w'/\TR μ' T' A'/\Steps P (lone (Xu fr A ops (LK i (r::l).length++rest) k) cs w) (lone (Xu fr A' ops rest k) cs w'):=by
   intro μ1 A1 w1 hp ht1 ZB;subst h3;obtain⟨μ',A',w',q1,q2,q3⟩:=cv hm l (i+1) _ _ _ _ _ _ rest h4 (fun x hx=>hs x (Lw _ hx)) (fun x hx=>hk x (Lw _ hx))
    (fun j x hx=>by have:=ho (j+1) x (by simpa using hx);rwa[show i+(j+1)=i+1+j by omega]at this) (by rw[UZ];exact hl) _ μ1 w1 A1 hp.ok (hB.post QE hp) (fun q hq=>hq.elim (fun e=>by have:=hS q e;omega) (fun e=>e.2))
    (fun q a b=>by rw[hp.ext q (by omega)];exact hf q (by omega) b) (fun q hq Xp=>by
     rcases LJ q r.n with h1|h1
     ·exact .inl (hR q (Lx _ hq) h1)
     ·exact .inr ⟨h1,Xp⟩) ht1
   exact⟨μ',A',w',hp.trans q1,q2,by rw[Lk,List.range'_succ];exact ZB.trans q3⟩
  cases hrx:r.run with
  |false=>
   obtain⟨hv,hH,hnn,hW⟩:=hno hrx;have Yh:Region.wanted r.o (yielded ops A)=false:=by rw[YH ht,<-h1,<-VU];exact hrx
   refine next μ _ w ?_ (ht.putA hdst (v':=undef) (by rw[hv];exact VR.undef)) (Steps.one ((fx hm Wl Yh).trans (by rw[Sc Wl])));rw[hH,hnn,hW,h2,h3];exact Post.refl QE
  |true=>
   have Yh:Region.wanted r.o (yielded ops A)=true:=by rw[YH ht,<-h1,<-VU];exact hrx
   have hd:=hdo hrx;rw[h1,h2,h3]at hd;have XJ:P4 μ n r.n':=fun q a b=>hf q a (by omega)
   obtain⟨Zh,w1,μ1,hp,ZU,ZB⟩:=hd S μ w (Xu fr A ops (i::(LK (i+1) l.length++rest)) k) cs k ops i _ QE hB hS XJ (fun x _ v hv=>so (fr:=Xu fr A ops (i::(LK (i+1) l.length++rest)) k) ht x v hv)
    (fun q hq Xp=>hR q (Lm _ hq) Xp) hm rfl Wl Yh
   cases ZU with
   |ret hv=>
    rename_i v';refine next μ1 _ w1 hp ((ht.mono (hp.mu XJ)).putA hdst hv) (ZB.trans ?_);simp only[OO.on];rw[Sc Wl];exact Steps.refl _ _
end
end Go.CE

namespace Go.CE
open Go Go.RowKit

theorem TodoR.inv{μ:Mu}{x:Item}{l L:List Item}(h:TodoR μ (x::l) L):∃x' L',L=x'::L'/\IR μ x x'/\TodoR μ l L':=by
 cases h with
 |cons a b=>exact⟨_,_,rfl,a,b⟩
theorem TodoR.inv_nil{μ:Mu}{L:List Item}(h:TodoR μ [] L):L=[]:=by cases h;rfl
theorem IR.code_inv{μ:Mu}{a:Code}{x':Item}(h:IR μ (.code a) x'):x'=.code a:=by cases h;rfl
theorem TodoR.code{μ:Mu}{a:Code}{l L:List Item}(h:TodoR μ (.code a::l) L):∃L',L=.code a::L'/\TodoR μ l L':=by
 obtain⟨x',L',e,hi,hk⟩:=h.inv;rw[hi.code_inv]at e;exact⟨L',e,hk⟩
theorem Ah{μ:Mu}{id:Nat}{l L:List Item}(h:TodoR μ l L):(∀k,exitTo id l=some k->∃k',exitTo id L=some k'/\TodoR μ k k')/\(exitTo id l=none->exitTo id L=none):=by
 induction h with
 |nil=>exact⟨fun k h=>by simp[exitTo]at h,fun _=>rfl⟩
 |cons hi hk ih=>
  cases hi with
  |inBlock id'=>
   simp only[exitTo];by_cases e:(id'==id)=true
   ·rw[if_pos e,if_pos e];exact⟨fun k h=>⟨_,rfl,by simp only[YO]at h;subst h;exact hk⟩,fun h=>by cases h⟩
   ·rw[if_neg e,if_neg e];exact ih
  |code c=>simpa only[exitTo]using ih
  |inLoop c=>simpa only[exitTo]using ih
  |inScope c=>simpa only[exitTo]using ih
  |beginRound=>simpa only[exitTo]using ih
  |endRF h=>simpa only[exitTo]using ih
theorem Ae{μ:Mu}{lb:Nat}{l L:List Item}(h:TodoR μ l L):(∀k,gotoIn lb l=some k->∃k',gotoIn lb L=some k'/\TodoR μ k k')/\(gotoIn lb l=none->gotoIn lb L=none):=by
 induction h with
 |nil=>exact⟨fun k h=>by simp[gotoIn]at h,fun _=>rfl⟩
 |cons hi hk ih=>
  cases hi with
  |inScope b=>
   simp only[gotoIn];cases findLabel b lb with
   |some r=>exact⟨fun k h=>⟨_,rfl,by simp only[YO]at h;subst h;exact .cons (.code _) (.cons (.inScope _) hk)⟩,fun h=>by cases h⟩
   |none=>exact ih
  |code c=>simpa only[gotoIn]using ih
  |inLoop c=>simpa only[gotoIn]using ih
  |inBlock c=>simpa only[gotoIn]using ih
  |beginRound=>simpa only[gotoIn]using ih
  |endRF h=>simpa only[gotoIn]using ih
structure GoJ (P:Program) (B:Lo) (c:CF) (H:Qq) (n:Nat) (c':CF) (H':Qq) (n':Nat) (R W:List Nat):Prop where
 shape:Shape H n H' n' R W
 sem:∀(S:Nat->Prop) (μ:Mu) (w:World) (fr:Frame) (cs:List Frame) (Z:Bot),Ok B S μ (Qt H) w->B.has w->(∀i,S i->i<n)->P4 μ n n'->FrR Z μ c fr->(∀i∈R,i<n->S i)->
  ∃fr' w' μ',Post B S n n' W μ μ' H H' w w'/\FrR Z μ' c' fr'/\fr'.roundOf=fr.roundOf/\fr'.fn=fr.fn/\Steps P (lone fr cs w) (lone fr' cs w')
theorem GoJ.fj{P:Program}{B:Lo}{c c':CF}{H H' H'':Qq}{n n' n'':Nat}{R R' W W':List Nat}{out:OO}(h:GoJ P B c H n c' H' n' R W)(k:FJ P B c' H' n' out H'' n'' R' W'):FJ P B c H n out H'' n'' (R++R') (W++W'):=by
 refine⟨h.shape.trans k.shape,fun S μ w fr cs QE hB hS hf XJ hR=> ?_⟩;have l1:=h.shape.le;have l2:=k.shape.le;obtain⟨S1,w1,μ1,hp,Rz,hr,hfn,ZB⟩:=h.sem S μ w fr cs Bot.no QE hB hS (fun q a b=>hf q a (by omega)) XJ (fun q hq Xp=>hR q (Lm _ hq) Xp);obtain⟨Zh,w',μ',Pb,ho,he⟩:=k.sem _ μ1 w1 S1 cs hp.ok (hB.post QE hp) (fun q hq=>hq.elim (fun e=>by have:=hS q e;omega) (fun e=>e.2))
  (fun q a b=>by rw[hp.ext q (by omega)];exact hf q (by omega) b) Rz (fun q hq Xp=>by
   rcases LJ q n with h1|h1
   ·exact .inl (hR q (Lx _ hq) h1)
   ·exact .inr ⟨h1,Xp⟩)
 exact⟨Zh,w',μ',hp.trans Pb,ho,he.of_steps ZB hr hfn⟩
theorem FrR.running{Z:Bot}{μ:Mu}{c:CF}{fr:Frame}(h:FrR Z μ c fr)(hm:c.mode=.run):fr.mode=.run/\TR μ c.tmps fr.tmps/\TodoR μ c.todo fr.todo:=by
 refine⟨?_,h.tmps,h.todo (by rw[hm];rfl)⟩;have:=h.mode;rw[hm]at this;generalize fr.mode=m at this;cases this;rfl
section
variable {P:Program} {B:Lo} {c:CF} {H:Qq} {n:Nat}
theorem Ku{l':List Item}(hm:c.mode=.run)(h:∀μ fr,fr.mode=.run->TR μ c.tmps fr.tmps->TodoR μ c.todo fr.todo->∃L',TodoR μ l' L'/\∀cs w,step P (lone fr cs w)=.next (lone {fr with todo:=L'} cs w)):
 GoJ P B c H n {c with todo:=l'} H n [] []:=by
 refine⟨Shape.same _ _ _,fun S μ w fr cs Z QE hB hS hf XJ hR=> ?_⟩;obtain⟨a,b,d⟩:=XJ.running hm;obtain⟨L',h1,h2⟩:=h μ fr a b d;exact⟨{fr with todo:=L'},w,μ,Post.refl QE,⟨XJ.fn,b,fun _=>h1,XJ.defers,XJ.mode,XJ.kind,XJ.round⟩,rfl,rfl,.one (h2 cs w)⟩
theorem Oa{k:List Item}(hm:c.mode=.run)(ht:c.todo=.code .skip::k):GoJ P B c H n {c with todo:=k} H n [] []:=
 Ku hm fun μ fr a _ d=>by
  rw[ht]at d;obtain⟨L',e,hk⟩:=d.code;exact⟨L',hk,fun cs w=>step_lone_go (by simp[stepG,stepG.exec,a,e])⟩
theorem Mw{k:List Item}{l:Nat}(hm:c.mode=.run)(ht:c.todo=.code (.label l)::k):GoJ P B c H n {c with todo:=k} H n [] []:=
 Ku hm fun μ fr a _ d=>by
  rw[ht]at d;obtain⟨L',e,hk⟩:=d.code;exact⟨L',hk,fun cs w=>step_lone_go (by simp[stepG,stepG.exec,a,e])⟩
theorem CV{k:List Item}{l:Nat}(hm:c.mode=.run)(ht:c.todo=.inBlock l::k):GoJ P B c H n {c with todo:=k} H n [] []:=
 Ku hm fun μ fr a _ d=>by
  rw[ht]at d;obtain⟨x',L',e,hi,hk⟩:=d.inv;cases hi;exact⟨L',hk,fun cs w=>step_lone_go (by simp[stepG,stepG.exec,a,e])⟩
theorem CU{k:List Item}{l:Code}(hm:c.mode=.run)(ht:c.todo=.inScope l::k):GoJ P B c H n {c with todo:=k} H n [] []:=
 Ku hm fun μ fr a _ d=>by
  rw[ht]at d;obtain⟨x',L',e,hi,hk⟩:=d.inv;cases hi;exact⟨L',hk,fun cs w=>step_lone_go (by simp[stepG,stepG.exec,a,e])⟩
theorem Qaz{k:List Item}{x y:Code}(hm:c.mode=.run)(ht:c.todo=.code (.seq x y)::k):GoJ P B c H n {c with todo:=.code x::.code y::k} H n [] []:=
 Ku hm fun μ fr a _ d=>by
  rw[ht]at d;obtain⟨L',e,hk⟩:=d.code;exact⟨_,.cons (.code _) (.cons (.code _) hk),fun cs w=>step_lone_go (by simp[stepG,stepG.exec,a,e])⟩
theorem Oe{k:List Item}{q:Operand}{x y:Code}{t:Bool}(hm:c.mode=.run)(ht:c.todo=.code (.cond q x y)::k)(hq:Zd c.tmps q=some (.bool t)):GoJ P B c H n {c with todo:=.code (bif t then x else y)::k} H n [] []:=
 Ku hm fun μ fr a b d=>by
  rw[ht]at d;obtain⟨L',e,hk⟩:=d.code;have hv:=so b q _ hq;have hv:fr.eval q=.bool t:=by generalize fr.eval q=u at hv;cases hv;rfl
  exact⟨_,.cons (.code _) hk,fun cs w=>step_lone_go (by cases t <;> simp[stepG,stepG.exec,a,e,hv])⟩
theorem My{k:List Item}{id:Nat}{x:Code}(hm:c.mode=.run)(ht:c.todo=.code (.block id x)::k):GoJ P B c H n {c with todo:=.code x::.inBlock id::k} H n [] []:=
 Ku hm fun μ fr a _ d=>by
  rw[ht]at d;obtain⟨L',e,hk⟩:=d.code;exact⟨_,.cons (.code _) (.cons (.inBlock _) hk),fun cs w=>step_lone_go (by simp[stepG,stepG.exec,a,e])⟩
theorem Ob{k:List Item}{x:Code}(hm:c.mode=.run)(ht:c.todo=.code (.loop x)::k):GoJ P B c H n {c with todo:=.code x::.inLoop x::k} H n [] []:=
 Ku hm fun μ fr a _ d=>by
  rw[ht]at d;obtain⟨L',e,hk⟩:=d.code;exact⟨_,.cons (.code _) (.cons (.inLoop _) hk),fun cs w=>step_lone_go (by simp[stepG,stepG.exec,a,e])⟩
theorem Gi{k:List Item}{x:Code}(hm:c.mode=.run)(ht:c.todo=.inLoop x::k):GoJ P B c H n {c with todo:=.code x::.inLoop x::k} H n [] []:=
 Ku hm fun μ fr a _ d=>by
  rw[ht]at d;obtain⟨x',L',e,hi,hk⟩:=d.inv;cases hi;exact⟨_,.cons (.code _) (.cons (.inLoop _) hk),fun cs w=>step_lone_go (by simp[stepG,stepG.exec,a,e])⟩
theorem Mv{k:List Item}{x:Code}(hm:c.mode=.run)(ht:c.todo=.code (.scope x)::k):GoJ P B c H n {c with todo:=.code x::.inScope x::k} H n [] []:=
 Ku hm fun μ fr a _ d=>by
  rw[ht]at d;obtain⟨L',e,hk⟩:=d.code;exact⟨_,.cons (.code _) (.cons (.inScope _) hk),fun cs w=>step_lone_go (by simp[stepG,stepG.exec,a,e])⟩
theorem Od{k k':List Item}{id:Nat}(hm:c.mode=.run)(ht:c.todo=.code (.exit id)::k)(hx:exitTo id k=some k'):GoJ P B c H n {c with todo:=k'} H n [] []:=
 Ku hm fun μ fr a _ d=>by
  rw[ht]at d;obtain⟨L',e,hk⟩:=d.code;obtain⟨L2,h1,h2⟩:=(Ah hk).1 _ hx;exact⟨_,h2,fun cs w=>step_lone_go (by simp[stepG,stepG.exec,a,e,h1])⟩
theorem Oc{k k':List Item}{id:Nat}(hm:c.mode=.run)(ht:c.todo=.code (.goto id)::k)(hx:gotoIn id k=some k'):GoJ P B c H n {c with todo:=k'} H n [] []:=
 Ku hm fun μ fr a _ d=>by
  rw[ht]at d;obtain⟨L',e,hk⟩:=d.code;obtain⟨L2,h1,h2⟩:=(Ae hk).1 _ hx;exact⟨_,h2,fun cs w=>step_lone_go (by simp[stepG,stepG.exec,a,e,h1])⟩
end
end Go.CE

namespace Go.CE
open Go Go.RowKit

def Qbt(P:Program)(B:Lo)(c:CF)(H:Qq)(n:Nat):FS->Prop
 | .go c' H' n' R W=>GoJ P B c H n c' H' n' R W
 | .done out H' n' R W=>FJ P B c H n out H' n' R W
section
variable {P:Program} {B:Lo} {c:CF} {H:Qq} {n:Nat}
theorem gf{w:World}{b k:Nat}{o:Obj}(h:k≠b):(w.putObj b o).heap[k]? =w.heap[k]? :=World.putObj_heap_other h
theorem eU{S:Nat->Prop}{μ:Mu}{w:World}{l:Nat}{r:Loop}(QE:Ok B S μ (Qt H) w)(hS:∀i,S i->i<n)(hk:S l)(hg:Qt H l=some (.loop r))(st:LoopState)(pe:Option Code):
 ∃im tm df,μ l=some im/\w.heap[im.Zu]? =some (.loop {r with tmps:=tm,defers:=df})/\
  Post B S n n [l] μ μ H (VE H l (.loop {r with state:=st,pending:=pe})) w (w.putObj im.Zu (.loop {r with state:=st,pending:=pe,tmps:=tm,defers:=df})):=by
 obtain⟨im,QJ,Ja,tm,df,hw,hv⟩:=QE.rel l _ hk hg trivial;have Xp:im.Zu<w.heap.size:=(QE.low l _ im hk hg trivial QJ).1;exact⟨im,tm,df,QJ,hw,Post.write QE hS l _ _ im hk hg trivial QJ Ja (by simp) (fun b hb=>gf hb) ⟨Ja,tm,df,World.putObj_heap_same Xp,hv⟩ ⟨rfl,rfl,rfl⟩⟩
def Leaves(P:Program)(c:CF)(jump:Option Code):Prop:=
 ∀(μ:Mu) (fr:Frame),fr.mode=.run->TodoR μ c.todo fr.todo->
  (fr.roundOf=none->(jump=none\/jump=some .ret)->∀cs w,step P (lone fr cs w)=.next (lone {fr with mode:=.returning} cs w))/\
  (fr.kind=.normal->∀l v w w',fr.roundOf=some l->(Instr.endRound l jump).run P w=.ok v w'->∀c0 cs,step P (lone fr (c0::cs) w)=.next (lone (c0.finish v) cs w'))
theorem CO(ht:c.todo=[]):Leaves P c none:=by
 intro μ fr hm hd;rw[ht]at hd;have e:=hd.inv_nil;exact⟨fun hr _ cs w=>step_lone_go (by simp[stepG,stepG.exec,hm,e,hr]),fun hk l v w w' hr h c0 cs=>step_lone_go (by simp[stepG,stepG.exec,hm,e,hr,hk,Sem.runT_eq,h,doReturn])⟩
theorem CL{k:List Item}(ht:c.todo=.code .ret::k):Leaves P c (some .ret):=by
 intro μ fr hm hd;rw[ht]at hd;obtain⟨L',e,_⟩:=hd.code;exact⟨fun hr _ cs w=>step_lone_go (by simp[stepG,stepG.exec,hm,e,hr]),fun hk l v w w' hr h c0 cs=>step_lone_go (by simp[stepG,stepG.exec,hm,e,hr,hk,Sem.runT_eq,h,doReturn])⟩
theorem zY{k:List Item}{id:Nat}(ht:c.todo=.code (.exit id)::k)(hx:exitTo id k=none):Leaves P c (some (.exit id)):=by
 intro μ fr hm hd;rw[ht]at hd;obtain⟨L',e,hL⟩:=hd.code;have hx':=(Ah hL).2 hx;exact⟨fun _ h=>by rcases h with h|h <;> simp at h,fun hk l v w w' hr h c0 cs=>step_lone_go (by simp[stepG,stepG.exec,hm,e,hx',hr,hk,Sem.runT_eq,h,doReturn])⟩
theorem zX{k:List Item}{id:Nat}(ht:c.todo=.code (.goto id)::k)(hx:gotoIn id k=none):Leaves P c (some (.goto id)):=by
 intro μ fr hm hd;rw[ht]at hd;obtain⟨L',e,hL⟩:=hd.code;have hx':=(Ae hL).2 hx;exact⟨fun _ h=>by rcases h with h|h <;> simp at h,fun hk l v w w' hr h c0 cs=>step_lone_go (by simp[stepG,stepG.exec,hm,e,hx',hr,hk,Sem.runT_eq,h,doReturn])⟩
theorem RX{jump:Option Code}{fs:FS}(hm:c.mode=.run)(hu:Under H n)(hl:Leaves P c jump)(h:Sr c H n jump=some fs):Qbt P B c H n fs:=by
 unfold Sr at h;split at h
 ·rename_i hr;have go:(jump=none\/jump=some .ret)->GoJ P B c H n {c with mode:=.ret} H n [] []:=by
   intro hj;refine⟨Shape.same _ _ _,fun S μ w fr cs Z QE hB hS hf XJ hR=> ?_⟩;obtain⟨a,b,d⟩:=XJ.running hm;have ax:=XJ.round;rw[hr]at ax;have ax:fr.roundOf=none:=by cases hq:fr.roundOf with
    |none=>rfl
    |some x=>rw[hq]at ax;exact ax.elim
   exact⟨{fr with mode:=.returning},w,μ,Post.refl QE,⟨XJ.fn,b,fun _=>d,XJ.defers,.ret,XJ.kind,XJ.round⟩,rfl,rfl,.one ((hl μ fr a d).1 ax hj cs w)⟩
  split at h
  ·simp only[YO]at h;subst h;exact go (.inl rfl)
  ·simp only[YO]at h;subst h;exact go (.inr rfl)
  ·cases h
 ·rename_i l hr;split at h
  ·rename_i r hg;simp only[YO]at h;subst h;refine⟨Shape.set _ (hu.lt hg),fun S μ w fr cs QE hB hS hf XJ hR=> ?_⟩;obtain⟨a,b,d⟩:=XJ.running hm;obtain⟨im,tm,df,QJ,hw,hp⟩:=eU QE hS (hR l (by simp) (hu.lt hg)) hg (if jump.isNone then .ready else .done) jump;have ax:=XJ.round;rw[hr]at ax;cases hq:fr.roundOf with
   |none=>rw[hq]at ax;exact ax.elim
   |some x=>
    rw[hq]at ax;obtain⟨ZD,QN,hx⟩:=ax;rw[QJ]at QN;cases QN;subst hx;have hend:=run_endRound (P:=P) jump hw;exact⟨.ret (.bool jump.isNone),_,μ,hp,.ret (.bool _),(fun h=>by rw[hq]at h;cases h),fun c0 cs' e=>by
     subst e;exact .one ((hl μ fr a d).2 XJ.kind _ _ _ _ hq hend c0 cs')⟩
  ·cases h
theorem qK{k:List Item}{l:Nat}{r:Loop}(hm:c.mode=.run)(hu:Under H n)(ht:c.todo=.beginRound::k)(hr:c.roundOf=some l)(hg:Qt H l=some (.loop r))(hs:r.state=.ready):
 GoJ P B c H n {c with todo:=k} (VE H l (.loop {r with state:=.busy})) n [l] [l]:=by
 refine⟨Shape.set _ (hu.lt hg),fun S μ w fr cs Z QE hB hS hf XJ hR=> ?_⟩;obtain⟨a,b,d⟩:=XJ.running hm;obtain⟨im,tm,df,QJ,hw,hp⟩:=eU QE hS (hR l (by simp) (hu.lt hg)) hg .busy r.pending;rw[ht]at d;obtain⟨x',L',e,hi,hk⟩:=d.inv;cases hi;have ax:=XJ.round;rw[hr]at ax;cases hq:fr.roundOf with
 |none=>rw[hq]at ax;exact ax.elim
 |some x=>
  rw[hq]at ax;obtain⟨ZD,QN,hx⟩:=ax;rw[QJ]at QN;cases QN;subst hx;have hbr:=run_beginRound (P:=P) hw hs;exact⟨{fr with todo:=L'},_,μ,hp,⟨XJ.fn,b,fun _=>hk,XJ.defers,XJ.mode,XJ.kind,XJ.round⟩,hq,rfl,.one (step_lone_go (by simp[stepG,stepG.exec,stepG.apply,a,e,hq,Sem.runT_eq,hbr,Result.andThen,Frame.finish]))⟩
theorem Mx{k:List Item}{l:Nat}{r:Loop}(hm:c.mode=.run)(hu:Under H n)(ht:c.todo=.endRangeFunc l::k)(hg:Qt H l=some (.loop r))(hs:r.state≠.busy):
 GoJ P B c H n {c with todo:=(r.pending.map Item.code).toList++k} (VE H l (.loop {r with state:=.exhausted})) n [l] [l]:=by
 refine⟨Shape.set _ (hu.lt hg),fun S μ w fr cs Z QE hB hS hf XJ hR=> ?_⟩;obtain⟨a,b,d⟩:=XJ.running hm;obtain⟨im,tm,df,QJ,hw,hp⟩:=eU QE hS (hR l (by simp) (hu.lt hg)) hg .exhausted r.pending;rw[ht]at d;obtain⟨x',L',e,hi,hk⟩:=d.inv;cases hi with
 |endRF QN=>
  rw[QJ]at QN;cases QN;have hbr:=run_endLoop (P:=P) hw hs;refine⟨{fr with todo:=(r.pending.map Item.code).toList++L'},_,μ,hp,⟨XJ.fn,b,fun _=> ?_,XJ.defers,XJ.mode,XJ.kind,XJ.round⟩,rfl,rfl,.one (step_lone_go (by simp[stepG,stepG.exec,a,e,Sem.runT_eq,hbr,GStep.bare_after]))⟩;cases r.pending with
  |none=>exact hk
  |some x=>exact .cons (.code _) hk
theorem MR.not_run{μ:Mu}{m:CM}{m':FrameMode}(h:MR μ m m')(hm:m≠.run):m'≠.run:=by
 cases h with
 |run=>exact absurd rfl hm
 |ret=>exact fun e=>by cases e
 |Wn=>exact fun e=>by cases e
theorem CW{d:Nat}{ds:List Nat}(hm:c.mode≠.run)(hu:Under H n)(hd:c.defers=d::ds)(hg:Qt H d=some (.deferred (some []))):GoJ P B c H n {c with defers:=ds} (VE H d (.deferred none)) n [d] [d]:=by
 refine⟨Shape.set _ (hu.lt hg),fun S μ w fr cs Z QE hB hS hf XJ hR=> ?_⟩;have hk:=hR d (by simp) (hu.lt hg);obtain⟨im,QJ,Ja,hw,_⟩:=QE.rel d _ hk hg trivial;have Xp:im.Zu<w.heap.size:=(QE.low d _ im hk hg trivial QJ).1;have hp:=Post.write (w':=w.putObj im.Zu (.deferred none)) QE hS d _ (.deferred none) im hk hg trivial QJ Ja (by simp) (fun b hb=>gf hb) ⟨Ja,World.putObj_heap_same Xp,.inr rfl⟩ ⟨rfl,rfl,rfl⟩;have hdf:=XJ.defers;rw[hd]at hdf;obtain⟨ZD,l',h1,hq,h2⟩:=hdf.cons_inv;rw[QJ]at h1;cases h1;exact⟨{fr with defers:=[]++l'},_,μ,hp,⟨XJ.fn,XJ.tmps,XJ.todo,h2,XJ.mode,XJ.kind,XJ.round⟩,rfl,rfl,.one (step_collected (XJ.mode.not_run hm) hq rfl (run_takeDeferred hw))⟩
theorem MG{S:Nat->Prop}{μ:Mu}{w:World}{t:TypeId}{p p' v:Value}{b:Nat}(h:Ty P t H p=some (v,b))(QE:Ok B S μ (Qt H) w)(hp:VR μ p p')(hb:S b):∃v',(do loadVar t (<-asAddr p'):Sem Value).run P w=.ok v' w/\VR μ v v':=by
 obtain⟨v',h1,h2⟩:=sx h QE hp hb;unfold Ty at h;split at h
 ·cases hp with
  |ptr har=>exact⟨v',by simpa[Instr.loadAt,Instr.sureAddr,asAddr]using h1,h2⟩
 ·cases h
theorem MJ{t:TypeId}{p v:Value}{b:Nat}(hu:Under H n)(h:Ty P t H p=some (v,b)):b<n:=by
 unfold Ty at h;split at h
 ·split at h
  ·rename_i hg;split at h
   ·simp only[YO,YR]at h;obtain⟨_,rfl⟩:=h;exact hu.lt hg
   ·cases h
  ·cases h
 ·cases h
inductive VRl (μ:Mu):List Value->List Value->Prop
 |nil:VRl μ [] []
 |cons {v v' l l'}:VR μ v v'->VRl μ l l'->VRl μ (v::l) (v'::l')
theorem VRl.vrs{μ:Mu}{l l':List Value}(h:VRl μ l l'):l.length=l'.length/\∀(i:Nat) v v',l[i]? =some v->l'[i]? =some v'->VR μ v v':=by
 induction h with
 |nil=>exact⟨rfl,fun i v v' h=>by simp at h⟩
 |cons h _ ih=>
  refine⟨by simp[ih.1],fun i v v' a b=> ?_⟩;cases i with
  |zero=>simp only[Lv,YO]at a b;subst a b;exact h
  |succ i=>exact ih.2 i v v' (by simpa using a) (by simpa using b)
def Nq(A:Array Value):ResultVar->Sem Value
 | .tmp t=>pure (A.getD t undef)
 | .cell a t=>do loadVar t (<-asAddr (A.getD a undef))
theorem fJ(fn:Func)(A:Array Value):results fn A=(do
 let vs <-fn.results.mapM (Nq A)
 pure (if h:vs.size=1 then vs[0]else .tuple vs)):=by
 unfold results;congr 2
theorem RB{S:Nat->Prop}{μ:Mu}{w:World}{T:Tm}{A:Array Value}(hu:Under H n)(QE:Ok B S μ (Qt H) w)(ht:TR μ T A):∀(l:List ResultVar) (vs:List Value) (R:List Nat),TL P H T l=some (vs,R)->(∀i∈R,i<n->S i)->
 ∃vs',(l.mapM (Nq A)).run P w=.ok vs' w/\VRl μ vs vs'
 |[],vs,R,h,_=>by
  simp only[TL,YO,YR]at h;obtain⟨rfl,rfl⟩:=h;exact⟨[],by simp,.nil⟩
 | .tmp t::l,vs,R,h,hR=>by
   simp only[TL]at h;split at h
   ·rename_i vs1 R1 h1;simp only[YO,YR]at h;obtain⟨rfl,rfl⟩:=h;obtain⟨vs',h2,h3⟩:=RB hu QE ht l vs1 R1 h1 hR;exact⟨A.getD t undef::vs',by simp only[List.mapM_cons,Nq,Sem.run_bind,Sem.run_pure,Result.andThen_ok,h2],.cons (ht.2 t) h3⟩
   ·cases h
 | .cell a t::l,vs,R,h,hR=>by
   simp only[TL]at h;split at h
   ·rename_i v b hv;split at h
    ·rename_i vs1 R1 h1;simp only[YO,YR]at h;obtain⟨rfl,rfl⟩:=h;obtain⟨vs',h2,h3⟩:=RB hu QE ht l vs1 R1 h1 (fun i hi=>hR i (Lw _ hi));obtain⟨v',h4,h5⟩:=MG hv QE (ht.2 a) (hR b (by simp) (MJ hu hv));exact⟨v'::vs',by simp only[List.mapM_cons,Nq,Sem.run_bind]at h4 ⊢;simp only[h4,Sem.run_pure,Result.andThen_ok,h2],.cons h5 h3⟩
    ·cases h
   ·cases h
theorem sb{μ:Mu}{vs vs':List Value}(h:VRl μ vs vs'):VR μ (oneOf vs) (if h:vs'.toArray.size=1 then vs'.toArray[0]else .tuple vs'.toArray):=by
 have hv:=h.vrs;cases h with
 |nil=>exact .tuple rfl fun i v v' h=>by simp at h
 |cons h1 h2=>
  cases h2 with
  |nil=>simpa[oneOf]using h1
  |cons h3 h4=>
   simp only[oneOf];rw[dif_neg (by simp)];exact .tuple (by simpa using hv.1) (by simpa using hv.2)
theorem MA{v:Value}{R:List Nat}(hu:Under H n)(hm:c.mode=.ret)(hd:c.defers=[])(hv:vI P c.fn H c.tmps=some (v,R)):FJ P B c H n (.ret v) H n R []:=by
 refine⟨Shape.same _ _ _,fun S μ w fr cs QE hB hS hf XJ hR=> ?_⟩;have ht:=XJ.tmps;unfold vI at hv;rw[bR,Lr]at hv;split at hv
 ·rename_i fn hfn;split at hv
  ·rename_i vs R1 hvs;simp only[YO,YR]at hv;obtain⟨rfl,rfl⟩:=hv;obtain⟨vs',h1,h2⟩:=RB hu QE ht _ _ _ hvs hR;have hmode:fr.mode=.returning:=by
    have:=XJ.mode;rw[hm]at this;generalize fr.mode=m at this;cases this;rfl
   have hdf:fr.defers=[]:=by
    have:=XJ.defers;rw[hd]at this;exact this.empty
   have hres:(results fn fr.tmps).run P w=.ok (if h:vs'.toArray.size=1 then vs'.toArray[0]else .tuple vs'.toArray) w:=by
    rw[fJ,Array.mapM_eq_mapM_toList];simp only[Sem.run_bind,Sem.run_map,h1,Result.andThen_ok,Sem.run_pure]
   have hleave:fr.leaving P w (.returned (if h:vs'.toArray.size=1 then vs'.toArray[0]else .tuple vs'.toArray)):=⟨hmode,hdf,XJ.kind,fn,by rw[XJ.fn];exact hfn,hres⟩
   exact⟨.ret _,w,μ,Post.refl QE,.ret (sb h2),fun _=>⟨fr,Steps.refl _ _,rfl,hleave⟩,fun c0 cs' e=>by subst e;exact .one (step_leave_returned hleave)⟩
  ·cases hv
 ·cases hv
theorem MB{v:Value}(hm:c.mode=.Wn v)(hd:c.defers=[])(hv:NV P c.fn=true):FJ P B c H n (.Wn v) H n [] []:=by
 refine⟨Shape.same _ _ _,fun S μ w fr cs QE hB hS hf XJ hR=> ?_⟩;unfold NV at hv;rw[bR,Lr]at hv;split at hv
 ·rename_i fn hfn;have hmode:=XJ.mode;rw[hm]at hmode;generalize hq:fr.mode=m at hmode;cases hmode with
  |Wn VX=>
   rename_i v';have hdf:fr.defers=[]:=by
    have:=XJ.defers;rw[hd]at this;exact this.empty
   have hleave:fr.leaving P w (.panicked [{v:=v',recovered:=false}]):=⟨hq,hdf,fn,by rw[XJ.fn];exact hfn⟩
   exact⟨.Wn v',w,μ,Post.refl QE,.Wn VX,fun _=>⟨fr,Steps.refl _ _,rfl,hleave⟩,fun c0 cs' e=>by subst e;exact .one (step_leave_panicked hleave)⟩
 ·cases hv
end
end Go.CE

namespace Go.CE
open Go Go.RowKit

theorem P0:∀(l:List Oper) (k:Nat),WY k l=true->∀(j:Nat) o,l[j]? =some o->∀e∈o.after,Region.binds .any e=true->e.on<k+j
 |[],_,_,j,o,h=>by simp at h
 |x::l,k,h,j,o,hj=>by
  simp only[WY,YB]at h;cases j with
  |zero=>
   simp only[Lv,YO]at hj;subst hj;intro e he hb;have:=Array.all_eq_true'.1 h.1 e he;rw[hb]at this;have:=YL (show LP (e.on+1) k=true by simpa[Ls]using this);omega
  |succ j=>
   intro e he hb;have:=P0 l (k+1) h.2 j o (by simpa using hj) e he hb;omega
theorem KC{Qz:List Rec}{l:List Oper}{ops:Array Oper}{l2:List Oper}(h:Qz.map (·.o)++l2=l)(hl:l=ops.toList)(j:Nat)(r:Rec)(hj:Qz[j]? =some r):ops[j]? =some r.o:=by
 have e:(Qz.map (·.o)++l2)[j]? =some r.o:=by
  rw[Ly (by simpa using(List.getElem?_eq_some_iff.1 hj).1),LC,hj];rfl
 rw[h,hl,Lr]at e;exact e
section
variable {P:Program} {F:FuncId->Bool} {Xr:WZ} {B:Lo} {rec:CF->Qq->Nat->Option Rs} {c:CF} {H:Qq} {n:Nat}
theorem Ww{fr:Frame}{cs:List Frame}{w:World}{id:Nat}{ops:Array Oper}{k:List Item}(hm:fr.mode=.run)(ht:fr.todo=.code (.region id ops false)::k):step P (lone fr cs w)=.next (lone (Xu fr fr.tmps ops (LK 0 ops.size) k) cs w):=
 step_lone_go (by simp[stepG,stepG.exec,hm,ht,Xu,List.range_eq_range'])
theorem Gh(hF:∀g,F g=true->Q1 P g=true)(Vv:jg P B rec)(ZY:Wz P B Xr)(Zl:P.follows .mixedOrders=true){id:Nat}{ops:Array Oper}{draw:Bool}{k:List Item}{Qz:List Rec}{T':Tm}{H':Qq}{n':Nat}(hm:c.mode=.run)(hu:Under H n)
 (ht:c.todo=.code (.region id ops draw)::k) (h:iz P F Xr rec ops ops.toList c.tmps H n=some (Qz,.ok T' H' n')) (hd:(!draw || (WY 0 ops.toList && indep ops 0 Qz (P3 ops.toList [])))=true):
 GoJ P B c H n {c with tmps:=T',todo:=k} H' n' (Y9 Qz) (Uc Qz):=by
 obtain⟨hs,hk,Sw,hmap,hu'⟩:=K7 hF Vv ZY (len:=c.tmps.len) ops.toList c.tmps H n Qz _ rfl hu h;have hown:=KC (l:=ops.toList) (l2:=[]) (by rw[List.append_nil];exact hmap) rfl;have hlen:Qz.length=ops.size:=by have:=congrArg Lc hmap;simpa using this
 refine⟨Wb Qz _ _ _ _ _ _ Sw hs,fun S μ w fr cs Z QE hB hS hf XJ hR=> ?_⟩;obtain⟨a,b,d⟩:=XJ.running hm;rw[ht]at d;obtain⟨L',e,hL⟩:=d.code;cases draw with
 |false=>
  obtain⟨μ',A',w',hp,hT,ZB⟩:=cv (fr:=fr) (cs:=cs) (k:=L') a Qz 0 c.tmps H n T' H' n' [] Sw hs hk (fun j r hj=>by rw[LB];exact hown j r hj) rfl S μ w fr.tmps QE hB hS hf hR b;rw[List.append_nil,hlen]at ZB;exact⟨{fr with tmps:=A',todo:=L'},w',μ',hp,⟨XJ.fn,hT,fun _=>hL.mono (hp.mu hf),XJ.defers.mono (hp.mu hf),XJ.mode.mono (hp.mu hf),XJ.kind,XJ.round.mono (hp.mu hf)⟩,rfl,rfl,
   .head (Ww a e) (ZB.trans (.one (Uf a)))⟩
 |true=>
  simp only[Bool.not_true,Bool.false_or,YB]at hd;have hedge:∀(q:Nat) o,ops[q]? =some o->∀e∈o.after,Region.binds .any e=true->e.on<q:=by
   intro q o ho e he hb;have:=P0 ops.toList 0 hd.1 q o (by rw[Lr];exact ho) e he hb;omega
  have hbef:=uB ops.toList (fun q o ho=>hedge q o (by simpa using ho));have VE:Setup P B ops Qz (P3 ops.toList []) c.tmps H n T' H' n':=⟨Sw,hs,hown,hlen,by simpa using hbef.1,aw Qz _ 0 hd.2,hedge⟩
  obtain⟨μ',A',w',hp,hT,ZB⟩:=jz Zl VE hk QE hS hR hf hB (fr:=fr) (cs:=cs) (id:=id) (k:=L') a b e;exact⟨{fr with tmps:=A',todo:=L'},w',μ',hp,⟨XJ.fn,hT,fun _=>hL.mono (hp.mu hf),XJ.defers.mono (hp.mu hf),XJ.mode.mono (hp.mu hf),XJ.kind,XJ.round.mono (hp.mu hf)⟩,rfl,rfl,ZB⟩
theorem qJ(hF:∀g,F g=true->Q1 P g=true)(Vv:jg P B rec)(ZY:Wz P B Xr){id:Nat}{ops:Array Oper}{k:List Item}{Qz:List Rec}{v:Value}{H':Qq}{n':Nat}{R W:List Nat}{T':Tm}(hm:c.mode=.run)(hu:Under H n)
 (ht:c.todo=.code (.region id ops false)::k) (h:iz P F Xr rec ops ops.toList c.tmps H n=some (Qz,.Wn T' v H' n' R W)):
 GoJ P B c H n {c with tmps:=T',mode:=.Wn v} H' n' (Y9 Qz++R) (Uc Qz++W):=by
 obtain⟨hs,hk,H1,n1,o,l2,Sw,hmap,Yh,hdo,RZ⟩:=K7 hF Vv ZY (len:=c.tmps.len) ops.toList c.tmps H n Qz _ rfl hu h;have hown:=KC (l2:=o::l2) hmap rfl;have hlen:ops.size=Qz.length+(l2.length+1):=by have:=congrArg Lc hmap;simp at this;omega
 have hat:ops[Qz.length]? =some o:=by
  rw[<-Lr,<-hmap,Ll (by simp)];simp
 have hsh1:=Wb Qz _ _ _ _ _ _ Sw hs;have l1:=hsh1.le;have l3:=RZ.le;refine⟨hsh1.trans RZ,fun S μ w fr cs Z QE hB hS hf XJ hR=> ?_⟩;obtain⟨a,b,d⟩:=XJ.running hm;rw[ht]at d;obtain⟨L',e,hL⟩:=d.code;have hf1:P4 μ n n1:=fun q x y=>hf q x (by omega)
 obtain⟨μ1,A1,w1,hp,hT,ZB⟩:=cv (fr:=fr) (cs:=cs) (k:=L') a Qz 0 c.tmps H n T' H1 n1 (LK Qz.length (l2.length+1)) Sw hs hk (fun j r hj=>by rw[LB];exact hown j r hj) rfl S μ w fr.tmps QE hB hS hf1
  (fun q hq Xp=>hR q (Lm _ hq) Xp) b
 have hr:LK 0 Qz.length++LK Qz.length (l2.length+1)=LK 0 ops.size:=by
  rw[hlen];have:=List.range'_append_1 (s:=0) (m:=Qz.length) (n:=l2.length+1);simpa using this
 rw[hr,List.range'_succ]at ZB;obtain⟨Zh,w2,μ2,Pb,ho,hst2⟩:=hdo _ μ1 w1 (Xu fr A1 ops (Qz.length::LK (Qz.length+1) l2.length) L') cs L' ops Qz.length _ hp.ok (hB.post QE hp) (fun q hq=>hq.elim (fun e=>by have:=hS q e;omega) (fun e=>e.2))
  (fun q x y=>by rw[hp.ext q (by omega)];exact hf q (by omega) y) (fun x _ v hv=>so (fr:=Xu fr A1 ops (Qz.length::LK (Qz.length+1) l2.length) L') hT x v hv) (fun q hq Xp=>by
   rcases LJ q n with h1|h1
   ·exact .inl (hR q (Lx _ hq) h1)
   ·exact .inr ⟨h1,Xp⟩) a rfl hat (by rw[show(Xu fr A1 ops (Qz.length::LK (Qz.length+1) l2.length) L').tmps=A1 from rfl,YH hT];exact Yh)
 have hpp:=hp.trans Pb;cases ho with
 |Wn hv=>
  rename_i v';refine⟨{Xu fr A1 ops (Qz.length::LK (Qz.length+1) l2.length) L' with mode:=.panicking [{v:=v',recovered:=false}]},w2,μ2,hpp,⟨XJ.fn,hT.mono (Pb.mu fun q x y=>by rw[hp.ext q (by omega)];exact hf q (by omega) y),(fun h=>by cases h),XJ.defers.mono (hpp.mu hf),.Wn hv,XJ.kind,XJ.round.mono (hpp.mu hf)⟩,rfl,rfl,
   .head (Ww a e) (ZB.trans (hst2.trans ?_))⟩
  simp only[OO.on,Frame.raise,Xu,a];exact Steps.refl _ _
theorem qm{x:Rec}{H2:Qq}{n2:Nat}:∀(l:List Rec) (T:Tm) (H:Qq) (n:Nat),Yn l T H n x.T x.H x.n->H2=x.H'->n2=x.n'->Yn (l++[x]) T H n (VG x.T x.o.dst x.v) H2 n2
 |[],T,H,n,h,h1,h2=>by obtain⟨rfl,rfl,rfl⟩:=h;exact⟨rfl,rfl,rfl,rfl,h1.symm,h2.symm⟩
 |r::l,T,H,n,h,h1,h2=>by
  obtain⟨a,b,c,d⟩:=h;exact⟨a,b,c,qm l _ _ _ d h1 h2⟩
theorem kj(Zl:P.follows .mixedOrders=true){id:Nat}{ops:Array Oper}{k:List Item}{Qz:List Rec}{v:Value}{H':Qq}{n':Nat}{R W:List Nat}{T':Tm}(hm:c.mode=.run)
 (ht:c.todo=.code (.region id ops true)::k) (hs:∀x∈Qz,dm c.tmps.len x) (hk:∀x∈Qz,Sl P B ops x)
 (h:∃H1 n1 o l2,Yn Qz c.tmps H n T' H1 n1/\Qz.map (·.o)++o::l2=ops.toList/\Region.wanted o (XS ops T')=true/\T3 P B o (Zd T') H1 n1 (.Wn v) H' n' R W/\Shape H1 n1 H' n' R W) (hd:ai ops Qz T'=true):
 GoJ P B c H n {c with tmps:=T',mode:=.Wn v} H' n' (Y9 Qz++R) (Uc Qz++W):=by
 obtain⟨H1,n1,o,l2,Sw,hmap,Yh,hdo,RZ⟩:=h;simp only[ai,YB,Nat.beq_eq,List.all_eq_true,List.mem_range,List.contains_iff_mem]at hd;obtain⟨d1,d2,d3,d4,d5⟩:=hd;have hlen:ops.size=Qz.length+1:=by rw[d3];simp
 have hl2:l2=[]:=by
  have:=congrArg Lc hmap;simp at this;exact List.eq_nil_of_length_eq_zero (by omega)
 subst hl2;let x:Rec:=⟨o,true,undef,T',H1,H',n1,n',R,W⟩
 have hsh1:=Wb Qz _ _ _ _ _ _ Sw hs;have hom:o∈ops.toList:=by rw[<-hmap];simp
 have hTl:T'.len=c.tmps.len:=(KI (len:=c.tmps.len) 0 Qz 0 _ _ _ _ _ _ Sw hs rfl).2.1;have hsx:dm c.tmps.len x:=⟨RZ.le,RZ.keep,RZ.top,RZ.sub,RZ.wlt,fun d hd=>by rw[<-hTl];exact Ro (d5 o hom) d hd⟩
 have hch2:Yn (Qz++[x]) c.tmps H n (VG T' o.dst undef) H' n':=qm (x:=x) Qz _ _ _ Sw rfl rfl;have hs2:∀r∈Qz++[x],dm c.tmps.len r:=fun r hr=>(List.mem_append.1 hr).elim (hs r) fun e=>by rw[List.mem_singleton.1 e];exact hsx
 have hmap2:(Qz++[x]).map (·.o)++[]=ops.toList:=by rw[List.append_nil,List.map_append,<-hmap];rfl
 have hown:=KC (l2:=[]) hmap2 rfl;have hedge:∀(q:Nat) o,ops[q]? =some o->∀e∈o.after,Region.binds .any e=true->e.on<q:=by
  intro q o ho e he hb;have:=P0 ops.toList 0 d1 q o (by rw[Lr];exact ho) e he hb;omega
 have hbef:=uB ops.toList (fun q o ho=>hedge q o (by simpa using ho));have hat:(Qz++[x])[Qz.length]? =some x:=by rw[Ll (by omega)];simp
 have ZA:ops.size-1=Qz.length:=by omega
 have VE:Setup P B ops (Qz++[x]) (P3 ops.toList []) c.tmps H n (VG T' o.dst undef) H' n':=by
  refine⟨hch2,hs2,hown,by simp;omega,by simpa using hbef.1, ?_,hedge⟩;intro i j r y ay hi hj htd;have hjl:j<(Qz++[x]).length:=(List.getElem?_eq_some_iff.1 hj).1;simp at hjl;rcases LJ j Qz.length with Xp|hge
  ·rw[Ly (by omega)]at hi;rw[Ly Xp]at hj;exact aw Qz _ 0 d2 i j r y ay hi hj htd
  ·have:j=Qz.length:=by omega
   rw[this,LB];exact d4 i (by omega)
 have hk2:∀(i:Nat) r,(Qz++[x])[i]? =some r->i+1<ops.size->Sl P B ops r:=by
  intro i r hr hi;rw[Ly (by omega)]at hr;exact hk r (Lp hr)
 have eR:Y9 (Qz++[x])=Y9 Qz++R:=by simp[Y9,x]
 have eW:Uc (Qz++[x])=Uc Qz++W:=by simp[Uc,x]
 refine⟨hsh1.trans RZ,fun S μ w fr cs Z QE hB hS hf XJ hR=> ?_⟩;obtain⟨a,b,d⟩:=XJ.running hm;rw[ht]at d;obtain⟨L',e,hL⟩:=d.code;obtain⟨μ',A',w',l,v',hp,hT,hv,ZB⟩:=kI Zl VE hk2 (fun i hi=>by rw[ZA];exact d4 i (by omega)) (x:=x) (v:=v) (by rw[ZA];exact hat) hdo Yh QE hS (by rw[eR];exact hR) hf hB (fr:=fr) (cs:=cs) (id:=id) (k:=L') a b e;rw[eW]at hp;exact⟨{Xu fr A' ops ((ops.size-1)::l) L' with mode:=.panicking [{v:=v',recovered:=false}]},w',μ',hp,⟨XJ.fn,hT,(fun h=>by cases h),XJ.defers.mono (hp.mu hf),.Wn hv,XJ.kind,XJ.round.mono (hp.mu hf)⟩,rfl,rfl,ZB⟩
theorem DfB.app{Z:Bot}{μ:Mu}{a b:List Nat}{a' b':List Deferred}(h:DfR μ a a')(k:DfB Z μ b b'):DfB Z μ (a++b) (a'++b'):=by
 obtain⟨L,h1,h2⟩:=k;subst h2;rw[<-LY];refine⟨_, ?_,rfl⟩;induction h with
 |nil=>exact h1
 |cons h _ ih=>exact .cons h ih
theorem qP{μ:Mu}{T:Tm}{A:Array Value}(h:TR μ T A):VRs μ (ju T) A:=by
 refine⟨by simp[ju,h.1],fun i v v' hv ZX=> ?_⟩;have hi:i<T.len:=by
  have:=(Array.getElem?_eq_some_iff.1 hv).1;simpa[ju]using this
 have e1:v=Zc T i:=by simpa[ju,hi]using hv.symm
 have e2:A.getD i undef=v':=by simp[ZX]
 rw[e1,<-e2];exact h.2 i
theorem As{H:Qq}{f:Value}{args xs:Array Value}{g:FuncId}{R:List Nat}(h:Si F H f args=some (.enter g xs,R)):R=[]:=by
 unfold Si at h;split at h
 ·have:=ZN h;simp only[YR]at this;exact this.2.symm
 ·split at h
  ·have:=ZN h;simp only[YR]at this;cases this.1
  ·cases h
 ·cases h
theorem bQ{ps:Array Tmp}{assign body:Code}{H1:Qq}{l:Nat}{ds R1:List Nat}(hu:Under H n)(h:Ki c H n ps assign body=some (H1,l,ds,R1)):
 Shape H n H1 (l+1) R1 []/\∀(S:Nat->Prop) (μ:Mu) (w:World) (fr:Frame),Ok B S μ (Qt H) w->B.has w->(∀i,S i->i<n)->P4 μ n (l+1)->fr.fn=c.fn->TR μ c.tmps fr.tmps->RoR μ c.roundOf fr.roundOf->(∀i∈R1,i<n->S i)->
  ∃mark w1 μ1 im,(Instr.enterLoop fr.fn fr.tmps ps assign body fr.roundOf).run P w=.ok (im.Zu,mark) w1/\μ1 l=some im/\Post B S n (l+1) [] μ μ1 H H1 w w1/\DfR μ1 ds mark:=by
 unfold Ki at h;split at h
 ·rename_i hr;simp only[YO,YR]at h;obtain⟨rfl,rfl,rfl,rfl⟩:=h;refine⟨(Shape.new H n _ []).trans (Shape.new _ (n+1) _ []),fun S μ w fr QE hB hS hf hfn ht ax hR=> ?_⟩;have ax:fr.roundOf=none:=by
   rw[hr]at ax;cases hq:fr.roundOf with
   |none=>rfl
   |some x=>rw[hq]at ax;exact ax.elim
  have p1:=Post.alloc QE hB.le hS (hf n (by omega) (by omega)) (.deferred (some [])) (.deferred (some [])) 0 ⟨rfl,heap_alloc _ _,.inl rfl⟩;have JZ:upd μ n ⟨w.heap.size,0,0,true,aG⟩ (n+1)=none:=by
   rw[p1.ext (n+1) (by omega)];exact hf (n+1) (by omega) (by omega)
  have p2:=Post.alloc (n:=n+1) p1.ok (Nat.le_trans hB.le p1.grow) (fun i hi=>hi.elim (fun e=>by have:=hS i e;omega) (fun e=>e.2)) JZ
   (.loop ⟨.ready,none,c.fn,ju c.tmps,ps,assign,body,n⟩) (.loop ⟨.ready,none,fr.fn,fr.tmps,ps,assign,body,w.heap.size⟩) 0
   ⟨rfl,fr.tmps,w.heap.size,by rw[hfn];exact heap_alloc _ _,qP (ht.mono ((p1.mu (fun q a b=>hf q a (by omega))).trans (Yu JZ)))⟩
  refine⟨[{target:=.collected w.heap.size,args:=#[]}],_,_,_, ?_,X3,p1.trans p2, ?_⟩
  ·rw[ax,run_enterLoop_outer];rw[show(w.alloc (.deferred (some []))).heap.size=w.heap.size+1 by simp]
  ·refine .cons (im:=⟨w.heap.size,0,0,true,aG⟩) ?_ .nil;exact Yu JZ _ _ X3
 ·rename_i l0 hr;split at h
  ·rename_i r hg;simp only[YO,YR]at h;obtain⟨rfl,rfl,rfl,rfl⟩:=h;refine⟨Shape.new H n _ [l0],fun S μ w fr QE hB hS hf hfn ht ax hR=> ?_⟩;obtain⟨im,QJ,ZU⟩:=QE.rel l0 _ (hR l0 (by simp) (hu.lt hg)) hg trivial;obtain⟨_,tm,df,hw,_⟩:=ZU;have ax:fr.roundOf=some im.Zu:=by
    rw[hr]at ax;cases hq:fr.roundOf with
    |none=>rw[hq]at ax;exact ax.elim
    |some x=>
     rw[hq]at ax;obtain⟨ZD,QN,hx⟩:=ax;rw[QJ]at QN;cases QN;rw[hx]
   have JZ:=hf n (by omega) (by omega);have p1:=Post.alloc QE hB.le hS JZ (.loop ⟨.ready,none,c.fn,ju c.tmps,ps,assign,body,n⟩) (.loop ⟨.ready,none,fr.fn,fr.tmps,ps,assign,body,df⟩) 0
    ⟨rfl,fr.tmps,df,by rw[hfn];exact heap_alloc _ _,qP (ht.mono (Yu JZ))⟩
   refine⟨[],_,_,_, ?_,X3,p1,.nil⟩;rw[ax,run_enterLoop_inner hw]
  ·cases h
theorem m5{fr:Frame}{cs:List Frame}{w w1:World}{f:Operand}{ps:Array Tmp}{assign body:Code}{k:List Item}{l:Nat}{mark:List Deferred}{g:FuncId}{args:Array Value}(hm:fr.mode=.run)(ht:fr.todo=.code (.rangeFunc f ps assign body)::k)
 (he:(Instr.enterLoop fr.fn fr.tmps ps assign body fr.roundOf).run P w=.ok (l,mark) w1) (hc:(do let d <-Deferred.ofValue (fr.eval f) #[.func (.yield l) #[] #[]];invoke d.target d.args:Sem Next).run P w1=.ok (.enter g args) w1):
 step P (lone fr cs w)=.next (lone (Frame.enter P g args .normal) ({fr with todo:=.inRangeFunc l::k,defers:=mark++fr.defers}::cs) w1):=by
 refine step_lone_go ?_;have XT:({fr with todo:=.inRangeFunc l::k,defers:=mark++fr.defers}:Frame).eval=fr.eval:=by funext x;cases x <;> rfl
 have hres:resolve fr.eval {callee:=.value f,args:=#[.const (.func (.yield l) #[] #[])],argTypes:=#[]} 0=Deferred.ofValue (fr.eval f) #[.func (.yield l) #[] #[]]:=by simp[resolve,Frame.eval]
 rw[hm]at XT;rw[Sem.run_bind]at hc;simp[stepG,stepG.exec,hm,ht,Sem.runT_eq,he,GStep.bare_after,stepG.apply,XT,hres,Sem.run_bind,hc]
end
end Go.CE
