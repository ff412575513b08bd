/- CE: regions. Fourth part: whole regions, in any order and in the text's. -/
import Derived.Test.YtncjjangllkokaaZRB02
import Derived.RangeFuncRecord
import Derived.Tactics
import Derived.RangeFuncNested
set_option linter.all false
open List renaming mem_cons_of_mem->Lj,mem_of_getElem? ->Lk,range->Le,mem_append_right->Lt,mem_append_left->Lg,length_cons->Lr,range'->Ly,getElem?_cons_zero->Lq,getElem?_append_left->Lz,getElem?_map->Lx,length->Ld,getElem?_append_right->Lp
open Nat renaming zero_add->Lv,strongRecOn->LB,le_refl->Lw,lt_or_ge->LF,beq->Lf,ble->LI,blt->Ll,ble_eq_true_of_le->LC
open Option renaming map_some->LG
open Array renaming getElem?_toList->Lm
namespace Go.CE
open Go Go.RowKit

theorem ij{α:Type}{p q:α->Bool}:∀(l:List α),(∀x∈l,p x=true->q x=true)->(∃x∈l,q x=true/\p x=false)->l.countP p<l.countP q
 |[],_,h=>by obtain⟨x,hx,_⟩:=h;simp at hx
 |a::l,hpq,h=>by
  obtain⟨x,hx,h1,h2⟩:=h;have hm:l.countP p<=l.countP q:=List.countP_mono_left fun y hy hp=>hpq y (Lj _ hy) hp
  rcases List.mem_cons.1 hx with rfl|hx
  ·rw[List.countP_cons,List.countP_cons,h1,h2];simp;omega
  ·have:=ij l (fun y hy=>hpq y (Lj _ hy)) ⟨x,hx,h1,h2⟩;have ha:=hpq a (by simp);rw[List.countP_cons,List.countP_cons];cases hp:p a with
   |true=>rw[ha hp];simp;omega
   |false=>simp;omega
section
variable {P:Program} {B:Lo} {ops:Array Oper} {Qs:List Rec} {bs:List (List Nat)} {T:Tm} {H:Qm} {n:Nat} {T':Tm} {H':Qm} {n':Nat}
def Uh(Qs:List Rec):List Nat:=Qs.flatMap (·.W)
def Yn(Qs:List Rec):List Nat:=Qs.flatMap (·.R)
theorem Bj(h:Setup P B ops Qs bs T H n T' H' n'){S:Nat->Prop}{μ0 μ:Mu}{w0 w:World}{D:Nat->Bool}(hpg:PG B S (tW Qs D) (WD Qs n D) μ0 μ (Qq H) (gD Qs H D) w0 w)(hD:∀k,k<ops.size->D k=true)(hS:∀i,S i->i<n):
 Post B S n n' (Uh Qs) μ0 μ H H' w0 w:=by
 have R9:=JJ Qs T H n T' H' n' h.chain h.Rx;have dk:∀(k:Nat) (r:Rec),Qs[k]? =some r->D k=true:=fun k r hk=>hD k (by rw[<-h.len];exact(List.getElem?_eq_some_iff.1 hk).1)
 refine PG.post (New:=tW Qs D) (hpg.congr (fun _=>Iff.rfl) (fun i=> ?_) (fun i=> ?_)) (fun i=> ?_) R9.1 hS
 ·constructor
  ·rintro⟨a,q,r,_,b,c⟩;exact⟨List.mem_flatMap.2 ⟨r,Lk b,c⟩,a⟩
  ·rintro⟨a,b⟩;obtain⟨r,hr,hw⟩:=List.mem_flatMap.1 a;obtain⟨q,hq⟩:=List.getElem?_of_mem hr;exact⟨b,q,r,dk q r hq,hq,hw⟩
 ·rw[(db (len:=T.len) i Qs 0 T H n T' H' n' h.chain h.Rx).2];refine Wx _ _ _ fun q y hy=> ?_
  obtain⟨r,hr,_⟩:=kA hy;rw[Lv];exact dk q r hr
 ·constructor
  ·rintro⟨q,r,_,b,c,d⟩;have:=R9.2.1 r (Lk b);omega
  ·rintro⟨a,b⟩;obtain⟨q,r,hq,c,d⟩:=R9.2.2.2 i a b;exact⟨q,r,dk q r hq,hq,c,d⟩
theorem Inv.full(h:Setup P B ops Qs bs T H n T' H' n'){S:Nat->Prop}{μ0 μ:Mu}{w0 w:World}{D:Nat->Bool}{A:Array Value}(hi:Inv B Qs T H n S μ0 w0 D μ A w)(hD:∀k,k<ops.size->D k=true)(hS:∀i,S i->i<n):
 Post B S n n' (Uh Qs) μ0 μ H H' w0 w/\TR μ T' A:=by
 have R9:=JJ Qs T H n T' H' n' h.chain h.Rx;have dk:∀(k:Nat) (r:Rec),Qs[k]? =some r->D k=true:=fun k r hk=>hD k (by rw[<-h.len];exact(List.getElem?_eq_some_iff.1 hk).1)
 constructor
 ·exact Bj h hi.pg hD hS
 ·have hl:=(K2 (len:=T.len) 0 Qs 0 T H n T' H' n' h.chain h.Rx rfl).2.1;refine⟨by rw[hl,hi.size],fun t=> ?_⟩;rw[(K2 (len:=T.len) t Qs 0 T H n T' H' n' h.chain h.Rx rfl).2.2];have:=hi.tmps t;rw[show tD Qs T D t=Kc (fun _=>true) (Qs.map (cT t)) 0 (Xx T t)from ?_]at this
  ·exact this
  ·refine Wx _ _ _ fun q y hy=> ?_
   obtain⟨r,hr,_⟩:=k8 hy;rw[Lv];exact dk q r hr
theorem QaW(h:Setup P B ops Qs bs T H n T' H' n')(hk:∀r∈Qs,Rv P B ops r){S:Nat->Prop}{μ0:Mu}{w0:World}(hS:∀i,S i->i<n)(hR:∀r∈Qs,∀i∈r.R,i<n->S i)(Vx:JL μ0 n n')(hB:B.has w0)(hok0:Ok B S μ0 (Qq H) w0){fr:Frame}{cs:List Frame}{k:List Item}(hm:fr.mode=.run):
 ∀(fuel t:Nat) (listed:Array Bool) (μ:Mu) (A:Array Value) (w:World),listed.size=ops.size->UC ops (fun i=>listed.getD i false)->(Le ops.size).countP (fun i=> !listed.getD i false)<=fuel->Inv B Qs T H n S μ0 w0 (fun i=>listed.getD i false) μ A w->
  ∃μ' A' w',Post B S n n' (Uh Qs) μ0 μ' H H' w0 w'/\TR μ' T' A'/\Steps P (lone (Xe fr A ops (Region.linearise.go .any ops fuel t listed []) k) cs w) (lone {fr with tmps:=A',todo:=k} cs w'):=by
 have done:∀(listed:Array Bool) (μ:Mu) (A:Array Value) (w:World),Inv B Qs T H n S μ0 w0 (fun i=>listed.getD i false) μ A w->(∀k,k<ops.size->listed.getD k false=true)->
  ∃μ' A' w',Post B S n n' (Uh Qs) μ0 μ' H H' w0 w'/\TR μ' T' A'/\Steps P (lone (Xe fr A ops [] k) cs w) (lone {fr with tmps:=A',todo:=k} cs w'):=by
  intro listed μ A w hi Uc;obtain⟨h1,h2⟩:=hi.full h Uc hS;exact⟨μ,A,w,h1,h2,.one (Vj hm)⟩
 intro fuel;induction fuel with
 |zero=>
  intro t listed μ A w hl hc hcnt hi;have hz:∀q∈Le ops.size,¬(!listed.getD q false)=true:=List.countP_eq_zero.1 (by omega);simp only[Region.linearise.go,List.reverse_nil];exact done listed μ A w hi fun q hq=>by simpa using hz q (List.mem_range.2 hq)
 |succ fuel ih=>
  intro t listed μ A w hl hc hcnt hi;simp only[Region.linearise.go];change ∃μ' A' w',_/\_/\Steps P (lone (Xe fr A ops (match(Region.ready .any ops listed)[t % (Region.ready .any ops listed).length]? with
   |some i=>Region.linearise.go .any ops fuel (t / (Region.ready .any ops listed).length) (listed.setIfInBounds i true) [i]
   |none=>[].reverse) k) cs w) _
  have gtrue:∀q,q<ops.size->listed.getD q true=listed.getD q false:=by
   intro q hq;have:q<listed.size:=by omega
   simp[this]
  cases hi0:(Region.ready .any ops listed)[t % (Region.ready .any ops listed).length]? with
  |none=>
   have hnil:Region.ready .any ops listed=[]:=by
    cases hr:Region.ready .any ops listed with
    |nil=>rfl
    |cons x xs=>
     rw[hr]at hi0;have Xi:t % (x::xs).length<(x::xs).length:=Nat.mod_lt _ (by simp);simp at hi0;simp at Xi;omega
   have Uc:∀q,q<ops.size->listed.getD q false=true:=by
    intro q;induction q using LB with
    |_ q ihq=>
     intro hq;cases hd:listed.getD q false with
     |true=>rfl
     |false=>
      have:q∈Region.ready .any ops listed:=by
       rw[mem_ready];refine⟨by rw[gtrue q hq];exact hd,ops[q],by simp[hq],fun e he hb=> ?_⟩;have Xi:=h.edge q ops[q] (by simp[hq]) e he hb;exact ihq e.on Xi (by omega)
      rw[hnil]at this;cases this
   simp only[List.reverse_nil];exact done listed μ A w hi Uc
  |some j=>
   have hmem:=Lk hi0;obtain⟨hj1,o,ho,hj2⟩:=mem_ready.1 hmem;have hjlt:j<ops.size:=(Array.getElem?_eq_some_iff.1 ho).1;have hjf:listed.getD j false=false:=by rw[<-gtrue j hjlt];exact hj1
   simp only[];rw[linearise_go_acc,List.reverse_singleton,List.singleton_append];have hready:∀o',ops[j]? =some o'->∀e∈o'.after,Region.binds .any e=true->listed.getD e.on false=true:=fun o' Ko=>by rw[ho]at Ko;cases Ko;exact hj2
   obtain⟨μ1,A1,w1,hi1,hs1⟩:=yp h hS hR Vx hB hok0 (D:=fun i=>listed.getD i false) hc hjlt hjf (fun x hx=>hk x (Lk hx)) hready hi (cs:=cs) (l:=Region.linearise.go .any ops fuel (t / (Region.ready .any ops listed).length) (listed.setIfInBounds j true) []) (k:=k) hm;have heq:(fun i=>(listed.setIfInBounds j true).getD i false)=plus (fun i=>listed.getD i false) j:=by
    funext q;by_cases e:q=j
    ·subst e;rw[Vm];simp[show q<listed.size by omega]
    ·rw[V7 e,getD_set_ne false (Ne.symm e)]
   have hc1:UC ops (fun i=>(listed.setIfInBounds j true).getD i false):=by
    intro q o' hq Ko e he hb;rw[heq]at hq;by_cases eq:q=j
    ·subst eq;exact getD_set_true (hready o' Ko e he hb)
    ·rw[V7 eq]at hq;exact getD_set_true (hc q o' hq Ko e he hb)
   obtain⟨μ2,A2,w2,h1,h2,h3⟩:=ih (t / (Region.ready .any ops listed).length) (listed.setIfInBounds j true) μ1 A1 w1 (by simpa using hl) hc1 (by
    have:(Le ops.size).countP (fun i=> !(listed.setIfInBounds j true).getD i false)<(Le ops.size).countP (fun i=> !listed.getD i false):=by
     refine ij _ (fun q _ hq=> ?_) ⟨j,List.mem_range.2 hjlt,by simpa using hjf, ?_⟩
     ·have e2:=congrFun heq q;rw[e2]at hq;by_cases e:q=j
      ·subst e;rw[Vm]at hq;cases hq
      ·rw[V7 e]at hq;exact hq
     ·have e2:=congrFun heq j;rw[e2,Vm];rfl
    omega) (by rw[heq];exact hi1)
   exact⟨μ2,A2,w2,h1,h2,hs1.trans h3⟩
theorem NS(h:Setup P B ops Qs bs T H n T' H' n')(hk:∀(i:Nat) r,Qs[i]? =some r->i+1<ops.size->Rv P B ops r)(hpos:0<ops.size)(hlast:∀i,i+1<ops.size->i∈bs.getD (ops.size-1) []){S:Nat->Prop}{μ0:Mu}{w0:World}(hS:∀i,S i->i<n)(hR:∀r∈Qs,∀i∈r.R,i<n->S i)(Vx:JL μ0 n n')(hB:B.has w0)(hok0:Ok B S μ0 (Qq H) w0){fr:Frame}{cs:List Frame}{k:List Item}(hm:fr.mode=.run):
 ∀(fuel t:Nat) (listed:Array Bool) (μ:Mu) (A:Array Value) (w:World),listed.size=ops.size->UC ops (fun i=>listed.getD i false)->(Le ops.size).countP (fun i=> !listed.getD i false)<=fuel->listed.getD (ops.size-1) false=false->Inv B Qs T H n S μ0 w0 (fun i=>listed.getD i false) μ A w->
  ∃l μ' A' w',Inv B Qs T H n S μ0 w0 (fun i=>decide (i+1<ops.size)) μ' A' w'/\Steps P (lone (Xe fr A ops (Region.linearise.go .any ops fuel t listed []) k) cs w) (lone (Xe fr A' ops ((ops.size-1)::l) k) cs w'):=by
 intro fuel;induction fuel with
 |zero=>
  intro t listed μ A w hl hc hcnt hun hi;have hz:∀q∈Le ops.size,¬(!listed.getD q false)=true:=List.countP_eq_zero.1 (by omega);exact absurd (hz (ops.size-1) (List.mem_range.2 (by omega))) (by simp only[hun];decide)
 |succ fuel ih=>
  intro t listed μ A w hl hc hcnt hun hi;simp only[Region.linearise.go];change ∃l μ' A' w',_/\Steps P (lone (Xe fr A ops (match(Region.ready .any ops listed)[t % (Region.ready .any ops listed).length]? with
   |some i=>Region.linearise.go .any ops fuel (t / (Region.ready .any ops listed).length) (listed.setIfInBounds i true) [i]
   |none=>[].reverse) k) cs w) _
  have gtrue:∀q,q<ops.size->listed.getD q true=listed.getD q false:=by
   intro q hq;have:q<listed.size:=by omega
   simp[this]
  cases hi0:(Region.ready .any ops listed)[t % (Region.ready .any ops listed).length]? with
  |none=>
   have hnil:Region.ready .any ops listed=[]:=by
    cases hr:Region.ready .any ops listed with
    |nil=>rfl
    |cons x xs=>
     rw[hr]at hi0;have Xi:t % (x::xs).length<(x::xs).length:=Nat.mod_lt _ (by simp);simp at hi0;simp at Xi;omega
   have Uc:∀q,q<ops.size->listed.getD q false=true:=by
    intro q;induction q using LB with
    |_ q ihq=>
     intro hq;cases hd:listed.getD q false with
     |true=>rfl
     |false=>
      have:q∈Region.ready .any ops listed:=by
       rw[mem_ready];refine⟨by rw[gtrue q hq];exact hd,ops[q],by simp[hq],fun e he hb=> ?_⟩;have Xi:=h.edge q ops[q] (by simp[hq]) e he hb;exact ihq e.on Xi (by omega)
      rw[hnil]at this;cases this
   exact absurd (Uc (ops.size-1) (by omega)) (by rw[hun];decide)
  |some j=>
   have hmem:=Lk hi0;obtain⟨hj1,o,ho,hj2⟩:=mem_ready.1 hmem;have hjlt:j<ops.size:=(Array.getElem?_eq_some_iff.1 ho).1;have hjf:listed.getD j false=false:=by rw[<-gtrue j hjlt];exact hj1
   simp only[];rw[linearise_go_acc,List.reverse_singleton,List.singleton_append];have hready:∀o',ops[j]? =some o'->∀e∈o'.after,Region.binds .any e=true->listed.getD e.on false=true:=fun o' Ko=>by rw[ho]at Ko;cases Ko;exact hj2
   by_cases hjl:j=ops.size-1
   ·have heq:(fun i=>listed.getD i false)=fun i=>decide (i+1<ops.size):=by
     funext q;by_cases hq:q+1<ops.size
     ·have:=pc h hc (k:=j) hready q (by rw[hjl];exact hlast q hq);rw[this];simp[hq]
     ·by_cases hq2:q=ops.size-1
      ·rw[hq2,hun];simp;omega
      ·have:¬q<listed.size:=by omega
       simp[this,hq]
    rw[heq]at hi;refine⟨Region.linearise.go .any ops fuel (t / (Region.ready .any ops listed).length) (listed.setIfInBounds j true) [],μ,A,w,hi, ?_⟩;rw[<-hjl];exact Steps.refl _ _
   ·have hjs:j+1<ops.size:=by omega
    obtain⟨μ1,A1,w1,hi1,hs1⟩:=yp h hS hR Vx hB hok0 (D:=fun i=>listed.getD i false) hc hjlt hjf (fun x hx=>hk j x hx hjs) hready hi (cs:=cs) (l:=Region.linearise.go .any ops fuel (t / (Region.ready .any ops listed).length) (listed.setIfInBounds j true) []) (k:=k) hm;have heq:(fun i=>(listed.setIfInBounds j true).getD i false)=plus (fun i=>listed.getD i false) j:=by
     funext q;by_cases e:q=j
     ·subst e;rw[Vm];simp[show q<listed.size by omega]
     ·rw[V7 e,getD_set_ne false (Ne.symm e)]
    have hc1:UC ops (fun i=>(listed.setIfInBounds j true).getD i false):=by
     intro q o' hq Ko e he hb;rw[heq]at hq;by_cases eq:q=j
     ·subst eq;exact getD_set_true (hready o' Ko e he hb)
     ·rw[V7 eq]at hq;exact getD_set_true (hc q o' hq Ko e he hb)
    obtain⟨l2,μ2,A2,w2,h1,h3⟩:=ih (t / (Region.ready .any ops listed).length) (listed.setIfInBounds j true) μ1 A1 w1 (by simpa using hl) hc1 (by
     have:(Le ops.size).countP (fun i=> !(listed.setIfInBounds j true).getD i false)<(Le ops.size).countP (fun i=> !listed.getD i false):=by
      refine ij _ (fun q _ hq=> ?_) ⟨j,List.mem_range.2 hjlt,by simpa using hjf, ?_⟩
      ·have e2:=congrFun heq q;rw[e2]at hq;by_cases e:q=j
       ·subst e;rw[Vm]at hq;cases hq
       ·rw[V7 e]at hq;exact hq
      ·have e2:=congrFun heq j;rw[e2,Vm];rfl
     omega) (by have e3:=congrFun heq (ops.size-1);rw[e3,V7 (Ne.symm hjl)];exact hun) (by rw[heq];exact hi1)
    exact⟨l2,μ2,A2,w2,h1,hs1.trans h3⟩
theorem iE(XP:P.follows .mixedOrders=true)(h:Setup P B ops Qs bs T H n T' H' n')(hk0:∀r∈Qs,Rv P B ops r){S:Nat->Prop}{μ:Mu}{w:World}(Q7:Ok B S μ (Qq H) w)(hS:∀i,S i->i<n)(hR:∀i∈Yn Qs,i<n->S i)(Vx:JL μ n n')(hB:B.has w){fr:Frame}{cs:List Frame}{id:Nat}{k:List Item}
 (hm:fr.mode=.run) (ht:TR μ T fr.tmps) (hk:fr.todo=.code (.region id ops true)::k):
 ∃μ' A' w',Post B S n n' (Uh Qs) μ μ' H H' w w'/\TR μ' T' A'/\Steps P (lone fr cs w) (lone {fr with tmps:=A',todo:=k} cs w'):=by
 let w1:World:={w with drawn:=w.drawn+1}
 have hw1:Ok B S μ (Qq H) w1:=⟨fun i o a b c=>let⟨im,x,y⟩:=Q7.rel i o a b c;⟨im,x,y.keep (Ext.refl _) rfl⟩,Q7.low,Q7.inj,Q7.Jv,Q7.sep⟩
 have hstep:step P (lone fr cs w)=.next (lone (Xe fr fr.tmps ops (Region.schedule (P.follows .mixedOrders) ops (w.tape w.drawn (.order fr.fn id))) k) cs w1):=
  step_lone_go (by simp[stepG,stepG.exec,Xe,hm,hk,choose,Sem.run,Question.forced,Question.cut,w1])
 have hsch:Region.schedule (P.follows .mixedOrders) ops (w.tape w.drawn (.order fr.fn id))=Region.linearise .any ops (w.tape w.drawn (.order fr.fn id)):=by
  simp[Region.schedule,XP]
 rw[hsch]at hstep;have hrep:∀i,(Array.replicate ops.size false).getD i false=false:=by
  intro i;by_cases hi:i<ops.size <;> simp[hi]
 have hinv:Inv B Qs T H n S μ w1 (fun i=>(Array.replicate ops.size false).getD i false) μ fr.tmps w1:=by
  refine⟨(PG.refl hw1).congr (fun i=>⟨False.elim, ?_⟩) (fun i=>⟨False.elim, ?_⟩) (fun i=> ?_),ht.1.symm,fun t=> ?_⟩
  ·rintro⟨q,r,a,_⟩;exact absurd ((hrep q).symm.trans a) (by simp)
  ·rintro⟨_,q,r,a,_⟩;exact absurd ((hrep q).symm.trans a) (by simp)
  ·exact(U5 _ _ _ fun q x _=>hrep _).symm
  ·rw[show tD Qs T (fun i=>(Array.replicate ops.size false).getD i false) t=Xx T t from U5 _ _ _ fun q x _=>hrep _];exact ht.2 t
 obtain⟨μ',A',w',h1,h2,h3⟩:=QaW h hk0 (w0:=w1) hS (fun r hr i hi=>hR i (List.mem_flatMap.2 ⟨r,hr,hi⟩)) Vx ⟨hB.le,B.still w w1 (fun _ _=>rfl) hB.inv⟩ hw1 (fr:=fr) (cs:=cs) (k:=k) hm ops.size (w.tape w.drawn (.order fr.fn id)) (Array.replicate ops.size false) μ fr.tmps w1 (by simp)
  (fun q o a=>absurd ((hrep q).symm.trans a) (by simp)) (by
   have:=List.countP_le_length (p:=fun i=> !(Array.replicate ops.size false).getD i false) (l:=Le ops.size);simpa using this) hinv
 exact⟨μ',A',w',⟨h1.ok,h1.le,h1.ext,h1.keep,h1.grow,h1.frame,h1.wr,h1.fresh,h1.rf,h1.os,h1.tape,h1.output⟩,h2,.head hstep h3⟩
theorem jx(XP:P.follows .mixedOrders=true)(h:Setup P B ops Qs bs T H n T' H' n')(hk0:∀(i:Nat) r,Qs[i]? =some r->i+1<ops.size->Rv P B ops r)(hlast:∀i,i+1<ops.size->i∈bs.getD (ops.size-1) []){x:Rec}{v:Value}(hx:Qs[ops.size-1]? =some x)(hdo:SN P B x.o (XV x.T) x.H x.n (.ZB v) x.H' x.n' x.R x.W)(UO:Region.wanted x.o (XI ops x.T)=true){S:Nat->Prop}{μ:Mu}{w:World}(Q7:Ok B S μ (Qq H) w)(hS:∀i,S i->i<n)(hR:∀i∈Yn Qs,i<n->S i)(Vx:JL μ n n')(hB:B.has w){fr:Frame}{cs:List Frame}{id:Nat}{k:List Item}
 (hm:fr.mode=.run) (ht:TR μ T fr.tmps) (hk:fr.todo=.code (.region id ops true)::k):
 ∃μ' A' w' l v',Post B S n n' (Uh Qs) μ μ' H H' w w'/\TR μ' x.T A'/\VR μ' v v'/\Steps P (lone fr cs w) (lone {Xe fr A' ops ((ops.size-1)::l) k with mode:=.panicking [{v:=v',recovered:=false}]} cs w'):=by
 have hpos:0<ops.size:=by have:=(List.getElem?_eq_some_iff.1 hx).1;rw[h.len]at this;omega
 let w1:World:={w with drawn:=w.drawn+1}
 have hw1:Ok B S μ (Qq H) w1:=⟨fun i o a b c=>let⟨im,x,y⟩:=Q7.rel i o a b c;⟨im,x,y.keep (Ext.refl _) rfl⟩,Q7.low,Q7.inj,Q7.Jv,Q7.sep⟩
 have hstep:step P (lone fr cs w)=.next (lone (Xe fr fr.tmps ops (Region.schedule (P.follows .mixedOrders) ops (w.tape w.drawn (.order fr.fn id))) k) cs w1):=
  step_lone_go (by simp[stepG,stepG.exec,Xe,hm,hk,choose,Sem.run,Question.forced,Question.cut,w1])
 have hsch:Region.schedule (P.follows .mixedOrders) ops (w.tape w.drawn (.order fr.fn id))=Region.linearise .any ops (w.tape w.drawn (.order fr.fn id)):=by
  simp[Region.schedule,XP]
 rw[hsch]at hstep;have hrep:∀i,(Array.replicate ops.size false).getD i false=false:=by
  intro i;by_cases hi:i<ops.size <;> simp[hi]
 have hinv:Inv B Qs T H n S μ w1 (fun i=>(Array.replicate ops.size false).getD i false) μ fr.tmps w1:=by
  refine⟨(PG.refl hw1).congr (fun i=>⟨False.elim, ?_⟩) (fun i=>⟨False.elim, ?_⟩) (fun i=> ?_),ht.1.symm,fun t=> ?_⟩
  ·rintro⟨q,r,a,_⟩;exact absurd ((hrep q).symm.trans a) (by simp)
  ·rintro⟨_,q,r,a,_⟩;exact absurd ((hrep q).symm.trans a) (by simp)
  ·exact(U5 _ _ _ fun q x _=>hrep _).symm
  ·rw[show tD Qs T (fun i=>(Array.replicate ops.size false).getD i false) t=Xx T t from U5 _ _ _ fun q x _=>hrep _];exact ht.2 t
 have hRR:∀r∈Qs,∀i∈r.R,i<n->S i:=fun r hr i hi=>hR i (List.mem_flatMap.2 ⟨r,hr,hi⟩)
 have hB1:B.has w1:=⟨hB.le,B.still w w1 (fun _ _=>rfl) hB.inv⟩
 obtain⟨l,μ1,A1,w2,h1,h3⟩:=NS h hk0 hpos hlast (w0:=w1) hS (fun r hr i hi=>hR i (List.mem_flatMap.2 ⟨r,hr,hi⟩)) Vx ⟨hB.le,B.still w w1 (fun _ _=>rfl) hB.inv⟩ hw1 (fr:=fr) (cs:=cs) (k:=k) hm ops.size (w.tape w.drawn (.order fr.fn id)) (Array.replicate ops.size false) μ fr.tmps w1 (by simp)
  (fun q o a=>absurd ((hrep q).symm.trans a) (by simp)) (by
   have:=List.countP_le_length (p:=fun i=> !(Array.replicate ops.size false).getD i false) (l:=Le ops.size);simpa using this) (hrep _) hinv
 have hcl:UC ops (fun i=>decide (i+1<ops.size)):=by
  intro q o hq ho e he hb;have:=h.edge q o ho e he hb;simp only[decide_eq_true_eq]at hq ⊢;omega
 obtain⟨XW,μ',w',hpg,hext,ZQ,XZ⟩:=yq h hS hRR Vx hB1 hw1 hcl (j:=ops.size-1) (by simp;omega) (fun o ho e he hb=>by
  have:=h.edge _ o ho e he hb;simp only[decide_eq_true_eq];omega) h1 (fr:=fr) (cs:=cs) (l:=l) (k:=k) hm hx hdo UO
 have hp:=Bj h hpg (fun q hq=>by
  by_cases e:q=ops.size-1
  ·rw[e];exact Vm
  ·rw[V7 e];simp only[decide_eq_true_eq];omega) hS
 have R9:=JJ Qs T H n T' H' n' h.chain h.Rx;have hT:TR μ1 x.T A1:=by
  have hl:=((K2 (len:=T.len) 0 Qs 0 T H n T' H' n' h.chain h.Rx rfl).1 _ x hx).1;refine⟨by rw[hl,h1.size],fun t=> ?_⟩;have hq:=((K2 (len:=T.len) t Qs 0 T H n T' H' n' h.chain h.Rx rfl).1 _ x hx).2;rw[hq];have:=h1.tmps t;rw[show tD Qs T (fun i=>decide (i+1<ops.size)) t=Kc (fun q=>decide (q<0+(ops.size-1))) (Qs.map (cT t)) 0 (Xx T t)from ?_]at this
  ·exact this
  ·refine Wx _ _ _ fun q y hy=> ?_
   exact decide_eq_decide.2 (by omega)
 cases ZQ with
 |ZB hv=>
  rename_i v';refine⟨μ',A1,w',l,v',⟨hp.ok,hp.le,hp.ext,hp.keep,hp.grow,hp.frame,hp.wr,hp.fresh,hp.rf,hp.os,hp.tape,hp.output⟩, ?_,hv,.head hstep (h3.trans (XZ.trans ?_))⟩
  ·exact hT.mono hext
  ·simp only[OO.on,Frame.raise,Xe,hm];exact Steps.refl _ _
end
end Go.CE

namespace Go.CE
open Go Go.RowKit
structure Shape (H:Qm) (n:Nat) (H':Qm) (n':Nat) (R W:List Nat):Prop where
 le:n<=n'
 keep:∀i,i<n->i ∉ W->Qq H' i=Qq H i
 top:∀i,n'<=i->Qq H' i=Qq H i
 sub:∀i,i∈W->i∈R
 wlt:∀i,i∈W->i<n'
theorem Shape.same(H:Qm)(n:Nat)(R:List Nat):Shape H n H n R []:=⟨Lw _,fun _ _ _=>rfl,fun _ _=>rfl,fun _ h=>by simp at h,fun _ h=>by simp at h⟩
theorem Shape.trans{H H1 H2:Qm}{n n1 n2:Nat}{R1 R2 W1 W2:List Nat}(h:Shape H n H1 n1 R1 W1)(k:Shape H1 n1 H2 n2 R2 W2):Shape H n H2 n2 (R1++R2) (W1++W2):=by
 have:=h.le;have:=k.le;refine⟨by omega,fun i hi hw=> ?_,fun i hi=> ?_,fun i hi=> ?_,fun i hi=> ?_⟩
 ·rw[k.keep i (by omega) (fun e=>hw (Lt _ e)),h.keep i hi (fun e=>hw (Lg _ e))]
 ·rw[k.top i hi,h.top i (by omega)]
 ·exact(List.mem_append.1 hi).elim (fun e=>Lg _ (h.sub i e)) (fun e=>Lt _ (k.sub i e))
 ·exact(List.mem_append.1 hi).elim (fun e=>by have:=h.wlt i e;omega) (k.wlt i)
theorem Shape.new(H:Qm)(n:Nat)(o:Obj)(R:List Nat):Shape H n ((n,o)::H) (n+1) R []:=
 ⟨by omega,fun i hi _=>by rw[QU,if_neg (by omega)],fun i hi=>by rw[QU,if_neg (by omega)],fun _ h=>by simp at h,fun _ h=>by simp at h⟩
theorem Shape.set{H:Qm}{n b:Nat}(o:Obj)(hb:b<n):Shape H n (VE H b o) n [b] [b]:=
 ⟨Lw _,fun i _ hw=>by rw[cg,if_neg (fun e=>hw (by simp[e.1]))],fun i hi=>by rw[cg,if_neg (fun e=>by omega)],fun _ h=>h,fun _ h=>by simp at h;omega⟩
theorem Shape.moreR{H H':Qm}{n n':Nat}{R R' W:List Nat}(h:Shape H n H' n' R W)(hr:∀i,i∈W->i∈R'):Shape H n H' n' R' W:=⟨h.le,h.keep,h.top,hr,h.wlt⟩
def Under(H:Qm)(n:Nat):Prop:=∀i,n<=i->Qq H i=none
theorem Under.lt{H:Qm}{n i:Nat}{o:Obj}(h:Under H n)(hg:Qq H i=some o):i<n:=by
 rcases LF i n with hl|hl
 ·exact hl
 ·rw[h i hl]at hg;cases hg
theorem Under.shape{H H':Qm}{n n':Nat}{R W:List Nat}(h:Under H n)(hs:Shape H n H' n' R W):Under H' n':=fun i hi=>by
 rw[hs.top i hi];exact h i (Nat.le_trans hs.le hi)
theorem p9{P:Program}{t:TypeId}{H:Qm}{n:Nat}{s x:Value}{r:CR}(hu:Under H n)(h:Ue P t H n s x=some r):Shape H n r.H r.n r.R r.W:=by
 unfold Ue at h;split at h
 ·split at h
  ·split at h
   ·split at h
    ·rename_i cs k ko ns m b hh hn;rw[<-ZO h];have hko:∀q,ko=some q->q<n:=by
      intro q hq;subst hq;have hh':=hh;unfold R8 at hh';split at hh'
      ·cases hh'
      ·split at hh'
       ·rename_i hg;have e:=(oA hg hh).2.2.2.2.2;simp only[YO]at e;rw[e];exact hu.lt hg
       ·cases hh'
      ·cases hh'
     refine⟨by simp,fun i hi hw=> ?_,fun i hi=> ?_,fun i hi=>Lj _ hi,fun i hi=> ?_⟩
     ·simp only at hw ⊢;rw[QU,if_neg (by omega),U7,if_neg];rintro⟨⟨q,rfl,rfl⟩,_⟩;exact hw (by simp)
     ·simp only at hi ⊢;rw[QU,if_neg (by omega),U7,if_neg];rintro⟨⟨q,e,rfl⟩,_⟩;have:=hko _ e;omega
     ·simp only at hi ⊢;have:=hko i (by cases ko <;> simp_all);omega
    ·cases h
   ·cases h
  ·cases h
 ·cases h
theorem AE{P:Program}{t t':TypeId}{H:Qm}{n:Nat}{s x:Value}{r:CR}(hu:Under H n)(h:yE P t t' H n s x=some r):Shape H n r.H r.n r.R r.W:=by
 unfold yE at h;cases htt:Lf t t' with
 |false=>
  rw[htt]at h;simp only[cond_false]at h;unfold rr at h;split at h
  ·split at h
   ·split at h
    ·rw[<-ZO h];exact Shape.new _ _ _ _
    ·cases h
   ·cases h
  ·cases h
 |true=>
  rw[htt]at h;simp only[cond_true]at h;split at h
  ·rename_i r0 hca;simp only[YO]at h;subst h;exact p9 hu hca
  ·unfold B3 at h;split at h
   ·split at h
    ·rw[<-ZO h];exact Shape.same _ _ _
    ·cases h
   ·cases h
theorem ik{P:Program}{F:FuncId->Bool}{o:Oper}{ev:Operand->Option Value}{H:Qm}{n:Nat}{r:CR}(hu:Under H n)(h:tB P F ev o H n=some r):Shape H n r.H r.n r.R r.W:=by
 have XQ:∀{x:Option Value},mkPure x H n=some r->Shape H n r.H r.n r.R r.W:=by
  intro x h;obtain⟨v,_,rfl⟩:=Z2 h;exact Shape.same _ _ _
 unfold tB at h;split at h
 ·exact XQ h
 ·exact XQ h
 ·split at h
  ·exact XQ h
  ·cases h
 ·split at h
  ·rw[<-ZO h];exact Shape.new _ _ _ _
  ·cases h
 ·split at h
  ·simp only[YO]at h;subst h;exact Shape.new _ _ _ _
  ·cases h
 ·split at h
  ·exact XQ h
  ·cases h
 ·split at h
  ·split at h
   ·simp only[YO]at h;subst h;exact Shape.new _ _ _ _
   ·rw[<-ZO h];exact Shape.same _ _ _
  ·cases h
 ·split at h
  ·split at h
   ·simp only[YO]at h;subst h;exact Shape.same _ _ _
   ·cases h
  ·cases h
 ·-- store
  split at h
  ·split at h
   ·rename_i H' b hb;simp only[YO]at h;subst h;unfold RC at hb;split at hb
    ·split at hb
     ·rename_i hg;split at hb
      ·have e:=ZO hb;simp only[YR]at e;obtain⟨rfl,rfl⟩:=e;exact Shape.set _ (hu.lt hg)
      ·cases hb
     ·cases hb
    ·cases hb
   ·cases h
  ·cases h
 ·split at h
  ·exact XQ h
  ·cases h
 ·split at h
  ·exact XQ h
  ·cases h
 ·split at h
  ·exact XQ h
  ·cases h
 ·split at h
  ·exact XQ h
  ·exact XQ h
 ·split at h
  ·exact XQ h
  ·cases h
 ·split at h
  ·split at h
   ·simp only[YO]at h;subst h;exact Shape.new _ _ _ _
   ·cases h
  ·cases h
 ·split at h
  ·exact XQ h
  ·exact XQ h
  ·exact XQ h
 ·rename_i t x lo hi mx ho;cases hc:cm P t (ev x) (E0 ev lo) (ev hi) (ev mx)with
  |true=>rw[hc]at h;simp only[cond_true,YO]at h;subst h;exact Shape.same _ _ _
  |false=>rw[hc]at h;exact XQ h
 ·split at h
  ·simp only[YO]at h;subst h;exact Shape.same _ _ _
  ·cases h
 ·simp only[YO]at h;subst h;exact Shape.new _ _ _ _
 ·split at h
  ·split at h
   ·simp only[YO]at h;subst h;exact Shape.same _ _ _
   ·cases h
  ·cases h
 ·-- mapUpdate
  split at h
  ·split at h
   ·rename_i H' b hb;simp only[YO]at h;subst h;unfold K3 at hb;split at hb
    ·split at hb
     ·rename_i hg;have hb:=Y8 hb;split at hb
      ·split at hb
       ·have e:=ZO hb;simp only[YR]at e;obtain⟨rfl,rfl⟩:=e;exact Shape.set _ (hu.lt hg)
       ·cases hb
      ·simp only[YO,YR]at hb;obtain⟨rfl,rfl⟩:=hb;exact Shape.set _ (hu.lt hg)
      ·cases hb
     ·cases hb
    ·cases hb
   ·cases h
  ·cases h
 ·split at h
  ·split at h
   ·simp only[YO]at h;subst h;exact Shape.same _ _ _
   ·exact XQ h
  ·cases h
 ·split at h
  ·simp only[YO]at h;subst h;exact Shape.same _ _ _
  ·simp only[YO]at h;subst h;exact Shape.same _ _ _
  ·simp only[YO]at h;subst h;exact Shape.same _ _ _
  ·cases h
 ·split at h
  ·split at h
   ·split at h
    ·-- append
     exact AE hu h
    ·cases h
   ·cases h
  ·split at h
   ·split at h
    ·simp only[YO]at h;subst h;exact Shape.same _ _ _
    ·simp only[YO]at h;subst h;exact Shape.same _ _ _
    ·exact XQ h
   ·cases h
  ·split at h
   ·split at h
    ·-- copy
     unfold yC at h;split at h
     ·split at h
      ·split at h
       ·split at h
        ·rename_i hg _;rw[<-ZO h];obtain⟨a1,a2,a3,a4,a5⟩:=Shape.set (H:=H) (n:=n) (.cells (splice _ _ _) _ (0,0)) (hu.lt hg);exact⟨a1,a2,a3,fun i hi=>by simp at hi;subst hi;simp,a5⟩
        ·cases h
       ·cases h
      ·cases h
     ·cases h
    ·cases h
   ·cases h
  ·exact XQ h
  ·split at h
   ·split at h
    ·simp only[YO]at h;subst h;exact Shape.same _ _ _
    ·cases h
   ·cases h
  ·cases h
 ·exact XQ h
end Go.CE

namespace Go.CE
open Go Go.RowKit

inductive CM where
 |run
 |ret
 |ZB (v:Value)
structure CF where
 fn:FuncId
 tmps:Tm
 todo:List Item
 defers:List Nat
 mode:CM
 roundOf:Option Nat
structure Rs where
 out:OO
 H:Qm
 n:Nat
 R:List Nat
 W:List Nat
def ofL:List Value->Nat->Tri->Tri
 |[],_,t=>t
 |v::l,i,t=>ofL l (i+1) (Tri.set 14 t i v)
def iC(T:Tm):Array Value:=((Le T.len).map (Xx T)).toArray
def ofList(len:Nat)(l:List Value):Tm:=⟨len,ofL l 0 .lf⟩
def Wi(P:Program)(f:FuncId)(args:Array Value):Option CF:=
 match nth P.funcs.toList f with
 |some fn=>match fn.body with
  |some c=>bif LI (args.size+(fn.ntmps-args.size)) 16000 then some ⟨f,ofList (args.size+(fn.ntmps-args.size)) args.toList,[.code c],[],.run,none⟩else none
  |none=>none
 |none=>none
def YG(H:Qm)(s:Rs):Rs:=
 match s.W,s.out with
 |[],.ret v=>bif af v then {s with H:=H}else s
 |_,_=>s
abbrev Vh:=FuncId->Array Value->Qm->Nat->Option Rs
def PK(P:Program)(F:FuncId->Bool)(ev:Operand->Option Value)(o:Oper)(H:Qm)(n:Nat):Option CR:=
 match tB P F ev o H n with
 |some r=>bif r.R.all (fun i=>Ll i n)then some r else none
 |none=>none
theorem oO{P:Program}{F:FuncId->Bool}{ev:Operand->Option Value}{o:Oper}{H:Qm}{n:Nat}{r:CR}(h:PK P F ev o H n=some r):tB P F ev o H n=some r/\∀q∈r.R,q<n:=by
 unfold PK at h;split at h
 ·rename_i r' hr;cases hq:r'.R.all (fun i=>Ll i n)with
  |false=>rw[hq]at h;cases h
  |true=>
   rw[<-ZO h];exact⟨hr,fun q hq'=>YL (List.all_eq_true.1 hq q hq')⟩
 ·cases h
def aN(P:Program)(F:FuncId->Bool)(Xm:Vh)(rec:CF->Qm->Nat->Option Rs)(T:Tm)(o:Oper)(H:Qm)(n:Nat):Option Rs:=
 match o.op with
 | .defer _=>none
 | .panic x=>match XV T x with
   |some (.iface t v)=>some ⟨.ZB (.iface t v),H,n,[],[]⟩
   |_=>none
 |_=>match PK P F (XV T) o H n with
  |some r=>match r.nx with
   | .val v=>some ⟨.ret v,r.H,r.n,r.R,r.W⟩
   | .enter g args=>match Xm g args r.H r.n with
     |some s=>some ⟨s.out,s.H,s.n,r.R++s.R,r.W++s.W⟩
     |none=>match Wi P g args with
      |some c=>match rec c r.H r.n with
       |some s=>match YG r.H s with
        |s=>some ⟨s.out,s.H,s.n,r.R++s.R,r.W++s.W⟩
       |none=>none
      |none=>none
   | .round l fn tm a b=>bif LI tm.size 16000 then match rec ⟨fn,ofList tm.size tm.toList,[.code a,.beginRound,.code b],[],.run,some l⟩ r.H r.n with
     |some s=>some ⟨s.out,s.H,s.n,r.R++s.R,r.W++s.W⟩
     |none=>none
     else none
  |none=>none
def PI(T:Tm):Option Tmp->Bool
 |some d=>Ll d T.len && Ll d 16000
 |none=>true
inductive RF where
 |ok (T:Tm) (H:Qm) (n:Nat)
 |ZB (T:Tm) (v:Value) (H:Qm) (n:Nat) (R W:List Nat)
def gF(P:Program)(F:FuncId->Bool)(Xm:Vh)(rec:CF->Qm->Nat->Option Rs)(ops:Array Oper):List Oper->Tm->Qm->Nat->Option (List Rec×RF)
 |[],T,H,n=>some ([],.ok T H n)
 |o::l,T,H,n=>
  bif PI T o.dst then
   bif Region.wanted o (XI ops T)then
    match aN P F Xm rec T o H n with
    |some s=>match s.out with
     | .ret v=>match gF P F Xm rec ops l (V0 T o.dst v) s.H s.n with
       |some (rs,fin)=>some (⟨o,true,v,T,H,s.H,n,s.n,s.R,s.W⟩::rs,fin)
       |none=>none
     | .ZB v=>some ([],.ZB T v s.H s.n s.R s.W)
    |none=>none
   else match gF P F Xm rec ops l (V0 T o.dst undef) H n with
    |some (rs,fin)=>some (⟨o,false,undef,T,H,H,n,n,[],[]⟩::rs,fin)
    |none=>none
  else none
def Vg:Nat->List Oper->Bool
 |_,[]=>true
 |k,o::l=>o.after.all (fun e=> !Region.binds .any e || Ll e.on k) && Vg (k+1) l
def Ts(ops:Array Oper)(Qs:List Rec)(T:Tm):Bool:=
 Vg 0 ops.toList && (indep ops 0 Qs (JK ops.toList []) && (Lf (Qs.length+1) ops.toList.length && ((Le Qs.length).all (fun i=>((JK ops.toList []).getD Qs.length []).contains i) && ops.toList.all (fun o=>PI T o.dst))))
def SW(P:Program)(H:Qm)(T:Tm):List ResultVar->Option (List Value×List Nat)
 |[]=>some ([],[])
 | .tmp t::l=>match SW P H T l with
   |some (vs,R)=>some (Xx T t::vs,R)
   |none=>none
 | .cell a t::l=>match SJ P t H (Xx T a)with
   |some (v,b)=>match SW P H T l with
    |some (vs,R)=>some (v::vs,b::R)
    |none=>none
   |none=>none
def oneOf:List Value->Value
 |[v]=>v
 |vs=>.tuple vs.toArray
def kW(P:Program)(f:FuncId)(H:Qm)(T:Tm):Option (Value×List Nat):=
 match nth P.funcs.toList f with
 |some fn=>match SW P H T fn.results.toList with
  |some (vs,R)=>some (oneOf vs,R)
  |none=>none
 |none=>none
def Oh(P:Program)(f:FuncId):Bool:=match nth P.funcs.toList f with|some _=>true|none=>false
inductive FS where
 |go (c:CF) (H:Qm) (n:Nat) (R W:List Nat)
 |done (out:OO) (H:Qm) (n:Nat) (R W:List Nat)
def Rz(c:CF)(H:Qm)(n:Nat)(jump:Option Code):Option FS:=
 match c.roundOf with
 |none=>match jump with
  |none|some .ret=>some (.go {c with mode:=.ret} H n [] [])
  |_=>none
 |some l=>match Qq H l with
  |some (.loop r)=>some (.done (.ret (.bool jump.isNone)) (VE H l (.loop {r with state:=if jump.isNone then .ready else .done,pending:=jump})) n [l] [l])
  |_=>none
def Kb(c:CF)(H:Qm)(n:Nat)(params:Array Tmp)(assign body:Code):Option (Qm×Nat×List Nat×List Nat):=
 match c.roundOf with
 |none=>some ((n+1,.loop ⟨.ready,none,c.fn,iC c.tmps,params,assign,body,n⟩)::(n,.deferred (some []))::H,n+1,[n],[])
 |some l=>match Qq H l with
  |some (.loop _)=>some ((n,.loop ⟨.ready,none,c.fn,iC c.tmps,params,assign,body,n⟩)::H,n,[],[l])
  |_=>none
def Rn(P:Program)(F:FuncId->Bool)(Xm:Vh)(rec:CF->Qm->Nat->Option Rs)(c:CF)(H:Qm)(n:Nat):Option FS:=
 match c.mode with
 | .run=>match c.todo with
   |[]=>Rz c H n none
   | .code .ret::_=>Rz c H n (some .ret)
   | .code .skip::k| .code (.label _)::k| .inBlock _::k| .inScope _::k=>some (.go {c with todo:=k} H n [] [])
   | .code (.seq a b)::k=>some (.go {c with todo:=.code a::.code b::k} H n [] [])
   | .code (.cond x a b)::k=>match XV c.tmps x with
     |some (.bool t)=>some (.go {c with todo:=.code (bif t then a else b)::k} H n [] [])
     |_=>none
   | .code (.block id b)::k=>some (.go {c with todo:=.code b::.inBlock id::k} H n [] [])
   | .code (.loop b)::k| .inLoop b::k=>some (.go {c with todo:=.code b::.inLoop b::k} H n [] [])
   | .code (.scope b)::k=>some (.go {c with todo:=.code b::.inScope b::k} H n [] [])
   | .code (.exit id)::k=>match exitTo id k with
     |some k'=>some (.go {c with todo:=k'} H n [] [])
     |none=>Rz c H n (some (.exit id))
   | .code (.goto l)::k=>match gotoIn l k with
     |some k'=>some (.go {c with todo:=k'} H n [] [])
     |none=>Rz c H n (some (.goto l))
   | .code (.region _ ops draw)::k=>match gF P F Xm rec ops ops.toList c.tmps H n with
     |some (Qs,.ok T' H' n')=>bif !draw || (Vg 0 ops.toList && indep ops 0 Qs (JK ops.toList []))then some (.go {c with tmps:=T',todo:=k} H' n' (Yn Qs) (Uh Qs))else none
     |some (Qs,.ZB T' v H' n' R W)=>bif !draw || Ts ops Qs T' then some (.go {c with tmps:=T',mode:=.ZB v} H' n' (Yn Qs++R) (Uh Qs++W))else none
     |none=>none
   | .code (.rangeFunc f params assign body)::k=>match XV c.tmps f with
     |some fv=>
      match Kb c H n params assign body with
      |some (H1,l,ds,R1)=>match Rp F H1 fv #[.func (.yield l) #[] #[]]with
       |some (.enter g args,R2)=>match Wi P g args with
        |some c1=>match rec c1 H1 (l+1)with
         |some s=>match s.out with
          | .ret _=>some (.go {c with todo:=.endRangeFunc l::k,defers:=ds++c.defers} s.H s.n (R1++R2++s.R) s.W)
          | .ZB v=>some (.go {c with mode:=.ZB v,defers:=ds++c.defers} s.H s.n (R1++R2++s.R) s.W)
         |none=>none
        |none=>none
       |_=>none
      |none=>none
     |none=>none
   | .endRangeFunc l::k=>match Qq H l with
     |some (.loop r)=>bif !(decide (r.state=.busy))then some (.go {c with todo:=(r.pending.map Item.code).toList++k} (VE H l (.loop {r with state:=.exhausted})) n [l] [l])else none
     |_=>none
   | .beginRound::k=>match c.roundOf with
     |some l=>match Qq H l with
      |some (.loop r)=>bif decide (r.state=.ready)then some (.go {c with todo:=k} (VE H l (.loop {r with state:=.busy})) n [l] [l])else none
      |_=>none
     |none=>none
   |_=>none
 |m=>match c.defers with
  |d::ds=>match Qq H d with
   |some (.deferred (some []))=>some (.go {c with defers:=ds} (VE H d (.deferred none)) n [d] [d])
   |_=>none
  |[]=>match m with
   | .ZB v=>bif Oh P c.fn then some (.done (.ZB v) H n [] [])else none
   |_=>match c.roundOf,kW P c.fn H c.tmps with
    |none,some (v,R)=>some (.done (.ret v) H n R [])
    |_,_=>none
def ZP(b:Nat):List Nat->List Nat->List Nat
 |[],acc=>acc
 |x::l,acc=>ZP b l (bif Ll x b && !(acc.contains x)then x::acc else acc)
theorem pf{b:Nat}:∀(l acc:List Nat) (i:Nat),(i∈ZP b l acc->i∈acc\/(i∈l/\i<b))/\(i∈acc->i∈ZP b l acc)/\(i∈l->i<b->i∈ZP b l acc)
 |[],acc,i=>⟨fun h=>.inl h,fun h=>h,fun h=>by simp at h⟩
 |x::l,acc,i=>by
  obtain⟨h1,h2,h3⟩:=pf l (bif Ll x b && !(acc.contains x)then x::acc else acc) i;have hb:Ll x b=true<->x<b:=⟨fun h=>YL h,fun h=>LC h⟩
  simp only[ZP];cases hc:(Ll x b && !(acc.contains x))with
  |true=>
   rw[hc]at h1 h2 h3;simp only[cond_true]at h1 h2 h3 ⊢;simp only[YB]at hc;refine⟨fun h=> ?_,fun h=>h2 (Lj _ h),fun h hl=> ?_⟩
   ·rcases h1 h with h|h
    ·rcases List.mem_cons.1 h with rfl|h
     ·exact .inr ⟨by simp,hb.1 hc.1⟩
     ·exact .inl h
    ·exact .inr ⟨Lj _ h.1,h.2⟩
   ·rcases List.mem_cons.1 h with rfl|h
    ·exact h2 (by simp)
    ·exact h3 h hl
  |false=>
   rw[hc]at h1 h2 h3;simp only[cond_false]at h1 h2 h3 ⊢;refine⟨fun h=>(h1 h).imp id fun h=>⟨Lj _ h.1,h.2⟩,h2,fun h hl=> ?_⟩;rcases List.mem_cons.1 h with rfl|h
   ·rw[hb.2 hl]at hc;simp only[Bool.true_and,Bool.not_eq_false',List.contains_iff_mem]at hc;exact h2 hc
   ·exact h3 h hl
def p8(P:Program)(F:FuncId->Bool)(Xm:Vh):Nat->Nat->CF->Qm->Nat->List Nat->List Nat->Option Rs
 |0,_,_,_,_,_,_=>none
 |fuel+1,b,c,H,n,R,W=>
  match Rn P F Xm (fun c1 H1 n1=>p8 P F Xm fuel n1 c1 H1 n1 [] []) c H n with
  |some (.go c' H' n' R' W')=>p8 P F Xm fuel b c' H' n' (ZP b R' R) (ZP b W' W)
  |some (.done out H' n' R' W')=>some ⟨out,H',n',ZP b R' R,ZP b W' W⟩
  |none=>none
end Go.CE

namespace Go.CE
open Go Go.RowKit

inductive IR (μ:Mu):Item->Item->Prop
 |code (c):IR μ (.code c) (.code c)
 |inBlock (id):IR μ (.inBlock id) (.inBlock id)
 |inLoop (c):IR μ (.inLoop c) (.inLoop c)
 |inScope (c):IR μ (.inScope c) (.inScope c)
 |beginRound:IR μ .beginRound .beginRound
 |endRF {l im}:μ l=some im->IR μ (.endRangeFunc l) (.endRangeFunc im.Zq)
inductive TodoR (μ:Mu):List Item->List Item->Prop
 |nil:TodoR μ [] []
 |cons {x x' l l'}:IR μ x x'->TodoR μ l l'->TodoR μ (x::l) (x'::l')
theorem IR.mono{μ μ':Mu}(e:Ext μ μ'){x x':Item}(h:IR μ x x'):IR μ' x x':=by
 cases h with
 |code c=>exact .code c
 |inBlock id=>exact .inBlock id
 |inLoop c=>exact .inLoop c
 |inScope c=>exact .inScope c
 |beginRound=>exact .beginRound
 |endRF h=>exact .endRF (e _ _ h)
theorem TodoR.mono{μ μ':Mu}(e:Ext μ μ'){l l':List Item}(h:TodoR μ l l'):TodoR μ' l l':=by
 induction h with
 |nil=>exact .nil
 |cons h _ ih=>exact .cons (h.mono e) ih
inductive DfR (μ:Mu):List Nat->List Deferred->Prop
 |nil:DfR μ [] []
 |cons {d im l l'}:μ d=some im->DfR μ l l'->DfR μ (d::l) ({target:=.collected im.Zq,args:=#[]}::l')
theorem DfR.mono{μ μ':Mu}(e:Ext μ μ'){l:List Nat}{l':List Deferred}(h:DfR μ l l'):DfR μ' l l':=by
 induction h with
 |nil=>exact .nil
 |cons h _ ih=>exact .cons (e _ _ h) ih
inductive MR (μ:Mu):CM->FrameMode->Prop
 |run:MR μ .run .run
 |ret:MR μ .ret .returning
 |ZB {v v'}:VR μ v v'->MR μ (.ZB v) (.panicking [{v:=v',recovered:=false}])
theorem MR.mono{μ μ':Mu}(e:Ext μ μ'){m:CM}{m':FrameMode}(h:MR μ m m'):MR μ' m m':=by
 cases h with
 |run=>exact .run
 |ret=>exact .ret
 |ZB h=>exact .ZB (h.mono e)
def RoR(μ:Mu):Option Nat->Option Nat->Prop
 |none,none=>True
 |some l,some l'=> ∃im,μ l=some im/\im.Zq=l'
 |_,_=>False
theorem RoR.mono{μ μ':Mu}(e:Ext μ μ'){a b:Option Nat}(h:RoR μ a b):RoR μ' a b:=by
 cases a <;> cases b <;> first|exact h|skip
 obtain⟨im,h1,h2⟩:=h;exact⟨im,e _ _ h1,h2⟩
def CM.pans:CM->Bool
 | .ZB _=>true
 |_=>false
structure Bot where
 D:List Deferred
 kd:CallKind
def Bot.no:Bot:=⟨[],.normal⟩
def DfB(Z:Bot)(μ:Mu)(l:List Nat)(l':List Deferred):Prop:=∃L,DfR μ l L/\l'=L++Z.D
theorem DfB.mono{Z:Bot}{μ μ':Mu}{l:List Nat}{l':List Deferred}(h:DfB Z μ l l')(e:Ext μ μ'):DfB Z μ' l l':=let⟨L,h1,h2⟩:=h;⟨L,h1.mono e,h2⟩
theorem DfB.empty{Z:Bot}{μ:Mu}{l':List Deferred}(h:DfB Z μ [] l'):l'=Z.D:=by
 obtain⟨L,h1,h2⟩:=h;cases h1;simpa using h2
theorem DfB.of_empty{Z:Bot}{μ:Mu}{l':List Deferred}(h:l'=Z.D):DfB Z μ [] l':=⟨[],.nil,by simpa using h⟩
theorem DfB.cons_inv{Z:Bot}{μ:Mu}{d:Nat}{l:List Nat}{l':List Deferred}(h:DfB Z μ (d::l) l'):∃im l2,μ d=some im/\l'={target:=.collected im.Zq,args:=#[]}::l2/\DfB Z μ l l2:=by
 obtain⟨L,h1,h2⟩:=h;cases h1 with
 |cons a b=>exact⟨_,_,a,h2,_,b,rfl⟩
structure FrR (Z:Bot) (μ:Mu) (c:CF) (fr:Frame):Prop where
 fn:fr.fn=c.fn
 tmps:TR μ c.tmps fr.tmps
 todo:c.mode.pans=false->TodoR μ c.todo fr.todo
 defers:DfB Z μ c.defers fr.defers
 mode:MR μ c.mode fr.mode
 kind:fr.kind=Z.kd
 round:RoR μ c.roundOf fr.roundOf
theorem FrR.mono{Z:Bot}{μ μ':Mu}(e:Ext μ μ'){c:CF}{fr:Frame}(h:FrR Z μ c fr):FrR Z μ' c fr:=⟨h.fn,h.tmps.mono e,fun q=>(h.todo q).mono e,h.defers.mono e,h.mode.mono e,h.kind,h.round.mono e⟩
theorem OR2.mono{μ μ':Mu}(e:Ext μ μ'){a b:OO}(h:OR2 μ a b):OR2 μ' a b:=by
 cases h with
 |ret h=>exact .ret (h.mono e)
 |ZB h=>exact .ZB (h.mono e)
def OO.ending:OO->Ending
 | .ret v=>.returned v
 | .ZB v=>.panicked [{v,recovered:=false}]
def EndsAs(P:Program)(fr:Frame)(cs:List Frame)(w:World)(out:OO)(w':World):Prop:=
 (fr.roundOf=none->∃frE,Steps P (lone fr cs w) (lone frE cs w')/\frE.fn=fr.fn/\frE.leaving P w' out.ending)/\
 (∀c cs',cs=c::cs'->Steps P (lone fr cs w) (lone (out.on c) cs' w'))
theorem EndsAs.of_steps{P:Program}{fr UK:Frame}{cs:List Frame}{w w1 w':World}{out:OO}(h:Steps P (lone fr cs w) (lone UK cs w1))(hr:UK.roundOf=fr.roundOf)(hf:UK.fn=fr.fn)(k:EndsAs P UK cs w1 out w'):EndsAs P fr cs w out w':=by
 refine⟨fun hn=> ?_,fun c cs' e=>h.trans (k.2 c cs' e)⟩;obtain⟨frE,a,b,d⟩:=k.1 (hr.trans hn);exact⟨frE,h.trans a,b.trans hf,d⟩
structure FJ (P:Program) (B:Lo) (c:CF) (H:Qm) (n:Nat) (out:OO) (H':Qm) (n':Nat) (R W:List Nat):Prop where
 shape:Shape H n H' n' R W
 sem:∀(S:Nat->Prop) (μ:Mu) (w:World) (fr:Frame) (cs:List Frame),Ok B S μ (Qq H) w->B.has w->(∀i,S i->i<n)->JL μ n n'->FrR Bot.no μ c fr->(∀i∈R,i<n->S i)->
  ∃XW w' μ',Post B S n n' W μ μ' H H' w w'/\OR2 μ' out XW/\EndsAs P fr cs w XW w'
def iw(P:Program)(B:Lo)(rec:CF->Qm->Nat->Option Rs):Prop:=
 ∀c H n s,Under H n->rec c H n=some s->FJ P B c H n s.out s.H s.n s.R s.W
def W4(P:Program)(B:Lo)(Xm:Vh):Prop:=
 ∀g args H n s,Under H n->Xm g args H n=some s->Shape H n s.H s.n s.R s.W/\∀(S:Nat->Prop) (μ:Mu) (w:World) (args':Array Value) (cs:List Frame),Ok B S μ (Qq H) w->B.has w->(∀i,S i->i<n)->JL μ n s.n->VRs μ args args'->(∀i∈s.R,i<n->S i)->
  ∃XW w' μ',Post B S n s.n s.W μ μ' H s.H w w'/\OR2 μ' s.out XW/\EndsAs P (Frame.enter P g args' .normal) cs w XW w'
theorem aZ{P:Program}{fr:Frame}{cs:List Frame}{w:World}{ops:Array Oper}{i:Nat}{rest:List Nat}{k:List Item}{o:Oper}(hm:fr.mode=.run)(ht:fr.todo=.inRegion ops (i::rest)::k)(ho:ops[i]? =some o)
 (hw:Region.wanted o (yielded ops fr.tmps)=true) (hd:∀c,o.op≠.defer c):
 stepG P true {frame:=fr,callers:=cs,status:=.running,dying:=none} w=stepG.apply P true fr cs none (execOp fr.eval o) w:=by
 simp only[stepG,hm];unfold stepG.exec;simp only[ht,ho,LG,hw,Option.getD_some,if_true];unfold stepG.oper;simp only[Frame.oper?,ht,ho];cases hr:fr.roundOf with
 |none=>rfl
 |some l=>
  cases XY:o.op <;> first|rfl|exact absurd XY (hd _)
section
variable {P:Program} {o:Oper} {w w1 w':World} {fr:Frame} {cs:List Frame} {ops:Array Oper} {i:Nat} {rest:List Nat} {k:List Item}
theorem P8{v:Value}(hm:fr.mode=.run)(ht:fr.todo=.inRegion ops (i::rest)::k)(ho:ops[i]? =some o)(hw:Region.wanted o (yielded ops fr.tmps)=true)(hd:∀c,o.op≠.defer c)
 (h:(execOp fr.eval o).run P w=.ok (.value v) w'):Steps P (lone fr cs w) (lone ((OO.ret v).on fr) cs w'):=by
 refine .one (step_lone_go ?_);rw[aZ hm ht ho hw hd];simp[stepG.apply,h,OO.on]
theorem DQ(hm:fr.mode=.run)(ht:fr.todo=.inRegion ops (i::rest)::k)(ho:ops[i]? =some o)(hw:Region.wanted o (yielded ops fr.tmps)=true)(hd:∀c,o.op≠.defer c)
 (h:(execOp fr.eval o).run P w=.ok .skip w'):Steps P (lone fr cs w) (lone ((OO.ret undef).on fr) cs w'):=by
 refine .one (step_lone_go ?_);rw[aZ hm ht ho hw hd];simp[stepG.apply,h,OO.on]
theorem zN{v:Value}(hm:fr.mode=.run)(ht:fr.todo=.inRegion ops (i::rest)::k)(ho:ops[i]? =some o)(hw:Region.wanted o (yielded ops fr.tmps)=true)(hd:∀c,o.op≠.defer c)
 (h:(execOp fr.eval o).run P w=.halt (.panic v) w'):Steps P (lone fr cs w) (lone ((OO.ZB v).on fr) cs w'):=by
 refine .one (step_lone_go ?_);rw[aZ hm ht ho hw hd];simp[stepG.apply,h,OO.on]
theorem mP{f:FuncId}{args:Array Value}{out:OO}(hm:fr.mode=.run)(ht:fr.todo=.inRegion ops (i::rest)::k)(ho:ops[i]? =some o)(hw:Region.wanted o (yielded ops fr.tmps)=true)(hd:∀c,o.op≠.defer c)
 (h:(execOp fr.eval o).run P w=.ok (.enter f args) w1) (q:EndsAs P (Frame.enter P f args .normal) (fr::cs) w1 out w'):Steps P (lone fr cs w) (lone (out.on fr) cs w'):=by
 refine .head (step_lone_go (fr':=Frame.enter P f args .normal) (cs':=fr::cs) (w':=w1) ?_) (q.2 fr cs rfl);rw[aZ hm ht ho hw hd];simp[stepG.apply,h,ht]
theorem zM{l:Nat}{f:FuncId}{tm:Array Value}{a b:Code}{out:OO}(hm:fr.mode=.run)(ht:fr.todo=.inRegion ops (i::rest)::k)(ho:ops[i]? =some o)(hw:Region.wanted o (yielded ops fr.tmps)=true)(hd:∀c,o.op≠.defer c)
 (h:(execOp fr.eval o).run P w=.ok (.round l f tm a b) w1) (q:EndsAs P (Frame.round l f tm a b .normal) (fr::cs) w1 out w'):Steps P (lone fr cs w) (lone (out.on fr) cs w'):=by
 refine .head (step_lone_go (fr':=Frame.round l f tm a b .normal) (cs':=fr::cs) (w':=w1) ?_) (q.2 fr cs rfl);rw[aZ hm ht ho hw hd];simp[stepG.apply,h]
end

theorem cb:∀(l:List Value) (i:Nat) (t:Tri) (j:Nat),i+l.length<=16000->(ofL l i t).get j=if i<=j/\j<i+l.length then l.getD (j-i) undef else t.get j
 |[],i,t,j,_=>by simp[ofL];omega
 |v::l,i,t,j,h=>by
  simp only[Lr]at h;simp only[ofL];rw[cb l (i+1) _ j (by omega),Tri.get_set 14 t i v j (QbP i (by omega))];simp only[Lr];by_cases h1:i+1<=j/\j<i+1+l.length
  ·rw[if_pos h1,if_pos (by omega)];rw[show j-i=(j-(i+1))+1 by omega];rfl
  ·rw[if_neg h1];by_cases h2:j=i
   ·subst h2;rw[if_pos rfl,if_pos (by omega)];simp
   ·rw[if_neg h2,if_neg (by omega)]
theorem qT{μ:Mu}{xs xs':Array Value}(h:VRs μ xs xs'){m:Nat}(hm:xs.size+(m-xs.size)<=16000):TR μ (ofList (xs.size+(m-xs.size)) xs.toList) (xs'++Array.replicate (m-xs'.size) undef):=by
 refine⟨by simp[ofList,h.1],fun t=> ?_⟩;simp only[Xx,ofList];rw[cb _ _ _ _ (by simp;omega)];simp only[Nat.zero_le,true_and,Lv,Array.length_toList,Nat.sub_zero,Tri.get_lf];by_cases ht:t<xs.size
 ·rw[if_pos ht];have ht':t<xs'.size:=h.1 ▸ ht;have:=h.2 t xs[t] xs'[t] (by simp[ht]) (by simp[ht']);simpa[ht,ht',Array.getElem?_append]using this
 ·rw[if_neg ht];have ht':¬t<xs'.size:=h.1 ▸ ht;have e:(xs'++Array.replicate (m-xs'.size) undef).getD t undef=undef:=by
   by_cases h2:t-xs'.size<m-xs'.size
   ·simp[Array.getElem?_append,ht',h2]
   ·simp[Array.getElem?_append,ht',h2]
  rw[e];exact VR.undef
theorem NL{μ:Mu}{xs xs':Array Value}(h:VRs μ xs xs')(hm:xs.size<=16000):TR μ (ofList xs.size xs.toList) xs':=by
 have:=qT (m:=0) h (by omega);simpa using this
theorem oM{P:Program}{f:FuncId}{args args':Array Value}{c:CF}{μ:Mu}(kd:CallKind)(h:Wi P f args=some c)(hv:VRs μ args args'):FrR ⟨[],kd⟩ μ c (Frame.enter P f args' kd):=by
 unfold Wi at h;rw[aO,Lm]at h;split at h
 ·rename_i fn hf;split at h
  ·rename_i b hb;have hlim:args.size+(fn.ntmps-args.size)<=16000:=by
    cases hq:LI (args.size+(fn.ntmps-args.size)) 16000 with
    |false=>rw[hq]at h;cases h
    |true=>exact YL hq
   rw[<-ZO h];have ht:=qT (m:=fn.ntmps) hv hlim;exact⟨rfl,by simpa[Frame.enter,hf]using ht,fun _=>by simp only[Frame.enter,hf,Option.bind_some,hb,Option.getD_some];exact .cons (.code _) .nil,.of_empty rfl,.run,rfl,trivial⟩
  ·cases h
 ·cases h
theorem U8{P:Program}{f:FuncId}{args args':Array Value}{c:CF}{μ:Mu}(h:Wi P f args=some c)(hv:VRs μ args args'):FrR Bot.no μ c (Frame.enter P f args' .normal):=oM .normal h hv
end Go.CE

namespace Go.CE
open Go Go.RowKit

theorem Post.drop{B n n':Nat}{S:Nat->Prop}{μ μ':Mu}{H H':Qm}{w w':World}(h:Post B S n n' [] μ μ' H H' w w')(hu:Under H n):Post B S n n' [] μ μ' H H w w':=by
 have hg:∀i o,Qq H i=some o->S i\/n<=i/\i<n'->S i/\Qq H' i=some o:=by
  intro i o ho hi;have Xi:=hu.lt ho;have hs:=hi.elim id fun h=>absurd h.1 (by omega)
  exact⟨hs,by rw[h.keep i Xi (by simp)];exact ho⟩
 refine⟨⟨fun i o hi ho hl=> ?_,fun i o im hi ho hl QD=> ?_,fun i j oi oj a b hi hj Rm ZZ ZY=> ?_,fun i o hi ho=> ?_,fun i j oi oj a b x hi hj ZZ ZY=> ?_⟩,h.le,h.ext,fun _ _ _=>rfl,h.grow,h.frame,h.wr,fun i im o h1 h2 ho=> ?_,fun i im o h1 ho=> ?_,h.os,h.tape,h.output⟩
 ·exact h.ok.rel i o hi (hg i o ho hi).2 hl
 ·exact h.ok.low i o im hi (hg i o ho hi).2 hl QD
 ·exact h.ok.inj i j oi oj a b hi hj Rm (hg i oi ZZ hi).2 (hg j oj ZY hj).2
 ·exact h.ok.Jv i o hi (hg i o ho hi).2
 ·exact h.ok.sep i j oi oj a b x hi hj (hg i oi ZZ hi).2 (hg j oj ZY hj).2
 ·have:=hu.lt ho;omega
 ·have:=hu.lt ho;rcases h1 with h1|h1
  ·omega
  ·simp at h1
theorem Shape.drop{H H':Qm}{n n':Nat}{R:List Nat}(h:Shape H n H' n' R []):Shape H n H n' R []:=⟨h.le,fun _ _ _=>rfl,fun _ _=>rfl,h.sub,fun _ h=>by simp at h⟩
theorem Oy{P:Program}{B:Lo}{c:CF}{H:Qm}{n:Nat}{s:Rs}(hu:Under H n)(h:FJ P B c H n s.out s.H s.n s.R s.W):FJ P B c H n (YG H s).out (YG H s).H (YG H s).n (YG H s).R (YG H s).W:=by
 unfold YG;split
 ·rename_i v hW hv;cases ha:af v with
  |false=>exact h
  |true=>
   simp only[cond_true];rw[hW]at h;refine⟨by rw[hW];exact h.shape.drop,fun S μ w fr cs Q7 hB hS hf X8 hR=> ?_⟩;obtain⟨XW,w',μ',hp,ho,he⟩:=h.sem S μ w fr cs Q7 hB hS hf X8 hR;exact⟨XW,w',μ',by rw[hW];exact hp.drop hu,ho,he⟩
 ·exact h
theorem Ie{P:Program}{F:FuncId->Bool}{Xm:Vh}{rec:CF->Qm->Nat->Option Rs}{T:Tm}{o:Oper}{H:Qm}{n:Nat}{s:Rs}(h:aN P F Xm rec T o H n=some s):∀c,o.op≠.defer c:=by
 intro c e;simp[aN,e]at h
theorem Y0{P:Program}{F:FuncId->Bool}{Xm:Vh}{B:Lo}{rec:CF->Qm->Nat->Option Rs}(hF:∀g,F g=true->Q0 P g=true)(Vq:iw P B rec)(We:W4 P B Xm){T:Tm}{o:Oper}{H:Qm}{n:Nat}{s:Rs}(hu:Under H n)
 (h:aN P F Xm rec T o H n=some s):SN P B o (XV T) H n s.out s.H s.n s.R s.W/\Shape H n s.H s.n s.R s.W:=by
 have hd:=Ie h;unfold aN at h;split at h
 ·cases h
 ·-- panic
  rename_i x XY;split at h
  ·rename_i t v hx;simp only[YO]at h;subst h;refine⟨fun S μ w fr cs k ops i rest Q7 hB hS hf XK hR hm ht ho hw=> ?_,Shape.same _ _ _⟩;have hv:=XK x (by simp[XY,Op.operands]) _ hx;generalize hg:fr.eval x=u at hv;cases hv with
   |iface ZW=>
    rename_i v';exact⟨.ZB (.iface t v'),w,μ,Post.refl Q7,.ZB (.iface ZW),zN hm ht ho hw hd (by simp[execOp,XY,hg,Instr.panic])⟩
  ·cases h
 ·split at h
  ·rename_i r hrr;obtain⟨hr,hRlt⟩:=oO hrr;have hsnd:=O2 (B:=B) hF hr;have JF:=ik hu hr;have Tz:=hu.shape JF;split at h
   ·-- a value
    rename_i v hnx;simp only[YO]at h;subst h;refine⟨fun S μ w fr cs k ops i rest Q7 hB hS hf XK hR hm ht ho hw=> ?_,JF⟩;obtain⟨nx,w',μ',Ub,hp,hnr⟩:=hsnd S μ fr.eval w Q7 hB.le hS hf XK (fun q hq=>hR q hq (hRlt q hq));rw[hnx]at hnr;cases hnr with
    |val hv=>exact⟨_,w',μ',hp,.ret hv,P8 hm ht ho hw hd Ub⟩
    |skip=>exact⟨_,w',μ',hp,.ret VR.undef,DQ hm ht ho hw hd Ub⟩
   ·-- a call
    rename_i g args hnx;split at h
    ·-- known
     rename_i s1 hs1;obtain⟨hsh1,hsem⟩:=We g args r.H r.n s1 Tz hs1;simp only[YO]at h;subst h;refine⟨fun S μ w fr cs k ops i rest Q7 hB hS hf XK hR hm ht ho hw=> ?_,JF.trans hsh1⟩;simp only at hf hR;have l1:=JF.le;have l2:=hsh1.le;obtain⟨nx,w1,μ1,Ub,hp,hnr⟩:=hsnd S μ fr.eval w Q7 hB.le hS (fun q a b=>hf q a (by omega)) XK (fun q hq=>hR q (Lg _ hq) (hRlt q hq));rw[hnx]at hnr;cases hnr with
     |enter ha=>
      obtain⟨XW,w',μ',YF,ho2,hends⟩:=hsem _ μ1 w1 _ (fr::cs) hp.ok (hB.post Q7 hp) (fun q hq=>hq.elim (fun e=>by have:=hS q e;omega) (fun e=>e.2))
       (fun q a b=>by rw[hp.ext q (by omega)];exact hf q (by omega) b) ha (fun q hq Xi=>by
        rcases LF q n with h1|h1
        ·exact .inl (hR q (Lt _ hq) h1)
        ·exact .inr ⟨h1,Xi⟩)
      exact⟨XW,w',μ',hp.trans YF,ho2,mP hm ht ho hw hd Ub hends⟩
    ·split at h
     ·rename_i c hc;split at h
      ·rename_i s0 hs0;have hfj0:=Vq c r.H r.n s0 Tz hs0;have hfj:=Oy Tz hfj0;generalize hdn:YG r.H s0=s1 at h hfj;simp only[YO]at h;subst h;refine⟨fun S μ w fr cs k ops i rest Q7 hB hS hf XK hR hm ht ho hw=> ?_,JF.trans hfj.shape⟩;simp only at hf hR;have l1:=JF.le;have l2:=hfj.shape.le;obtain⟨nx,w1,μ1,Ub,hp,hnr⟩:=hsnd S μ fr.eval w Q7 hB.le hS (fun q a b=>hf q a (by omega)) XK (fun q hq=>hR q (Lg _ hq) (hRlt q hq));rw[hnx]at hnr;cases hnr with
       |enter ha=>
        obtain⟨XW,w',μ',YF,ho2,hends⟩:=hfj.sem _ μ1 w1 _ (fr::cs) hp.ok (hB.post Q7 hp) (fun q hq=>hq.elim (fun e=>by have:=hS q e;omega) (fun e=>e.2))
         (fun q a b=>by rw[hp.ext q (by omega)];exact hf q (by omega) b) (U8 hc ha) (fun q hq Xi=>by
          rcases LF q n with h1|h1
          ·exact .inl (hR q (Lt _ hq) h1)
          ·exact .inr ⟨h1,Xi⟩)
        exact⟨XW,w',μ',hp.trans YF,ho2,mP hm ht ho hw hd Ub hends⟩
      ·cases h
     ·cases h
   ·-- a round
    rename_i l fn tm a b hnx;have hlim:tm.size<=16000:=by
     cases hq:LI tm.size 16000 with
     |true=>exact YL hq
     |false=>rw[hq]at h;cases h
    have h:=Y8 h;split at h
    ·rename_i s1 hs1;have hfj:=Vq _ r.H r.n s1 Tz hs1;simp only[YO]at h;subst h;refine⟨fun S μ w fr cs k ops i rest Q7 hB hS hf XK hR hm ht ho hw=> ?_,JF.trans hfj.shape⟩;simp only at hf hR;have l1:=JF.le;have l2:=hfj.shape.le;obtain⟨nx,w1,μ1,Ub,hp,hnr⟩:=hsnd S μ fr.eval w Q7 hB.le hS (fun q a b=>hf q a (by omega)) XK (fun q hq=>hR q (Lg _ hq) (hRlt q hq));rw[hnx]at hnr;cases hnr with
     |round QD hv=>
      rename_i im xs';obtain⟨XW,w',μ',YF,ho2,hends⟩:=hfj.sem _ μ1 w1 (Frame.round im.Zq fn xs' a b .normal) (fr::cs) hp.ok (hB.post Q7 hp) (fun q hq=>hq.elim (fun e=>by have:=hS q e;omega) (fun e=>e.2))
       (fun q a b=>by rw[hp.ext q (by omega)];exact hf q (by omega) b)
       ⟨rfl,NL hv hlim,fun _=>.cons (.code _) (.cons .beginRound (.cons (.code _) .nil)),.of_empty rfl,.run,rfl,im,QD,rfl⟩ (fun q hq Xi=>by
        rcases LF q n with h1|h1
        ·exact .inl (hR q (Lt _ hq) h1)
        ·exact .inr ⟨h1,Xi⟩)
      exact⟨XW,w',μ',hp.trans YF,ho2,zM hm ht ho hw hd Ub hends⟩
    ·cases h
  ·cases h
end Go.CE

namespace Go.CE
open Go Go.RowKit

theorem oI{μ:Mu}{T:Tm}{fr:Frame}(h:TR μ T fr.tmps)(y:Operand)(v:Value)(hv:XV T y=some v):VR μ v (fr.eval y):=by
 cases y with
 |tmp t=>
  simp only[XV,YO]at hv;subst hv;exact h.2 t
 |const u=>
  simp only[XV]at hv;cases ha:af u with
  |false=>rw[ha]at hv;cases hv
  |true=>rw[ha]at hv;simp only[cond_true,YO]at hv;subst hv;exact Pc ha
 |func f=>
  simp only[XV,YO]at hv;subst hv;exact Pc rfl
 |global g=>cases hv
theorem Kr{μ:Mu}{T:Tm}{A:Array Value}(h:TR μ T A)(ops:Array Oper):yielded ops A=XI ops T:=by
 funext j;rw[kF,iy];cases(ops[j]?).bind (·.dst)with
 |none=>rfl
 |some t=>exact B4 (h.2 t)
def putA(A:Array Value)(v:Value):Option Tmp->Array Value
 |some d=>A.setIfInBounds d v
 |none=>A
theorem TR.putA{μ:Mu}{T:Tm}{A:Array Value}(h:TR μ T A){d:Option Tmp}(hd:∀x,d=some x->x<T.len/\x<16000){v v':Value}(hv:VR μ v v'):TR μ (V0 T d v) (putA A v' d):=by
 have:=h.put hd hv;cases d <;> exact this
theorem Jr{fr:Frame}{A:Array Value}{ops:Array Oper}{i:Nat}{l:List Nat}{k:List Item}{o:Oper}(ho:ops[i]? =some o)(v:Value):
 (Xe fr A ops (i::l) k).finish v=Xe fr (putA A v o.dst) ops l k:=by
 rw[T8 ho];cases o.dst <;> rfl
theorem Y5{T:Tm}{d:Option Tmp}(h:PI T d=true):∀x,d=some x->x<T.len/\x<16000:=by
 intro x hx;subst hx;simp only[PI,YB]at h;exact⟨YL h.1,YL h.2⟩
def RunOk(P:Program)(B:Lo)(ops:Array Oper)(l:List Oper)(Qs:List Rec)(T:Tm)(H:Qm)(n:Nat):RF->Prop
 | .ok T' H' n'=>KK Qs T H n T' H' n'/\Qs.map (·.o)=l/\Under H' n'
 | .ZB T1 v H' n' R W=> ∃H1 n1 o l2,KK Qs T H n T1 H1 n1/\Qs.map (·.o)++o::l2=l/\Region.wanted o (XI ops T1)=true/\SN P B o (XV T1) H1 n1 (.ZB v) H' n' R W/\Shape H1 n1 H' n' R W
theorem RunOk.cons{P:Program}{B:Lo}{ops:Array Oper}{l:List Oper}{Qs:List Rec}{T:Tm}{H:Qm}{n:Nat}{fin:RF}{r:Rec}(hT:r.T=T)(hH:r.H=H)(hn:r.n=n)(h:RunOk P B ops l Qs (V0 T r.o.dst r.v) r.H' r.n' fin):RunOk P B ops (r.o::l) (r::Qs) T H n fin:=by
 cases fin with
 |ok T' H' n'=>
  obtain⟨h1,h2,h3⟩:=h;exact⟨⟨hT,hH,hn,h1⟩,by simp[h2],h3⟩
 |ZB T1 v H' n' R W=>
  obtain⟨H1,n1,o,l2,h1,h2,h3⟩:=h;exact⟨H1,n1,o,l2,⟨hT,hH,hn,h1⟩,by simp[h2],h3⟩
section
variable {P:Program} {F:FuncId->Bool} {Xm:Vh} {B:Lo} {rec:CF->Qm->Nat->Option Rs}
theorem Kt(hF:∀g,F g=true->Q0 P g=true)(Vq:iw P B rec)(We:W4 P B Xm){ops:Array Oper}{len:Nat}:∀(l:List Oper) (T:Tm) (H:Qm) (n:Nat) (Qs:List Rec) (fin:RF),T.len=len->Under H n->gF P F Xm rec ops l T H n=some (Qs,fin)->
 (∀r∈Qs,cv len r)/\(∀r∈Qs,Rv P B ops r)/\RunOk P B ops l Qs T H n fin
 |[],T,H,n,Qs,fin,hl,hu,h=>by
  simp only[gF,YO,YR]at h;obtain⟨rfl,rfl⟩:=h;exact⟨fun r hr=>by simp at hr,fun r hr=>by simp at hr,⟨rfl,rfl,rfl⟩,rfl,hu⟩
 |o::l,T,H,n,Qs,fin,hl,hu,h=>by
  simp only[gF]at h;cases hd:PI T o.dst with
  |false=>rw[hd]at h;cases h
  |true=>
   have hdst:=Y5 hd;rw[hl]at hdst;rw[hd]at h;simp only[cond_true]at h;cases hw:Region.wanted o (XI ops T)with
   |true=>
    rw[hw]at h;simp only[cond_true]at h;split at h
    ·rename_i s hs;obtain⟨hdo,JF⟩:=Y0 hF Vq We hu hs;split at h
     ·rename_i v hv;split at h
      ·rename_i rs fin' hr;simp only[YO,YR]at h;obtain⟨rfl,rfl⟩:=h;obtain⟨h1,h2,h3⟩:=Kt hF Vq We (ops:=ops) (len:=len) l (V0 T o.dst v) s.H s.n rs fin' (by rw[Uk];exact hl) (hu.shape JF) hr;refine⟨fun r hr=> ?_,fun r hr=> ?_,RunOk.cons rfl rfl rfl h3⟩
       ·rcases List.mem_cons.1 hr with rfl|hr
        ·exact⟨JF.le,JF.keep,JF.top,JF.sub,JF.wlt,hdst⟩
        ·exact h1 r hr
       ·rcases List.mem_cons.1 hr with rfl|hr
        ·exact⟨hw.symm,(fun _=>by rw[hv]at hdo;exact hdo),(fun e=>by cases e)⟩
        ·exact h2 r hr
      ·cases h
     ·rename_i v hv;simp only[YO,YR]at h;obtain⟨rfl,rfl⟩:=h;rw[hv]at hdo;exact⟨fun r hr=>by simp at hr,fun r hr=>by simp at hr,H,n,o,l,⟨rfl,rfl,rfl⟩,rfl,hw,hdo,JF⟩
    ·cases h
   |false=>
    rw[hw]at h;simp only[cond_false]at h;split at h
    ·rename_i rs fin' hr;simp only[YO,YR]at h;obtain⟨rfl,rfl⟩:=h;obtain⟨h1,h2,h3⟩:=Kt hF Vq We (ops:=ops) (len:=len) l (V0 T o.dst undef) H n rs fin' (by rw[Uk];exact hl) hu hr;refine⟨fun r hr=> ?_,fun r hr=> ?_,RunOk.cons rfl rfl rfl h3⟩
     ·rcases List.mem_cons.1 hr with rfl|hr
      ·exact⟨Lw _,fun _ _ _=>rfl,fun _ _=>rfl,fun i hi=>by simp at hi,fun i hi=>by simp at hi,hdst⟩
      ·exact h1 r hr
     ·rcases List.mem_cons.1 hr with rfl|hr
      ·exact⟨hw.symm,(fun e=>by cases e),fun _=>⟨rfl,rfl,rfl,rfl⟩⟩
      ·exact h2 r hr
    ·cases h
end
theorem ZG{len:Nat}:∀(l:List Rec) (T:Tm) (H:Qm) (n:Nat) (T':Tm) (H':Qm) (n':Nat),KK l T H n T' H' n'->(∀r∈l,cv len r)->Shape H n H' n' (Yn l) (Uh l)
 |[],T,H,n,T',H',n',h,_=>by
  obtain⟨rfl,rfl,rfl⟩:=h;exact Shape.same _ _ _
 |r::l,T,H,n,T',H',n',h,hs=>by
  obtain⟨h1,h2,h3,h4⟩:=h;have hr:=hs r (by simp);have:=ZG l _ _ _ _ _ _ h4 fun x hx=>hs x (Lj _ hx)
  have h0:Shape H n r.H' r.n' r.R r.W:=by
   subst h2 h3;exact⟨hr.le,hr.keep,hr.top,hr.sub,hr.wlt⟩
  exact h0.trans this
section
variable {P:Program} {B:Lo} {ops:Array Oper}
theorem bn{len:Nat}{fr:Frame}{cs:List Frame}{k:List Item}(hm:fr.mode=.run):∀(Qs:List Rec) (i:Nat) (T:Tm) (H:Qm) (n:Nat) (T':Tm) (H':Qm) (n':Nat) (rest:List Nat),KK Qs T H n T' H' n'->(∀r∈Qs,cv len r)->(∀r∈Qs,Rv P B ops r)->
 (∀(j:Nat) r,Qs[j]? =some r->ops[i+j]? =some r.o)->T.len=len->∀(S:Nat->Prop) (μ:Mu) (w:World) (A:Array Value),Ok B S μ (Qq H) w->B.has w->(∀i,S i->i<n)->JL μ n n'->(∀i∈Yn Qs,i<n->S i)->TR μ T A->
 ∃μ' A' w',Post B S n n' (Uh Qs) μ μ' H H' w w'/\TR μ' T' A'/\Steps P (lone (Xe fr A ops (Ly i Qs.length++rest) k) cs w) (lone (Xe fr A' ops rest k) cs w')
 |[],i,T,H,n,T',H',n',rest,h,_,_,_,_,S,μ,w,A,Q7,_,_,_,_,ht=>by
  obtain⟨rfl,rfl,rfl⟩:=h;exact⟨μ,A,w,Post.refl Q7,ht,Steps.refl _ _⟩
 |r::l,i,T,H,n,T',H',n',rest,h,hs,hk,ho,hl,S,μ,w,A,Q7,hB,hS,hf,hR,ht=>by
  obtain⟨h1,h2,h3,h4⟩:=h;have hr:=hs r (by simp);obtain⟨Ub,hdo,hno⟩:=hk r (by simp);have ZZ:=ho 0 r rfl;rw[Nat.add_zero]at ZZ;have hl4:=ZG l _ _ _ _ _ _ h4 fun x hx=>hs x (Lj _ hx)
  have le1:=hr.le;have le2:=hl4.le;have hdst:∀x,r.o.dst=some x->x<T.len/\x<16000:=by rw[hl];exact hr.dst
  have next:∀(μ1:Mu) (A1:Array Value) (w1:World),Post B S n r.n' r.W μ μ1 H r.H' w w1->TR μ1 (V0 T r.o.dst r.v) A1->Steps P (lone (Xe fr A ops (i::(Ly (i+1) l.length++rest)) k) cs w) (lone (Xe fr A1 ops (Ly (i+1) l.length++rest) k) cs w1)->
   ∃μ' A' w',Post B S n n' (Uh (r::l)) μ μ' H H' w w'/\TR μ' T' A'/\Steps P (lone (Xe fr A ops (Ly i (r::l).length++rest) k) cs w) (lone (Xe fr A' ops rest k) cs w'):=by
   intro μ1 A1 w1 hp ht1 XZ;subst h3;obtain⟨μ',A',w',q1,q2,q3⟩:=bn hm l (i+1) _ _ _ _ _ _ rest h4 (fun x hx=>hs x (Lj _ hx)) (fun x hx=>hk x (Lj _ hx))
    (fun j x hx=>by have:=ho (j+1) x (by simpa using hx);rwa[show i+(j+1)=i+1+j by omega]at this) (by rw[Uk];exact hl) _ μ1 w1 A1 hp.ok (hB.post Q7 hp) (fun q hq=>hq.elim (fun e=>by have:=hS q e;omega) (fun e=>e.2))
    (fun q a b=>by rw[hp.ext q (by omega)];exact hf q (by omega) b) (fun q hq Xi=>by
     rcases LF q r.n with h1|h1
     ·exact .inl (hR q (Lt _ hq) h1)
     ·exact .inr ⟨h1,Xi⟩) ht1
   exact⟨μ',A',w',hp.trans q1,q2,by rw[Lr,List.range'_succ];exact XZ.trans q3⟩
  cases hrx:r.run with
  |false=>
   obtain⟨hv,hH,hnn,hW⟩:=hno hrx;have UO:Region.wanted r.o (yielded ops A)=false:=by rw[Kr ht,<-h1,<-Ub];exact hrx
   refine next μ _ w ?_ (ht.putA hdst (v':=undef) (by rw[hv];exact VR.undef)) (Steps.one ((dv hm ZZ UO).trans (by rw[Jr ZZ])));rw[hH,hnn,hW,h2,h3];exact Post.refl Q7
  |true=>
   have UO:Region.wanted r.o (yielded ops A)=true:=by rw[Kr ht,<-h1,<-Ub];exact hrx
   have hd:=hdo hrx;rw[h1,h2,h3]at hd;have X8:JL μ n r.n':=fun q a b=>hf q a (by omega)
   obtain⟨XW,w1,μ1,hp,ZQ,XZ⟩:=hd S μ w (Xe fr A ops (i::(Ly (i+1) l.length++rest)) k) cs k ops i _ Q7 hB hS X8 (fun x _ v hv=>oI (fr:=Xe fr A ops (i::(Ly (i+1) l.length++rest)) k) ht x v hv)
    (fun q hq Xi=>hR q (Lg _ hq) Xi) hm rfl ZZ UO
   cases ZQ with
   |ret hv=>
    rename_i v';refine next μ1 _ w1 hp ((ht.mono (hp.mu X8)).putA hdst hv) (XZ.trans ?_);simp only[OO.on];rw[Jr ZZ];exact Steps.refl _ _
end
end Go.CE

namespace Go.CE
open Go Go.RowKit

theorem TodoR.inv{μ:Mu}{x:Item}{l L:List Item}(h:TodoR μ (x::l) L):∃x' L',L=x'::L'/\IR μ x x'/\TodoR μ l L':=by
 cases h with
 |cons a b=>exact⟨_,_,rfl,a,b⟩
theorem TodoR.inv_nil{μ:Mu}{L:List Item}(h:TodoR μ [] L):L=[]:=by cases h;rfl
theorem IR.code_inv{μ:Mu}{a:Code}{x':Item}(h:IR μ (.code a) x'):x'=.code a:=by cases h;rfl
theorem TodoR.code{μ:Mu}{a:Code}{l L:List Item}(h:TodoR μ (.code a::l) L):∃L',L=.code a::L'/\TodoR μ l L':=by
 obtain⟨x',L',e,hi,hk⟩:=h.inv;rw[hi.code_inv]at e;exact⟨L',e,hk⟩
theorem y0{μ:Mu}{id:Nat}{l L:List Item}(h:TodoR μ l L):(∀k,exitTo id l=some k->∃k',exitTo id L=some k'/\TodoR μ k k')/\(exitTo id l=none->exitTo id L=none):=by
 induction h with
 |nil=>exact⟨fun k h=>by simp[exitTo]at h,fun _=>rfl⟩
 |cons hi hk ih=>
  cases hi with
  |inBlock id'=>
   simp only[exitTo];by_cases e:(id'==id)=true
   ·rw[if_pos e,if_pos e];exact⟨fun k h=>⟨_,rfl,by simp only[YO]at h;subst h;exact hk⟩,fun h=>by cases h⟩
   ·rw[if_neg e,if_neg e];exact ih
  |code c=>simpa only[exitTo]using ih
  |inLoop c=>simpa only[exitTo]using ih
  |inScope c=>simpa only[exitTo]using ih
  |beginRound=>simpa only[exitTo]using ih
  |endRF h=>simpa only[exitTo]using ih
theorem yu{μ:Mu}{lb:Nat}{l L:List Item}(h:TodoR μ l L):(∀k,gotoIn lb l=some k->∃k',gotoIn lb L=some k'/\TodoR μ k k')/\(gotoIn lb l=none->gotoIn lb L=none):=by
 induction h with
 |nil=>exact⟨fun k h=>by simp[gotoIn]at h,fun _=>rfl⟩
 |cons hi hk ih=>
  cases hi with
  |inScope b=>
   simp only[gotoIn];cases findLabel b lb with
   |some r=>exact⟨fun k h=>⟨_,rfl,by simp only[YO]at h;subst h;exact .cons (.code _) (.cons (.inScope _) hk)⟩,fun h=>by cases h⟩
   |none=>exact ih
  |code c=>simpa only[gotoIn]using ih
  |inLoop c=>simpa only[gotoIn]using ih
  |inBlock c=>simpa only[gotoIn]using ih
  |beginRound=>simpa only[gotoIn]using ih
  |endRF h=>simpa only[gotoIn]using ih
structure GoJ (P:Program) (B:Lo) (c:CF) (H:Qm) (n:Nat) (c':CF) (H':Qm) (n':Nat) (R W:List Nat):Prop where
 shape:Shape H n H' n' R W
 sem:∀(S:Nat->Prop) (μ:Mu) (w:World) (fr:Frame) (cs:List Frame) (Z:Bot),Ok B S μ (Qq H) w->B.has w->(∀i,S i->i<n)->JL μ n n'->FrR Z μ c fr->(∀i∈R,i<n->S i)->
  ∃fr' w' μ',Post B S n n' W μ μ' H H' w w'/\FrR Z μ' c' fr'/\fr'.roundOf=fr.roundOf/\fr'.fn=fr.fn/\Steps P (lone fr cs w) (lone fr' cs w')
theorem GoJ.fj{P:Program}{B:Lo}{c c':CF}{H H' H'':Qm}{n n' n'':Nat}{R R' W W':List Nat}{out:OO}(h:GoJ P B c H n c' H' n' R W)(k:FJ P B c' H' n' out H'' n'' R' W'):FJ P B c H n out H'' n'' (R++R') (W++W'):=by
 refine⟨h.shape.trans k.shape,fun S μ w fr cs Q7 hB hS hf X8 hR=> ?_⟩;have l1:=h.shape.le;have l2:=k.shape.le;obtain⟨UK,w1,μ1,hp,Kd,hr,hfn,XZ⟩:=h.sem S μ w fr cs Bot.no Q7 hB hS (fun q a b=>hf q a (by omega)) X8 (fun q hq Xi=>hR q (Lg _ hq) Xi);obtain⟨XW,w',μ',YF,ho,he⟩:=k.sem _ μ1 w1 UK cs hp.ok (hB.post Q7 hp) (fun q hq=>hq.elim (fun e=>by have:=hS q e;omega) (fun e=>e.2))
  (fun q a b=>by rw[hp.ext q (by omega)];exact hf q (by omega) b) Kd (fun q hq Xi=>by
   rcases LF q n with h1|h1
   ·exact .inl (hR q (Lt _ hq) h1)
   ·exact .inr ⟨h1,Xi⟩)
 exact⟨XW,w',μ',hp.trans YF,ho,he.of_steps XZ hr hfn⟩
theorem FrR.running{Z:Bot}{μ:Mu}{c:CF}{fr:Frame}(h:FrR Z μ c fr)(hm:c.mode=.run):fr.mode=.run/\TR μ c.tmps fr.tmps/\TodoR μ c.todo fr.todo:=by
 refine⟨?_,h.tmps,h.todo (by rw[hm];rfl)⟩;have:=h.mode;rw[hm]at this;generalize fr.mode=m at this;cases this;rfl
section
variable {P:Program} {B:Lo} {c:CF} {H:Qm} {n:Nat}
theorem Kp{l':List Item}(hm:c.mode=.run)(h:∀μ fr,fr.mode=.run->TR μ c.tmps fr.tmps->TodoR μ c.todo fr.todo->∃L',TodoR μ l' L'/\∀cs w,step P (lone fr cs w)=.next (lone {fr with todo:=L'} cs w)):
 GoJ P B c H n {c with todo:=l'} H n [] []:=by
 refine⟨Shape.same _ _ _,fun S μ w fr cs Z Q7 hB hS hf X8 hR=> ?_⟩;obtain⟨a,b,d⟩:=X8.running hm;obtain⟨L',h1,h2⟩:=h μ fr a b d;exact⟨{fr with todo:=L'},w,μ,Post.refl Q7,⟨X8.fn,b,fun _=>h1,X8.defers,X8.mode,X8.kind,X8.round⟩,rfl,rfl,.one (h2 cs w)⟩
theorem Ot{k:List Item}(hm:c.mode=.run)(ht:c.todo=.code .skip::k):GoJ P B c H n {c with todo:=k} H n [] []:=
 Kp hm fun μ fr a _ d=>by
  rw[ht]at d;obtain⟨L',e,hk⟩:=d.code;exact⟨L',hk,fun cs w=>step_lone_go (by simp[stepG,stepG.exec,a,e])⟩
theorem II{k:List Item}{l:Nat}(hm:c.mode=.run)(ht:c.todo=.code (.label l)::k):GoJ P B c H n {c with todo:=k} H n [] []:=
 Kp hm fun μ fr a _ d=>by
  rw[ht]at d;obtain⟨L',e,hk⟩:=d.code;exact⟨L',hk,fun cs w=>step_lone_go (by simp[stepG,stepG.exec,a,e])⟩
theorem Au{k:List Item}{l:Nat}(hm:c.mode=.run)(ht:c.todo=.inBlock l::k):GoJ P B c H n {c with todo:=k} H n [] []:=
 Kp hm fun μ fr a _ d=>by
  rw[ht]at d;obtain⟨x',L',e,hi,hk⟩:=d.inv;cases hi;exact⟨L',hk,fun cs w=>step_lone_go (by simp[stepG,stepG.exec,a,e])⟩
theorem At{k:List Item}{l:Code}(hm:c.mode=.run)(ht:c.todo=.inScope l::k):GoJ P B c H n {c with todo:=k} H n [] []:=
 Kp hm fun μ fr a _ d=>by
  rw[ht]at d;obtain⟨x',L',e,hi,hk⟩:=d.inv;cases hi;exact⟨L',hk,fun cs w=>step_lone_go (by simp[stepG,stepG.exec,a,e])⟩
theorem Qbc{k:List Item}{x y:Code}(hm:c.mode=.run)(ht:c.todo=.code (.seq x y)::k):GoJ P B c H n {c with todo:=.code x::.code y::k} H n [] []:=
 Kp hm fun μ fr a _ d=>by
  rw[ht]at d;obtain⟨L',e,hk⟩:=d.code;exact⟨_,.cons (.code _) (.cons (.code _) hk),fun cs w=>step_lone_go (by simp[stepG,stepG.exec,a,e])⟩
theorem Ox{k:List Item}{q:Operand}{x y:Code}{t:Bool}(hm:c.mode=.run)(ht:c.todo=.code (.cond q x y)::k)(hq:XV c.tmps q=some (.bool t)):GoJ P B c H n {c with todo:=.code (bif t then x else y)::k} H n [] []:=
 Kp hm fun μ fr a b d=>by
  rw[ht]at d;obtain⟨L',e,hk⟩:=d.code;have hv:=oI b q _ hq;have hv:fr.eval q=.bool t:=by generalize fr.eval q=u at hv;cases hv;rfl
  exact⟨_,.cons (.code _) hk,fun cs w=>step_lone_go (by cases t <;> simp[stepG,stepG.exec,a,e,hv])⟩
theorem IK{k:List Item}{id:Nat}{x:Code}(hm:c.mode=.run)(ht:c.todo=.code (.block id x)::k):GoJ P B c H n {c with todo:=.code x::.inBlock id::k} H n [] []:=
 Kp hm fun μ fr a _ d=>by
  rw[ht]at d;obtain⟨L',e,hk⟩:=d.code;exact⟨_,.cons (.code _) (.cons (.inBlock _) hk),fun cs w=>step_lone_go (by simp[stepG,stepG.exec,a,e])⟩
theorem Ou{k:List Item}{x:Code}(hm:c.mode=.run)(ht:c.todo=.code (.loop x)::k):GoJ P B c H n {c with todo:=.code x::.inLoop x::k} H n [] []:=
 Kp hm fun μ fr a _ d=>by
  rw[ht]at d;obtain⟨L',e,hk⟩:=d.code;exact⟨_,.cons (.code _) (.cons (.inLoop _) hk),fun cs w=>step_lone_go (by simp[stepG,stepG.exec,a,e])⟩
theorem Ee{k:List Item}{x:Code}(hm:c.mode=.run)(ht:c.todo=.inLoop x::k):GoJ P B c H n {c with todo:=.code x::.inLoop x::k} H n [] []:=
 Kp hm fun μ fr a _ d=>by
  rw[ht]at d;obtain⟨x',L',e,hi,hk⟩:=d.inv;cases hi;exact⟨_,.cons (.code _) (.cons (.inLoop _) hk),fun cs w=>step_lone_go (by simp[stepG,stepG.exec,a,e])⟩
theorem IH{k:List Item}{x:Code}(hm:c.mode=.run)(ht:c.todo=.code (.scope x)::k):GoJ P B c H n {c with todo:=.code x::.inScope x::k} H n [] []:=
 Kp hm fun μ fr a _ d=>by
  rw[ht]at d;obtain⟨L',e,hk⟩:=d.code;exact⟨_,.cons (.code _) (.cons (.inScope _) hk),fun cs w=>step_lone_go (by simp[stepG,stepG.exec,a,e])⟩
theorem Ow{k k':List Item}{id:Nat}(hm:c.mode=.run)(ht:c.todo=.code (.exit id)::k)(hx:exitTo id k=some k'):GoJ P B c H n {c with todo:=k'} H n [] []:=
 Kp hm fun μ fr a _ d=>by
  rw[ht]at d;obtain⟨L',e,hk⟩:=d.code;obtain⟨L2,h1,h2⟩:=(y0 hk).1 _ hx;exact⟨_,h2,fun cs w=>step_lone_go (by simp[stepG,stepG.exec,a,e,h1])⟩
theorem Ov{k k':List Item}{id:Nat}(hm:c.mode=.run)(ht:c.todo=.code (.goto id)::k)(hx:gotoIn id k=some k'):GoJ P B c H n {c with todo:=k'} H n [] []:=
 Kp hm fun μ fr a _ d=>by
  rw[ht]at d;obtain⟨L',e,hk⟩:=d.code;obtain⟨L2,h1,h2⟩:=(yu hk).1 _ hx;exact⟨_,h2,fun cs w=>step_lone_go (by simp[stepG,stepG.exec,a,e,h1])⟩
end
end Go.CE

namespace Go.CE
open Go Go.RowKit

def Qcd(P:Program)(B:Lo)(c:CF)(H:Qm)(n:Nat):FS->Prop
 | .go c' H' n' R W=>GoJ P B c H n c' H' n' R W
 | .done out H' n' R W=>FJ P B c H n out H' n' R W
section
variable {P:Program} {B:Lo} {c:CF} {H:Qm} {n:Nat}
theorem eB{w:World}{b k:Nat}{o:Obj}(h:k≠b):(w.putObj b o).heap[k]? =w.heap[k]? :=World.putObj_heap_other h
theorem cX{S:Nat->Prop}{μ:Mu}{w:World}{l:Nat}{r:Loop}(Q7:Ok B S μ (Qq H) w)(hS:∀i,S i->i<n)(hk:S l)(hg:Qq H l=some (.loop r))(st:LoopState)(pe:Option Code):
 ∃im tm df,μ l=some im/\w.heap[im.Zq]? =some (.loop {r with tmps:=tm,defers:=df})/\
  Post B S n n [l] μ μ H (VE H l (.loop {r with state:=st,pending:=pe})) w (w.putObj im.Zq (.loop {r with state:=st,pending:=pe,tmps:=tm,defers:=df})):=by
 obtain⟨im,QD,Rl,tm,df,hw,hv⟩:=Q7.rel l _ hk hg trivial;have Xi:im.Zq<w.heap.size:=(Q7.low l _ im hk hg trivial QD).1;exact⟨im,tm,df,QD,hw,Post.write Q7 hS l _ _ im hk hg trivial QD Rl (by simp) (fun b hb=>eB hb) ⟨Rl,tm,df,World.putObj_heap_same Xi,hv⟩ ⟨rfl,rfl,rfl⟩⟩
def Leaves(P:Program)(c:CF)(jump:Option Code):Prop:=
 ∀(μ:Mu) (fr:Frame),fr.mode=.run->TodoR μ c.todo fr.todo->
  (fr.roundOf=none->(jump=none\/jump=some .ret)->∀cs w,step P (lone fr cs w)=.next (lone {fr with mode:=.returning} cs w))/\
  (fr.kind=.normal->∀l v w w',fr.roundOf=some l->(Instr.endRound l jump).run P w=.ok v w'->∀c0 cs,step P (lone fr (c0::cs) w)=.next (lone (c0.finish v) cs w'))
theorem Al(ht:c.todo=[]):Leaves P c none:=by
 intro μ fr hm hd;rw[ht]at hd;have e:=hd.inv_nil;exact⟨fun hr _ cs w=>step_lone_go (by simp[stepG,stepG.exec,hm,e,hr]),fun hk l v w w' hr h c0 cs=>step_lone_go (by simp[stepG,stepG.exec,hm,e,hr,hk,Sem.runT_eq,h,doReturn])⟩
theorem Ak{k:List Item}(ht:c.todo=.code .ret::k):Leaves P c (some .ret):=by
 intro μ fr hm hd;rw[ht]at hd;obtain⟨L',e,_⟩:=hd.code;exact⟨fun hr _ cs w=>step_lone_go (by simp[stepG,stepG.exec,hm,e,hr]),fun hk l v w w' hr h c0 cs=>step_lone_go (by simp[stepG,stepG.exec,hm,e,hr,hk,Sem.runT_eq,h,doReturn])⟩
theorem ym{k:List Item}{id:Nat}(ht:c.todo=.code (.exit id)::k)(hx:exitTo id k=none):Leaves P c (some (.exit id)):=by
 intro μ fr hm hd;rw[ht]at hd;obtain⟨L',e,hL⟩:=hd.code;have hx':=(y0 hL).2 hx;exact⟨fun _ h=>by rcases h with h|h <;> simp at h,fun hk l v w w' hr h c0 cs=>step_lone_go (by simp[stepG,stepG.exec,hm,e,hx',hr,hk,Sem.runT_eq,h,doReturn])⟩
theorem yl{k:List Item}{id:Nat}(ht:c.todo=.code (.goto id)::k)(hx:gotoIn id k=none):Leaves P c (some (.goto id)):=by
 intro μ fr hm hd;rw[ht]at hd;obtain⟨L',e,hL⟩:=hd.code;have hx':=(yu hL).2 hx;exact⟨fun _ h=>by rcases h with h|h <;> simp at h,fun hk l v w w' hr h c0 cs=>step_lone_go (by simp[stepG,stepG.exec,hm,e,hx',hr,hk,Sem.runT_eq,h,doReturn])⟩
theorem Rj{jump:Option Code}{fs:FS}(hm:c.mode=.run)(hu:Under H n)(hl:Leaves P c jump)(h:Rz c H n jump=some fs):Qcd P B c H n fs:=by
 unfold Rz at h;split at h
 ·rename_i hr;have go:(jump=none\/jump=some .ret)->GoJ P B c H n {c with mode:=.ret} H n [] []:=by
   intro hj;refine⟨Shape.same _ _ _,fun S μ w fr cs Z Q7 hB hS hf X8 hR=> ?_⟩;obtain⟨a,b,d⟩:=X8.running hm;have Yp:=X8.round;rw[hr]at Yp;have Yp:fr.roundOf=none:=by cases hq:fr.roundOf with
    |none=>rfl
    |some x=>rw[hq]at Yp;exact Yp.elim
   exact⟨{fr with mode:=.returning},w,μ,Post.refl Q7,⟨X8.fn,b,fun _=>d,X8.defers,.ret,X8.kind,X8.round⟩,rfl,rfl,.one ((hl μ fr a d).1 Yp hj cs w)⟩
  split at h
  ·simp only[YO]at h;subst h;exact go (.inl rfl)
  ·simp only[YO]at h;subst h;exact go (.inr rfl)
  ·cases h
 ·rename_i l hr;split at h
  ·rename_i r hg;simp only[YO]at h;subst h;refine⟨Shape.set _ (hu.lt hg),fun S μ w fr cs Q7 hB hS hf X8 hR=> ?_⟩;obtain⟨a,b,d⟩:=X8.running hm;obtain⟨im,tm,df,QD,hw,hp⟩:=cX Q7 hS (hR l (by simp) (hu.lt hg)) hg (if jump.isNone then .ready else .done) jump;have Yp:=X8.round;rw[hr]at Yp;cases hq:fr.roundOf with
   |none=>rw[hq]at Yp;exact Yp.elim
   |some x=>
    rw[hq]at Yp;obtain⟨Z4,QO,hx⟩:=Yp;rw[QD]at QO;cases QO;subst hx;have hend:=run_endRound (P:=P) jump hw;exact⟨.ret (.bool jump.isNone),_,μ,hp,.ret (.bool _),(fun h=>by rw[hq]at h;cases h),fun c0 cs' e=>by
     subst e;exact .one ((hl μ fr a d).2 X8.kind _ _ _ _ hq hend c0 cs')⟩
  ·cases h
theorem pz{k:List Item}{l:Nat}{r:Loop}(hm:c.mode=.run)(hu:Under H n)(ht:c.todo=.beginRound::k)(hr:c.roundOf=some l)(hg:Qq H l=some (.loop r))(hs:r.state=.ready):
 GoJ P B c H n {c with todo:=k} (VE H l (.loop {r with state:=.busy})) n [l] [l]:=by
 refine⟨Shape.set _ (hu.lt hg),fun S μ w fr cs Z Q7 hB hS hf X8 hR=> ?_⟩;obtain⟨a,b,d⟩:=X8.running hm;obtain⟨im,tm,df,QD,hw,hp⟩:=cX Q7 hS (hR l (by simp) (hu.lt hg)) hg .busy r.pending;rw[ht]at d;obtain⟨x',L',e,hi,hk⟩:=d.inv;cases hi;have Yp:=X8.round;rw[hr]at Yp;cases hq:fr.roundOf with
 |none=>rw[hq]at Yp;exact Yp.elim
 |some x=>
  rw[hq]at Yp;obtain⟨Z4,QO,hx⟩:=Yp;rw[QD]at QO;cases QO;subst hx;have hbr:=run_beginRound (P:=P) hw hs;exact⟨{fr with todo:=L'},_,μ,hp,⟨X8.fn,b,fun _=>hk,X8.defers,X8.mode,X8.kind,X8.round⟩,hq,rfl,.one (step_lone_go (by simp[stepG,stepG.exec,stepG.apply,a,e,hq,Sem.runT_eq,hbr,Result.andThen,Frame.finish]))⟩
theorem IJ{k:List Item}{l:Nat}{r:Loop}(hm:c.mode=.run)(hu:Under H n)(ht:c.todo=.endRangeFunc l::k)(hg:Qq H l=some (.loop r))(hs:r.state≠.busy):
 GoJ P B c H n {c with todo:=(r.pending.map Item.code).toList++k} (VE H l (.loop {r with state:=.exhausted})) n [l] [l]:=by
 refine⟨Shape.set _ (hu.lt hg),fun S μ w fr cs Z Q7 hB hS hf X8 hR=> ?_⟩;obtain⟨a,b,d⟩:=X8.running hm;obtain⟨im,tm,df,QD,hw,hp⟩:=cX Q7 hS (hR l (by simp) (hu.lt hg)) hg .exhausted r.pending;rw[ht]at d;obtain⟨x',L',e,hi,hk⟩:=d.inv;cases hi with
 |endRF QO=>
  rw[QD]at QO;cases QO;have hbr:=run_endLoop (P:=P) hw hs;refine⟨{fr with todo:=(r.pending.map Item.code).toList++L'},_,μ,hp,⟨X8.fn,b,fun _=> ?_,X8.defers,X8.mode,X8.kind,X8.round⟩,rfl,rfl,.one (step_lone_go (by simp[stepG,stepG.exec,a,e,Sem.runT_eq,hbr,GStep.bare_after]))⟩;cases r.pending with
  |none=>exact hk
  |some x=>exact .cons (.code _) hk
theorem MR.not_run{μ:Mu}{m:CM}{m':FrameMode}(h:MR μ m m')(hm:m≠.run):m'≠.run:=by
 cases h with
 |run=>exact absurd rfl hm
 |ret=>exact fun e=>by cases e
 |ZB=>exact fun e=>by cases e
theorem Av{d:Nat}{ds:List Nat}(hm:c.mode≠.run)(hu:Under H n)(hd:c.defers=d::ds)(hg:Qq H d=some (.deferred (some []))):GoJ P B c H n {c with defers:=ds} (VE H d (.deferred none)) n [d] [d]:=by
 refine⟨Shape.set _ (hu.lt hg),fun S μ w fr cs Z Q7 hB hS hf X8 hR=> ?_⟩;have hk:=hR d (by simp) (hu.lt hg);obtain⟨im,QD,Rl,hw,_⟩:=Q7.rel d _ hk hg trivial;have Xi:im.Zq<w.heap.size:=(Q7.low d _ im hk hg trivial QD).1;have hp:=Post.write (w':=w.putObj im.Zq (.deferred none)) Q7 hS d _ (.deferred none) im hk hg trivial QD Rl (by simp) (fun b hb=>eB hb) ⟨Rl,World.putObj_heap_same Xi,.inr rfl⟩ ⟨rfl,rfl,rfl⟩;have hdf:=X8.defers;rw[hd]at hdf;obtain⟨Z4,l',h1,hq,h2⟩:=hdf.cons_inv;rw[QD]at h1;cases h1;exact⟨{fr with defers:=[]++l'},_,μ,hp,⟨X8.fn,X8.tmps,X8.todo,h2,X8.mode,X8.kind,X8.round⟩,rfl,rfl,.one (step_collected (X8.mode.not_run hm) hq rfl (run_takeDeferred hw))⟩
theorem Mc{S:Nat->Prop}{μ:Mu}{w:World}{t:TypeId}{p p' v:Value}{b:Nat}(h:SJ P t H p=some (v,b))(Q7:Ok B S μ (Qq H) w)(hp:VR μ p p')(hb:S b):∃v',(do loadVar t (<-asAddr p'):Sem Value).run P w=.ok v' w/\VR μ v v':=by
 obtain⟨v',h1,h2⟩:=rn h Q7 hp hb;unfold SJ at h;split at h
 ·cases hp with
  |ptr har=>exact⟨v',by simpa[Instr.loadAt,Instr.sureAddr,asAddr]using h1,h2⟩
 ·cases h
theorem Mf{t:TypeId}{p v:Value}{b:Nat}(hu:Under H n)(h:SJ P t H p=some (v,b)):b<n:=by
 unfold SJ at h;split at h
 ·split at h
  ·rename_i hg;split at h
   ·simp only[YO,YR]at h;obtain⟨_,rfl⟩:=h;exact hu.lt hg
   ·cases h
  ·cases h
 ·cases h
inductive VRl (μ:Mu):List Value->List Value->Prop
 |nil:VRl μ [] []
 |cons {v v' l l'}:VR μ v v'->VRl μ l l'->VRl μ (v::l) (v'::l')
theorem VRl.vrs{μ:Mu}{l l':List Value}(h:VRl μ l l'):l.length=l'.length/\∀(i:Nat) v v',l[i]? =some v->l'[i]? =some v'->VR μ v v':=by
 induction h with
 |nil=>exact⟨rfl,fun i v v' h=>by simp at h⟩
 |cons h _ ih=>
  refine⟨by simp[ih.1],fun i v v' a b=> ?_⟩;cases i with
  |zero=>simp only[Lq,YO]at a b;subst a b;exact h
  |succ i=>exact ih.2 i v v' (by simpa using a) (by simpa using b)
def M9(A:Array Value):ResultVar->Sem Value
 | .tmp t=>pure (A.getD t undef)
 | .cell a t=>do loadVar t (<-asAddr (A.getD a undef))
theorem dC(fn:Func)(A:Array Value):results fn A=(do
 let vs <-fn.results.mapM (M9 A)
 pure (if h:vs.size=1 then vs[0]else .tuple vs)):=by
 unfold results;congr 2
theorem Ra{S:Nat->Prop}{μ:Mu}{w:World}{T:Tm}{A:Array Value}(hu:Under H n)(Q7:Ok B S μ (Qq H) w)(ht:TR μ T A):∀(l:List ResultVar) (vs:List Value) (R:List Nat),SW P H T l=some (vs,R)->(∀i∈R,i<n->S i)->
 ∃vs',(l.mapM (M9 A)).run P w=.ok vs' w/\VRl μ vs vs'
 |[],vs,R,h,_=>by
  simp only[SW,YO,YR]at h;obtain⟨rfl,rfl⟩:=h;exact⟨[],by simp,.nil⟩
 | .tmp t::l,vs,R,h,hR=>by
   simp only[SW]at h;split at h
   ·rename_i vs1 R1 h1;simp only[YO,YR]at h;obtain⟨rfl,rfl⟩:=h;obtain⟨vs',h2,h3⟩:=Ra hu Q7 ht l vs1 R1 h1 hR;exact⟨A.getD t undef::vs',by simp only[List.mapM_cons,M9,Sem.run_bind,Sem.run_pure,Result.andThen_ok,h2],.cons (ht.2 t) h3⟩
   ·cases h
 | .cell a t::l,vs,R,h,hR=>by
   simp only[SW]at h;split at h
   ·rename_i v b hv;split at h
    ·rename_i vs1 R1 h1;simp only[YO,YR]at h;obtain⟨rfl,rfl⟩:=h;obtain⟨vs',h2,h3⟩:=Ra hu Q7 ht l vs1 R1 h1 (fun i hi=>hR i (Lj _ hi));obtain⟨v',h4,h5⟩:=Mc hv Q7 (ht.2 a) (hR b (by simp) (Mf hu hv));exact⟨v'::vs',by simp only[List.mapM_cons,M9,Sem.run_bind]at h4 ⊢;simp only[h4,Sem.run_pure,Result.andThen_ok,h2],.cons h5 h3⟩
    ·cases h
   ·cases h
theorem qS{μ:Mu}{vs vs':List Value}(h:VRl μ vs vs'):VR μ (oneOf vs) (if h:vs'.toArray.size=1 then vs'.toArray[0]else .tuple vs'.toArray):=by
 have hv:=h.vrs;cases h with
 |nil=>exact .tuple rfl fun i v v' h=>by simp at h
 |cons h1 h2=>
  cases h2 with
  |nil=>simpa[oneOf]using h1
  |cons h3 h4=>
   simp only[oneOf];rw[dif_neg (by simp)];exact .tuple (by simpa using hv.1) (by simpa using hv.2)
theorem IX{v:Value}{R:List Nat}(hu:Under H n)(hm:c.mode=.ret)(hd:c.defers=[])(hv:kW P c.fn H c.tmps=some (v,R)):FJ P B c H n (.ret v) H n R []:=by
 refine⟨Shape.same _ _ _,fun S μ w fr cs Q7 hB hS hf X8 hR=> ?_⟩;have ht:=X8.tmps;unfold kW at hv;rw[aO,Lm]at hv;split at hv
 ·rename_i fn hfn;split at hv
  ·rename_i vs R1 hvs;simp only[YO,YR]at hv;obtain⟨rfl,rfl⟩:=hv;obtain⟨vs',h1,h2⟩:=Ra hu Q7 ht _ _ _ hvs hR;have hmode:fr.mode=.returning:=by
    have:=X8.mode;rw[hm]at this;generalize fr.mode=m at this;cases this;rfl
   have hdf:fr.defers=[]:=by
    have:=X8.defers;rw[hd]at this;exact this.empty
   have hres:(results fn fr.tmps).run P w=.ok (if h:vs'.toArray.size=1 then vs'.toArray[0]else .tuple vs'.toArray) w:=by
    rw[dC,Array.mapM_eq_mapM_toList];simp only[Sem.run_bind,Sem.run_map,h1,Result.andThen_ok,Sem.run_pure]
   have PF:fr.leaving P w (.returned (if h:vs'.toArray.size=1 then vs'.toArray[0]else .tuple vs'.toArray)):=⟨hmode,hdf,X8.kind,fn,by rw[X8.fn];exact hfn,hres⟩
   exact⟨.ret _,w,μ,Post.refl Q7,.ret (qS h2),fun _=>⟨fr,Steps.refl _ _,rfl,PF⟩,fun c0 cs' e=>by subst e;exact .one (step_leave_returned PF)⟩
  ·cases hv
 ·cases hv
theorem IY{v:Value}(hm:c.mode=.ZB v)(hd:c.defers=[])(hv:Oh P c.fn=true):FJ P B c H n (.ZB v) H n [] []:=by
 refine⟨Shape.same _ _ _,fun S μ w fr cs Q7 hB hS hf X8 hR=> ?_⟩;unfold Oh at hv;rw[aO,Lm]at hv;split at hv
 ·rename_i fn hfn;have hmode:=X8.mode;rw[hm]at hmode;generalize hq:fr.mode=m at hmode;cases hmode with
  |ZB Vp=>
   rename_i v';have hdf:fr.defers=[]:=by
    have:=X8.defers;rw[hd]at this;exact this.empty
   have PF:fr.leaving P w (.panicked [{v:=v',recovered:=false}]):=⟨hq,hdf,fn,by rw[X8.fn];exact hfn⟩
   exact⟨.ZB v',w,μ,Post.refl Q7,.ZB Vp,fun _=>⟨fr,Steps.refl _ _,rfl,PF⟩,fun c0 cs' e=>by subst e;exact .one (step_leave_panicked PF)⟩
 ·cases hv
end
end Go.CE

namespace Go.CE
open Go Go.RowKit

theorem JH:∀(l:List Oper) (k:Nat),Vg k l=true->∀(j:Nat) o,l[j]? =some o->∀e∈o.after,Region.binds .any e=true->e.on<k+j
 |[],_,_,j,o,h=>by simp at h
 |x::l,k,h,j,o,hj=>by
  simp only[Vg,YB]at h;cases j with
  |zero=>
   simp only[Lq,YO]at hj;subst hj;intro e he hb;have:=Array.all_eq_true'.1 h.1 e he;rw[hb]at this;have:=YL (show LI (e.on+1) k=true by simpa[Ll]using this);omega
  |succ j=>
   intro e he hb;have:=JH l (k+1) h.2 j o (by simpa using hj) e he hb;omega
theorem U4{Qs:List Rec}{l:List Oper}{ops:Array Oper}{l2:List Oper}(h:Qs.map (·.o)++l2=l)(hl:l=ops.toList)(j:Nat)(r:Rec)(hj:Qs[j]? =some r):ops[j]? =some r.o:=by
 have e:(Qs.map (·.o)++l2)[j]? =some r.o:=by
  rw[Lz (by simpa using(List.getElem?_eq_some_iff.1 hj).1),Lx,hj];rfl
 rw[h,hl,Lm]at e;exact e
section
variable {P:Program} {F:FuncId->Bool} {Xm:Vh} {B:Lo} {rec:CF->Qm->Nat->Option Rs} {c:CF} {H:Qm} {n:Nat}
theorem ZS{fr:Frame}{cs:List Frame}{w:World}{id:Nat}{ops:Array Oper}{k:List Item}(hm:fr.mode=.run)(ht:fr.todo=.code (.region id ops false)::k):step P (lone fr cs w)=.next (lone (Xe fr fr.tmps ops (Ly 0 ops.size) k) cs w):=
 step_lone_go (by simp[stepG,stepG.exec,hm,ht,Xe,List.range_eq_range'])
theorem Ed(hF:∀g,F g=true->Q0 P g=true)(Vq:iw P B rec)(We:W4 P B Xm)(XP:P.follows .mixedOrders=true){id:Nat}{ops:Array Oper}{draw:Bool}{k:List Item}{Qs:List Rec}{T':Tm}{H':Qm}{n':Nat}(hm:c.mode=.run)(hu:Under H n)
 (ht:c.todo=.code (.region id ops draw)::k) (h:gF P F Xm rec ops ops.toList c.tmps H n=some (Qs,.ok T' H' n')) (hd:(!draw || (Vg 0 ops.toList && indep ops 0 Qs (JK ops.toList [])))=true):
 GoJ P B c H n {c with tmps:=T',todo:=k} H' n' (Yn Qs) (Uh Qs):=by
 obtain⟨hs,hk,R9,hmap,hu'⟩:=Kt hF Vq We (len:=c.tmps.len) ops.toList c.tmps H n Qs _ rfl hu h;have hown:=U4 (l:=ops.toList) (l2:=[]) (by rw[List.append_nil];exact hmap) rfl;have hlen:Qs.length=ops.size:=by have:=congrArg Ld hmap;simpa using this
 refine⟨ZG Qs _ _ _ _ _ _ R9 hs,fun S μ w fr cs Z Q7 hB hS hf X8 hR=> ?_⟩;obtain⟨a,b,d⟩:=X8.running hm;rw[ht]at d;obtain⟨L',e,hL⟩:=d.code;cases draw with
 |false=>
  obtain⟨μ',A',w',hp,hT,XZ⟩:=bn (fr:=fr) (cs:=cs) (k:=L') a Qs 0 c.tmps H n T' H' n' [] R9 hs hk (fun j r hj=>by rw[Lv];exact hown j r hj) rfl S μ w fr.tmps Q7 hB hS hf hR b;rw[List.append_nil,hlen]at XZ;exact⟨{fr with tmps:=A',todo:=L'},w',μ',hp,⟨X8.fn,hT,fun _=>hL.mono (hp.mu hf),X8.defers.mono (hp.mu hf),X8.mode.mono (hp.mu hf),X8.kind,X8.round.mono (hp.mu hf)⟩,rfl,rfl,
   .head (ZS a e) (XZ.trans (.one (Vj a)))⟩
 |true=>
  simp only[Bool.not_true,Bool.false_or,YB]at hd;have hedge:∀(q:Nat) o,ops[q]? =some o->∀e∈o.after,Region.binds .any e=true->e.on<q:=by
   intro q o ho e he hb;have:=JH ops.toList 0 hd.1 q o (by rw[Lm];exact ho) e he hb;omega
  have hbef:=tP ops.toList (fun q o ho=>hedge q o (by simpa using ho));have VE:Setup P B ops Qs (JK ops.toList []) c.tmps H n T' H' n':=⟨R9,hs,hown,hlen,by simpa using hbef.1,Ty Qs _ 0 hd.2,hedge⟩
  obtain⟨μ',A',w',hp,hT,XZ⟩:=iE XP VE hk Q7 hS hR hf hB (fr:=fr) (cs:=cs) (id:=id) (k:=L') a b e;exact⟨{fr with tmps:=A',todo:=L'},w',μ',hp,⟨X8.fn,hT,fun _=>hL.mono (hp.mu hf),X8.defers.mono (hp.mu hf),X8.mode.mono (hp.mu hf),X8.kind,X8.round.mono (hp.mu hf)⟩,rfl,rfl,XZ⟩
theorem py(hF:∀g,F g=true->Q0 P g=true)(Vq:iw P B rec)(We:W4 P B Xm){id:Nat}{ops:Array Oper}{k:List Item}{Qs:List Rec}{v:Value}{H':Qm}{n':Nat}{R W:List Nat}{T':Tm}(hm:c.mode=.run)(hu:Under H n)
 (ht:c.todo=.code (.region id ops false)::k) (h:gF P F Xm rec ops ops.toList c.tmps H n=some (Qs,.ZB T' v H' n' R W)):
 GoJ P B c H n {c with tmps:=T',mode:=.ZB v} H' n' (Yn Qs++R) (Uh Qs++W):=by
 obtain⟨hs,hk,H1,n1,o,l2,R9,hmap,UO,hdo,JF⟩:=Kt hF Vq We (len:=c.tmps.len) ops.toList c.tmps H n Qs _ rfl hu h;have hown:=U4 (l2:=o::l2) hmap rfl;have hlen:ops.size=Qs.length+(l2.length+1):=by have:=congrArg Ld hmap;simp at this;omega
 have hat:ops[Qs.length]? =some o:=by
  rw[<-Lm,<-hmap,Lp (by simp)];simp
 have hsh1:=ZG Qs _ _ _ _ _ _ R9 hs;have l1:=hsh1.le;have l3:=JF.le;refine⟨hsh1.trans JF,fun S μ w fr cs Z Q7 hB hS hf X8 hR=> ?_⟩;obtain⟨a,b,d⟩:=X8.running hm;rw[ht]at d;obtain⟨L',e,hL⟩:=d.code;have hf1:JL μ n n1:=fun q x y=>hf q x (by omega)
 obtain⟨μ1,A1,w1,hp,hT,XZ⟩:=bn (fr:=fr) (cs:=cs) (k:=L') a Qs 0 c.tmps H n T' H1 n1 (Ly Qs.length (l2.length+1)) R9 hs hk (fun j r hj=>by rw[Lv];exact hown j r hj) rfl S μ w fr.tmps Q7 hB hS hf1
  (fun q hq Xi=>hR q (Lg _ hq) Xi) b
 have hr:Ly 0 Qs.length++Ly Qs.length (l2.length+1)=Ly 0 ops.size:=by
  rw[hlen];have:=List.range'_append_1 (s:=0) (m:=Qs.length) (n:=l2.length+1);simpa using this
 rw[hr,List.range'_succ]at XZ;obtain⟨XW,w2,μ2,YF,ho,hst2⟩:=hdo _ μ1 w1 (Xe fr A1 ops (Qs.length::Ly (Qs.length+1) l2.length) L') cs L' ops Qs.length _ hp.ok (hB.post Q7 hp) (fun q hq=>hq.elim (fun e=>by have:=hS q e;omega) (fun e=>e.2))
  (fun q x y=>by rw[hp.ext q (by omega)];exact hf q (by omega) y) (fun x _ v hv=>oI (fr:=Xe fr A1 ops (Qs.length::Ly (Qs.length+1) l2.length) L') hT x v hv) (fun q hq Xi=>by
   rcases LF q n with h1|h1
   ·exact .inl (hR q (Lt _ hq) h1)
   ·exact .inr ⟨h1,Xi⟩) a rfl hat (by rw[show(Xe fr A1 ops (Qs.length::Ly (Qs.length+1) l2.length) L').tmps=A1 from rfl,Kr hT];exact UO)
 have hpp:=hp.trans YF;cases ho with
 |ZB hv=>
  rename_i v';refine⟨{Xe fr A1 ops (Qs.length::Ly (Qs.length+1) l2.length) L' with mode:=.panicking [{v:=v',recovered:=false}]},w2,μ2,hpp,⟨X8.fn,hT.mono (YF.mu fun q x y=>by rw[hp.ext q (by omega)];exact hf q (by omega) y),(fun h=>by cases h),X8.defers.mono (hpp.mu hf),.ZB hv,X8.kind,X8.round.mono (hpp.mu hf)⟩,rfl,rfl,
   .head (ZS a e) (XZ.trans (hst2.trans ?_))⟩
  simp only[OO.on,Frame.raise,Xe,a];exact Steps.refl _ _
theorem oP{x:Rec}{H2:Qm}{n2:Nat}:∀(l:List Rec) (T:Tm) (H:Qm) (n:Nat),KK l T H n x.T x.H x.n->H2=x.H'->n2=x.n'->KK (l++[x]) T H n (V0 x.T x.o.dst x.v) H2 n2
 |[],T,H,n,h,h1,h2=>by obtain⟨rfl,rfl,rfl⟩:=h;exact⟨rfl,rfl,rfl,rfl,h1.symm,h2.symm⟩
 |r::l,T,H,n,h,h1,h2=>by
  obtain⟨a,b,c,d⟩:=h;exact⟨a,b,c,oP l _ _ _ d h1 h2⟩
theorem jg(XP:P.follows .mixedOrders=true){id:Nat}{ops:Array Oper}{k:List Item}{Qs:List Rec}{v:Value}{H':Qm}{n':Nat}{R W:List Nat}{T':Tm}(hm:c.mode=.run)
 (ht:c.todo=.code (.region id ops true)::k) (hs:∀x∈Qs,cv c.tmps.len x) (hk:∀x∈Qs,Rv P B ops x)
 (h:∃H1 n1 o l2,KK Qs c.tmps H n T' H1 n1/\Qs.map (·.o)++o::l2=ops.toList/\Region.wanted o (XI ops T')=true/\SN P B o (XV T') H1 n1 (.ZB v) H' n' R W/\Shape H1 n1 H' n' R W) (hd:Ts ops Qs T'=true):
 GoJ P B c H n {c with tmps:=T',mode:=.ZB v} H' n' (Yn Qs++R) (Uh Qs++W):=by
 obtain⟨H1,n1,o,l2,R9,hmap,UO,hdo,JF⟩:=h;simp only[Ts,YB,Nat.beq_eq,List.all_eq_true,List.mem_range,List.contains_iff_mem]at hd;obtain⟨d1,d2,d3,d4,d5⟩:=hd;have hlen:ops.size=Qs.length+1:=by rw[d3];simp
 have hl2:l2=[]:=by
  have:=congrArg Ld hmap;simp at this;exact List.eq_nil_of_length_eq_zero (by omega)
 subst hl2;let x:Rec:=⟨o,true,undef,T',H1,H',n1,n',R,W⟩
 have hsh1:=ZG Qs _ _ _ _ _ _ R9 hs;have hom:o∈ops.toList:=by rw[<-hmap];simp
 have hTl:T'.len=c.tmps.len:=(K2 (len:=c.tmps.len) 0 Qs 0 _ _ _ _ _ _ R9 hs rfl).2.1;have hsx:cv c.tmps.len x:=⟨JF.le,JF.keep,JF.top,JF.sub,JF.wlt,fun d hd=>by rw[<-hTl];exact Y5 (d5 o hom) d hd⟩
 have hch2:KK (Qs++[x]) c.tmps H n (V0 T' o.dst undef) H' n':=oP (x:=x) Qs _ _ _ R9 rfl rfl;have hs2:∀r∈Qs++[x],cv c.tmps.len r:=fun r hr=>(List.mem_append.1 hr).elim (hs r) fun e=>by rw[List.mem_singleton.1 e];exact hsx
 have hmap2:(Qs++[x]).map (·.o)++[]=ops.toList:=by rw[List.append_nil,List.map_append,<-hmap];rfl
 have hown:=U4 (l2:=[]) hmap2 rfl;have hedge:∀(q:Nat) o,ops[q]? =some o->∀e∈o.after,Region.binds .any e=true->e.on<q:=by
  intro q o ho e he hb;have:=JH ops.toList 0 d1 q o (by rw[Lm];exact ho) e he hb;omega
 have hbef:=tP ops.toList (fun q o ho=>hedge q o (by simpa using ho));have hat:(Qs++[x])[Qs.length]? =some x:=by rw[Lp (by omega)];simp
 have Zi:ops.size-1=Qs.length:=by omega
 have VE:Setup P B ops (Qs++[x]) (JK ops.toList []) c.tmps H n (V0 T' o.dst undef) H' n':=by
  refine⟨hch2,hs2,hown,by simp;omega,by simpa using hbef.1, ?_,hedge⟩;intro i j r y Rm hi hj htd;have hjl:j<(Qs++[x]).length:=(List.getElem?_eq_some_iff.1 hj).1;simp at hjl;rcases LF j Qs.length with Xi|PS
  ·rw[Lz (by omega)]at hi;rw[Lz Xi]at hj;exact Ty Qs _ 0 d2 i j r y Rm hi hj htd
  ·have:j=Qs.length:=by omega
   rw[this,Lv];exact d4 i (by omega)
 have hk2:∀(i:Nat) r,(Qs++[x])[i]? =some r->i+1<ops.size->Rv P B ops r:=by
  intro i r hr hi;rw[Lz (by omega)]at hr;exact hk r (Lk hr)
 have eR:Yn (Qs++[x])=Yn Qs++R:=by simp[Yn,x]
 have eW:Uh (Qs++[x])=Uh Qs++W:=by simp[Uh,x]
 refine⟨hsh1.trans JF,fun S μ w fr cs Z Q7 hB hS hf X8 hR=> ?_⟩;obtain⟨a,b,d⟩:=X8.running hm;rw[ht]at d;obtain⟨L',e,hL⟩:=d.code;obtain⟨μ',A',w',l,v',hp,hT,hv,XZ⟩:=jx XP VE hk2 (fun i hi=>by rw[Zi];exact d4 i (by omega)) (x:=x) (v:=v) (by rw[Zi];exact hat) hdo UO Q7 hS (by rw[eR];exact hR) hf hB (fr:=fr) (cs:=cs) (id:=id) (k:=L') a b e;rw[eW]at hp;exact⟨{Xe fr A' ops ((ops.size-1)::l) L' with mode:=.panicking [{v:=v',recovered:=false}]},w',μ',hp,⟨X8.fn,hT,(fun h=>by cases h),X8.defers.mono (hp.mu hf),.ZB hv,X8.kind,X8.round.mono (hp.mu hf)⟩,rfl,rfl,XZ⟩
theorem DfB.app{Z:Bot}{μ:Mu}{a b:List Nat}{a' b':List Deferred}(h:DfR μ a a')(k:DfB Z μ b b'):DfB Z μ (a++b) (a'++b'):=by
 obtain⟨L,h1,h2⟩:=k;subst h2;rw[<-List.append_assoc];refine⟨_, ?_,rfl⟩;induction h with
 |nil=>exact h1
 |cons h _ ih=>exact .cons h ih
theorem pG{μ:Mu}{T:Tm}{A:Array Value}(h:TR μ T A):VRs μ (iC T) A:=by
 refine⟨by simp[iC,h.1],fun i v v' hv ZW=> ?_⟩;have hi:i<T.len:=by
  have:=(Array.getElem?_eq_some_iff.1 hv).1;simpa[iC]using this
 have e1:v=Xx T i:=by simpa[iC,hi]using hv.symm
 have e2:A.getD i undef=v':=by simp[ZW]
 rw[e1,<-e2];exact h.2 i
theorem yD{H:Qm}{f:Value}{args xs:Array Value}{g:FuncId}{R:List Nat}(h:Rp F H f args=some (.enter g xs,R)):R=[]:=by
 unfold Rp at h;split at h
 ·have:=ZO h;simp only[YR]at this;exact this.2.symm
 ·split at h
  ·have:=ZO h;simp only[YR]at this;cases this.1
  ·cases h
 ·cases h
theorem aL{ps:Array Tmp}{assign body:Code}{H1:Qm}{l:Nat}{ds R1:List Nat}(hu:Under H n)(h:Kb c H n ps assign body=some (H1,l,ds,R1)):
 Shape H n H1 (l+1) R1 []/\∀(S:Nat->Prop) (μ:Mu) (w:World) (fr:Frame),Ok B S μ (Qq H) w->B.has w->(∀i,S i->i<n)->JL μ n (l+1)->fr.fn=c.fn->TR μ c.tmps fr.tmps->RoR μ c.roundOf fr.roundOf->(∀i∈R1,i<n->S i)->
  ∃mark w1 μ1 im,(Instr.enterLoop fr.fn fr.tmps ps assign body fr.roundOf).run P w=.ok (im.Zq,mark) w1/\μ1 l=some im/\Post B S n (l+1) [] μ μ1 H H1 w w1/\DfR μ1 ds mark:=by
 unfold Kb at h;split at h
 ·rename_i hr;simp only[YO,YR]at h;obtain⟨rfl,rfl,rfl,rfl⟩:=h;refine⟨(Shape.new H n _ []).trans (Shape.new _ (n+1) _ []),fun S μ w fr Q7 hB hS hf hfn ht Yp hR=> ?_⟩;have Yp:fr.roundOf=none:=by
   rw[hr]at Yp;cases hq:fr.roundOf with
   |none=>rfl
   |some x=>rw[hq]at Yp;exact Yp.elim
  have p1:=Post.alloc Q7 hB.le hS (hf n (by omega) (by omega)) (.deferred (some [])) (.deferred (some [])) 0 ⟨rfl,heap_alloc _ _,.inl rfl⟩;have PV:upd μ n ⟨w.heap.size,0,0,true,TN⟩ (n+1)=none:=by
   rw[p1.ext (n+1) (by omega)];exact hf (n+1) (by omega) (by omega)
  have p2:=Post.alloc (n:=n+1) p1.ok (Nat.le_trans hB.le p1.grow) (fun i hi=>hi.elim (fun e=>by have:=hS i e;omega) (fun e=>e.2)) PV
   (.loop ⟨.ready,none,c.fn,iC c.tmps,ps,assign,body,n⟩) (.loop ⟨.ready,none,fr.fn,fr.tmps,ps,assign,body,w.heap.size⟩) 0
   ⟨rfl,fr.tmps,w.heap.size,by rw[hfn];exact heap_alloc _ _,pG (ht.mono ((p1.mu (fun q a b=>hf q a (by omega))).trans (KM PV)))⟩
  refine⟨[{target:=.collected w.heap.size,args:=#[]}],_,_,_, ?_,Xy,p1.trans p2, ?_⟩
  ·rw[Yp,run_enterLoop_outer];rw[show(w.alloc (.deferred (some []))).heap.size=w.heap.size+1 by simp]
  ·refine .cons (im:=⟨w.heap.size,0,0,true,TN⟩) ?_ .nil;exact KM PV _ _ Xy
 ·rename_i l0 hr;split at h
  ·rename_i r hg;simp only[YO,YR]at h;obtain⟨rfl,rfl,rfl,rfl⟩:=h;refine⟨Shape.new H n _ [l0],fun S μ w fr Q7 hB hS hf hfn ht Yp hR=> ?_⟩;obtain⟨im,QD,ZQ⟩:=Q7.rel l0 _ (hR l0 (by simp) (hu.lt hg)) hg trivial;obtain⟨_,tm,df,hw,_⟩:=ZQ;have Yp:fr.roundOf=some im.Zq:=by
    rw[hr]at Yp;cases hq:fr.roundOf with
    |none=>rw[hq]at Yp;exact Yp.elim
    |some x=>
     rw[hq]at Yp;obtain⟨Z4,QO,hx⟩:=Yp;rw[QD]at QO;cases QO;rw[hx]
   have PV:=hf n (by omega) (by omega);have p1:=Post.alloc Q7 hB.le hS PV (.loop ⟨.ready,none,c.fn,iC c.tmps,ps,assign,body,n⟩) (.loop ⟨.ready,none,fr.fn,fr.tmps,ps,assign,body,df⟩) 0
    ⟨rfl,fr.tmps,df,by rw[hfn];exact heap_alloc _ _,pG (ht.mono (KM PV))⟩
   refine⟨[],_,_,_, ?_,Xy,p1,.nil⟩;rw[Yp,run_enterLoop_inner hw]
  ·cases h
theorem kM{fr:Frame}{cs:List Frame}{w w1:World}{f:Operand}{ps:Array Tmp}{assign body:Code}{k:List Item}{l:Nat}{mark:List Deferred}{g:FuncId}{args:Array Value}(hm:fr.mode=.run)(ht:fr.todo=.code (.rangeFunc f ps assign body)::k)
 (he:(Instr.enterLoop fr.fn fr.tmps ps assign body fr.roundOf).run P w=.ok (l,mark) w1) (hc:(do let d <-Deferred.ofValue (fr.eval f) #[.func (.yield l) #[] #[]];invoke d.target d.args:Sem Next).run P w1=.ok (.enter g args) w1):
 step P (lone fr cs w)=.next (lone (Frame.enter P g args .normal) ({fr with todo:=.inRangeFunc l::k,defers:=mark++fr.defers}::cs) w1):=by
 refine step_lone_go ?_;have XK:({fr with todo:=.inRangeFunc l::k,defers:=mark++fr.defers}:Frame).eval=fr.eval:=by funext x;cases x <;> rfl
 have hres:resolve fr.eval {callee:=.value f,args:=#[.const (.func (.yield l) #[] #[])],argTypes:=#[]} 0=Deferred.ofValue (fr.eval f) #[.func (.yield l) #[] #[]]:=by simp[resolve,Frame.eval]
 rw[hm]at XK;rw[Sem.run_bind]at hc;simp[stepG,stepG.exec,hm,ht,Sem.runT_eq,he,GStep.bare_after,stepG.apply,XK,hres,Sem.run_bind,hc]
end
end Go.CE
