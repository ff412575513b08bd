/- CE: regions. Fourth part: whole regions, in any order and in the text's. -/
import Derived.Test.YtncjjangllkokaaZRS02
import Derived.RangeFuncRecord
import Derived.Tactics
import Derived.RangeFuncNested
set_option linter.all false
open List renaming mem_cons_of_mem->Lt,mem_of_getElem? ->Lp,range->Ll,mem_append_right->Lw,mem_append_left->Ln,length_cons->Li,range'->LM,getElem?_cons_zero->Lu,getElem?_append_left->Lx,getElem?_map->LF,length->Ld,getElem?_append_right->Lm,map_append->LZ,append_assoc->LY
open Nat renaming zero_add->LD,strongRecOn->LB,le_refl->LI,lt_or_ge->LK,beq->Lf,ble->LR,blt->Lr,ble_eq_true_of_le->LH
open Option renaming map_some->LL
open Array renaming getElem?_toList->Lq
namespace Go.CE
open Go Go.RowKit

theorem gR{α:Type}{p q:α->Bool}:∀(l:List α),(∀x∈l,p x=true->q x=true)->(∃x∈l,q x=true/\p x=false)->l.countP p<l.countP q
 |[],_,h=>by obtain⟨x,hx,_⟩:=h;simp at hx
 |a::l,hpq,h=>by
  obtain⟨x,hx,h1,h2⟩:=h;have hm:l.countP p<=l.countP q:=List.countP_mono_left fun y hy hp=>hpq y (Lt _ hy) hp
  rcases List.mem_cons.1 hx with rfl|hx
  ·rw[List.countP_cons,List.countP_cons,h1,h2];simp;omega
  ·have:=gR l (fun y hy=>hpq y (Lt _ hy)) ⟨x,hx,h1,h2⟩;have ha:=hpq a (by simp);rw[List.countP_cons,List.countP_cons];cases hp:p a with
   |true=>rw[ha hp];simp;omega
   |false=>simp;omega
section
variable {P:Program} {B:Lo} {ops:Array Oper} {Qz:List Rec} {bs:List (List Nat)} {T:Tm} {H:Qt} {n:Nat} {T':Tm} {H':Qt} {n':Nat}
def Ub(Qz:List Rec):List Nat:=Qz.flatMap (·.W)
def Y5(Qz:List Rec):List Nat:=Qz.flatMap (·.R)
theorem Bv(h:Setup P B ops Qz bs T H n T' H' n'){S:Nat->Prop}{μ0 μ:Mu}{w0 w:World}{D:Nat->Bool}(hpg:PG B S (sG Qz D) (WD Qz n D) μ0 μ (Qw H) (gD Qz H D) w0 w)(hD:∀k,k<ops.size->D k=true)(hS:∀i,S i->i<n):
 Post B S n n' (Ub Qz) μ0 μ H H' w0 w:=by
 have Sq:=Px Qz T H n T' H' n' h.chain h.Sg;have dk:∀(k:Nat) (r:Rec),Qz[k]? =some r->D k=true:=fun k r hk=>hD k (by rw[<-h.len];exact(List.getElem?_eq_some_iff.1 hk).1)
 refine PG.post (New:=sG Qz D) (hpg.congr (fun _=>Iff.rfl) (fun i=> ?_) (fun i=> ?_)) (fun i=> ?_) Sq.1 hS
 ·constructor
  ·rintro⟨a,q,r,_,b,c⟩;exact⟨List.mem_flatMap.2 ⟨r,Lp b,c⟩,a⟩
  ·rintro⟨a,b⟩;obtain⟨r,hr,hw⟩:=List.mem_flatMap.1 a;obtain⟨q,hq⟩:=List.getElem?_of_mem hr;exact⟨b,q,r,dk q r hq,hq,hw⟩
 ·rw[(dx (len:=T.len) i Qz 0 T H n T' H' n' h.chain h.Sg).2];refine Wo _ _ _ fun q y hy=> ?_
  obtain⟨r,hr,_⟩:=ka hy;rw[LD];exact dk q r hr
 ·constructor
  ·rintro⟨q,r,_,b,c,d⟩;have:=Sq.2.1 r (Lp b);omega
  ·rintro⟨a,b⟩;obtain⟨q,r,hq,c,d⟩:=Sq.2.2.2 i a b;exact⟨q,r,dk q r hq,hq,c,d⟩
theorem Inv.full(h:Setup P B ops Qz bs T H n T' H' n'){S:Nat->Prop}{μ0 μ:Mu}{w0 w:World}{D:Nat->Bool}{A:Array Value}(hi:Inv B Qz T H n S μ0 w0 D μ A w)(hD:∀k,k<ops.size->D k=true)(hS:∀i,S i->i<n):
 Post B S n n' (Ub Qz) μ0 μ H H' w0 w/\TR μ T' A:=by
 have Sq:=Px Qz T H n T' H' n' h.chain h.Sg;have dk:∀(k:Nat) (r:Rec),Qz[k]? =some r->D k=true:=fun k r hk=>hD k (by rw[<-h.len];exact(List.getElem?_eq_some_iff.1 hk).1)
 constructor
 ·exact Bv h hi.pg hD hS
 ·have hl:=(KC (len:=T.len) 0 Qz 0 T H n T' H' n' h.chain h.Sg rfl).2.1;refine⟨by rw[hl,hi.size],fun t=> ?_⟩;rw[(KC (len:=T.len) t Qz 0 T H n T' H' n' h.chain h.Sg rfl).2.2];have:=hi.tmps t;rw[show tD Qz T D t=Kj (fun _=>true) (Qz.map (cT t)) 0 (XT T t)from ?_]at this
  ·exact this
  ·refine Wo _ _ _ fun q y hy=> ?_
   obtain⟨r,hr,_⟩:=jY hy;rw[LD];exact dk q r hr
theorem NM(h:Setup P B ops Qz bs T H n T' H' n')(hk:∀r∈Qz,Se P B ops r){S:Nat->Prop}{μ0:Mu}{w0:World}(hS:∀i,S i->i<n)(hR:∀r∈Qz,∀i∈r.R,i<n->S i)(UK:P0 μ0 n n')(hB:B.has w0)(hok0:Ok B S μ0 (Qw H) w0){fr:Frame}{cs:List Frame}{k:List Item}(hm:fr.mode=.run):
 ∀(fuel t:Nat) (listed:Array Bool) (μ:Mu) (A:Array Value) (w:World),listed.size=ops.size->UP ops (fun i=>listed.getD i false)->(Ll ops.size).countP (fun i=> !listed.getD i false)<=fuel->Inv B Qz T H n S μ0 w0 (fun i=>listed.getD i false) μ A w->
  ∃μ' A' w',Post B S n n' (Ub Qz) μ0 μ' H H' w0 w'/\TR μ' T' A'/\Steps P (lone (Xw fr A ops (Region.linearise.go .any ops fuel t listed []) k) cs w) (lone {fr with tmps:=A',todo:=k} cs w'):=by
 have done:∀(listed:Array Bool) (μ:Mu) (A:Array Value) (w:World),Inv B Qz T H n S μ0 w0 (fun i=>listed.getD i false) μ A w->(∀k,k<ops.size->listed.getD k false=true)->
  ∃μ' A' w',Post B S n n' (Ub Qz) μ0 μ' H H' w0 w'/\TR μ' T' A'/\Steps P (lone (Xw fr A ops [] k) cs w) (lone {fr with tmps:=A',todo:=k} cs w'):=by
  intro listed μ A w hi Y6;obtain⟨h1,h2⟩:=hi.full h Y6 hS;exact⟨μ,A,w,h1,h2,.one (Ug hm)⟩
 intro fuel;induction fuel with
 |zero=>
  intro t listed μ A w hl hc hcnt hi;have hz:∀q∈Ll ops.size,¬(!listed.getD q false)=true:=List.countP_eq_zero.1 (by omega);simp only[Region.linearise.go,List.reverse_nil];exact done listed μ A w hi fun q hq=>by simpa using hz q (List.mem_range.2 hq)
 |succ fuel ih=>
  intro t listed μ A w hl hc hcnt hi;simp only[Region.linearise.go];change ∃μ' A' w',_/\_/\Steps P (lone (Xw fr A ops (match(Region.ready .any ops listed)[t % (Region.ready .any ops listed).length]? with
   |some i=>Region.linearise.go .any ops fuel (t / (Region.ready .any ops listed).length) (listed.setIfInBounds i true) [i]
   |none=>[].reverse) k) cs w) _
  have gtrue:∀q,q<ops.size->listed.getD q true=listed.getD q false:=by
   intro q hq;have:q<listed.size:=by omega
   simp[this]
  cases hi0:(Region.ready .any ops listed)[t % (Region.ready .any ops listed).length]? with
  |none=>
   have hnil:Region.ready .any ops listed=[]:=by
    cases hr:Region.ready .any ops listed with
    |nil=>rfl
    |cons x xs=>
     rw[hr]at hi0;have Xp:t % (x::xs).length<(x::xs).length:=Nat.mod_lt _ (by simp);simp at hi0;simp at Xp;omega
   have Y6:∀q,q<ops.size->listed.getD q false=true:=by
    intro q;induction q using LB with
    |_ q ihq=>
     intro hq;cases hd:listed.getD q false with
     |true=>rfl
     |false=>
      have:q∈Region.ready .any ops listed:=by
       rw[mem_ready];refine⟨by rw[gtrue q hq];exact hd,ops[q],by simp[hq],fun e he hb=> ?_⟩;have Xp:=h.edge q ops[q] (by simp[hq]) e he hb;exact ihq e.on Xp (by omega)
      rw[hnil]at this;cases this
   simp only[List.reverse_nil];exact done listed μ A w hi Y6
  |some j=>
   have hmem:=Lp hi0;obtain⟨hj1,o,ho,hj2⟩:=mem_ready.1 hmem;have hjlt:j<ops.size:=(Array.getElem?_eq_some_iff.1 ho).1;have hjf:listed.getD j false=false:=by rw[<-gtrue j hjlt];exact hj1
   simp only[];rw[linearise_go_acc,List.reverse_singleton,List.singleton_append];have hready:∀o',ops[j]? =some o'->∀e∈o'.after,Region.binds .any e=true->listed.getD e.on false=true:=fun o' Kt=>by rw[ho]at Kt;cases Kt;exact hj2
   obtain⟨μ1,A1,w1,hi1,hs1⟩:=xF h hS hR UK hB hok0 (D:=fun i=>listed.getD i false) hc hjlt hjf (fun x hx=>hk x (Lp hx)) hready hi (cs:=cs) (l:=Region.linearise.go .any ops fuel (t / (Region.ready .any ops listed).length) (listed.setIfInBounds j true) []) (k:=k) hm;have heq:(fun i=>(listed.setIfInBounds j true).getD i false)=plus (fun i=>listed.getD i false) j:=by
    funext q;by_cases e:q=j
    ·subst e;rw[Va];simp[show q<listed.size by omega]
    ·rw[V2 e,getD_set_ne false (Ne.symm e)]
   have hc1:UP ops (fun i=>(listed.setIfInBounds j true).getD i false):=by
    intro q o' hq Kt e he hb;rw[heq]at hq;by_cases eq:q=j
    ·subst eq;exact getD_set_true (hready o' Kt e he hb)
    ·rw[V2 eq]at hq;exact getD_set_true (hc q o' hq Kt e he hb)
   obtain⟨μ2,A2,w2,h1,h2,h3⟩:=ih (t / (Region.ready .any ops listed).length) (listed.setIfInBounds j true) μ1 A1 w1 (by simpa using hl) hc1 (by
    have:(Ll ops.size).countP (fun i=> !(listed.setIfInBounds j true).getD i false)<(Ll ops.size).countP (fun i=> !listed.getD i false):=by
     refine gR _ (fun q _ hq=> ?_) ⟨j,List.mem_range.2 hjlt,by simpa using hjf, ?_⟩
     ·have e2:=congrFun heq q;rw[e2]at hq;by_cases e:q=j
      ·subst e;rw[Va]at hq;cases hq
      ·rw[V2 e]at hq;exact hq
     ·have e2:=congrFun heq j;rw[e2,Va];rfl
    omega) (by rw[heq];exact hi1)
   exact⟨μ2,A2,w2,h1,h2,hs1.trans h3⟩
theorem Mq(h:Setup P B ops Qz bs T H n T' H' n')(hk:∀(i:Nat) r,Qz[i]? =some r->i+1<ops.size->Se P B ops r)(hpos:0<ops.size)(hlast:∀i,i+1<ops.size->i∈bs.getD (ops.size-1) []){S:Nat->Prop}{μ0:Mu}{w0:World}(hS:∀i,S i->i<n)(hR:∀r∈Qz,∀i∈r.R,i<n->S i)(UK:P0 μ0 n n')(hB:B.has w0)(hok0:Ok B S μ0 (Qw H) w0){fr:Frame}{cs:List Frame}{k:List Item}(hm:fr.mode=.run):
 ∀(fuel t:Nat) (listed:Array Bool) (μ:Mu) (A:Array Value) (w:World),listed.size=ops.size->UP ops (fun i=>listed.getD i false)->(Ll ops.size).countP (fun i=> !listed.getD i false)<=fuel->listed.getD (ops.size-1) false=false->Inv B Qz T H n S μ0 w0 (fun i=>listed.getD i false) μ A w->
  ∃l μ' A' w',Inv B Qz T H n S μ0 w0 (fun i=>decide (i+1<ops.size)) μ' A' w'/\Steps P (lone (Xw fr A ops (Region.linearise.go .any ops fuel t listed []) k) cs w) (lone (Xw fr A' ops ((ops.size-1)::l) k) cs w'):=by
 intro fuel;induction fuel with
 |zero=>
  intro t listed μ A w hl hc hcnt hun hi;have hz:∀q∈Ll ops.size,¬(!listed.getD q false)=true:=List.countP_eq_zero.1 (by omega);exact absurd (hz (ops.size-1) (List.mem_range.2 (by omega))) (by simp only[hun];decide)
 |succ fuel ih=>
  intro t listed μ A w hl hc hcnt hun hi;simp only[Region.linearise.go];change ∃l μ' A' w',_/\Steps P (lone (Xw fr A ops (match(Region.ready .any ops listed)[t % (Region.ready .any ops listed).length]? with
   |some i=>Region.linearise.go .any ops fuel (t / (Region.ready .any ops listed).length) (listed.setIfInBounds i true) [i]
   |none=>[].reverse) k) cs w) _
  have gtrue:∀q,q<ops.size->listed.getD q true=listed.getD q false:=by
   intro q hq;have:q<listed.size:=by omega
   simp[this]
  cases hi0:(Region.ready .any ops listed)[t % (Region.ready .any ops listed).length]? with
  |none=>
   have hnil:Region.ready .any ops listed=[]:=by
    cases hr:Region.ready .any ops listed with
    |nil=>rfl
    |cons x xs=>
     rw[hr]at hi0;have Xp:t % (x::xs).length<(x::xs).length:=Nat.mod_lt _ (by simp);simp at hi0;simp at Xp;omega
   have Y6:∀q,q<ops.size->listed.getD q false=true:=by
    intro q;induction q using LB with
    |_ q ihq=>
     intro hq;cases hd:listed.getD q false with
     |true=>rfl
     |false=>
      have:q∈Region.ready .any ops listed:=by
       rw[mem_ready];refine⟨by rw[gtrue q hq];exact hd,ops[q],by simp[hq],fun e he hb=> ?_⟩;have Xp:=h.edge q ops[q] (by simp[hq]) e he hb;exact ihq e.on Xp (by omega)
      rw[hnil]at this;cases this
   exact absurd (Y6 (ops.size-1) (by omega)) (by rw[hun];decide)
  |some j=>
   have hmem:=Lp hi0;obtain⟨hj1,o,ho,hj2⟩:=mem_ready.1 hmem;have hjlt:j<ops.size:=(Array.getElem?_eq_some_iff.1 ho).1;have hjf:listed.getD j false=false:=by rw[<-gtrue j hjlt];exact hj1
   simp only[];rw[linearise_go_acc,List.reverse_singleton,List.singleton_append];have hready:∀o',ops[j]? =some o'->∀e∈o'.after,Region.binds .any e=true->listed.getD e.on false=true:=fun o' Kt=>by rw[ho]at Kt;cases Kt;exact hj2
   by_cases hjl:j=ops.size-1
   ·have heq:(fun i=>listed.getD i false)=fun i=>decide (i+1<ops.size):=by
     funext q;by_cases hq:q+1<ops.size
     ·have:=o5 h hc (k:=j) hready q (by rw[hjl];exact hlast q hq);rw[this];simp[hq]
     ·by_cases hq2:q=ops.size-1
      ·rw[hq2,hun];simp;omega
      ·have:¬q<listed.size:=by omega
       simp[this,hq]
    rw[heq]at hi;refine⟨Region.linearise.go .any ops fuel (t / (Region.ready .any ops listed).length) (listed.setIfInBounds j true) [],μ,A,w,hi, ?_⟩;rw[<-hjl];exact Steps.refl _ _
   ·have hjs:j+1<ops.size:=by omega
    obtain⟨μ1,A1,w1,hi1,hs1⟩:=xF h hS hR UK hB hok0 (D:=fun i=>listed.getD i false) hc hjlt hjf (fun x hx=>hk j x hx hjs) hready hi (cs:=cs) (l:=Region.linearise.go .any ops fuel (t / (Region.ready .any ops listed).length) (listed.setIfInBounds j true) []) (k:=k) hm;have heq:(fun i=>(listed.setIfInBounds j true).getD i false)=plus (fun i=>listed.getD i false) j:=by
     funext q;by_cases e:q=j
     ·subst e;rw[Va];simp[show q<listed.size by omega]
     ·rw[V2 e,getD_set_ne false (Ne.symm e)]
    have hc1:UP ops (fun i=>(listed.setIfInBounds j true).getD i false):=by
     intro q o' hq Kt e he hb;rw[heq]at hq;by_cases eq:q=j
     ·subst eq;exact getD_set_true (hready o' Kt e he hb)
     ·rw[V2 eq]at hq;exact getD_set_true (hc q o' hq Kt e he hb)
    obtain⟨l2,μ2,A2,w2,h1,h3⟩:=ih (t / (Region.ready .any ops listed).length) (listed.setIfInBounds j true) μ1 A1 w1 (by simpa using hl) hc1 (by
     have:(Ll ops.size).countP (fun i=> !(listed.setIfInBounds j true).getD i false)<(Ll ops.size).countP (fun i=> !listed.getD i false):=by
      refine gR _ (fun q _ hq=> ?_) ⟨j,List.mem_range.2 hjlt,by simpa using hjf, ?_⟩
      ·have e2:=congrFun heq q;rw[e2]at hq;by_cases e:q=j
       ·subst e;rw[Va]at hq;cases hq
       ·rw[V2 e]at hq;exact hq
      ·have e2:=congrFun heq j;rw[e2,Va];rfl
     omega) (by have e3:=congrFun heq (ops.size-1);rw[e3,V2 (Ne.symm hjl)];exact hun) (by rw[heq];exact hi1)
    exact⟨l2,μ2,A2,w2,h1,hs1.trans h3⟩
theorem ic(Zm:P.follows .mixedOrders=true)(h:Setup P B ops Qz bs T H n T' H' n')(hk0:∀r∈Qz,Se P B ops r){S:Nat->Prop}{μ:Mu}{w:World}(QE:Ok B S μ (Qw H) w)(hS:∀i,S i->i<n)(hR:∀i∈Y5 Qz,i<n->S i)(UK:P0 μ n n')(hB:B.has w){fr:Frame}{cs:List Frame}{id:Nat}{k:List Item}
 (hm:fr.mode=.run) (ht:TR μ T fr.tmps) (hk:fr.todo=.code (.region id ops true)::k):
 ∃μ' A' w',Post B S n n' (Ub Qz) μ μ' H H' w w'/\TR μ' T' A'/\Steps P (lone fr cs w) (lone {fr with tmps:=A',todo:=k} cs w'):=by
 let w1:World:={w with drawn:=w.drawn+1}
 have hw1:Ok B S μ (Qw H) w1:=⟨fun i o a b c=>let⟨im,x,y⟩:=QE.rel i o a b c;⟨im,x,y.keep (Ext.refl _) rfl⟩,QE.low,QE.inj,QE.P1,QE.sep⟩
 have hstep:step P (lone fr cs w)=.next (lone (Xw fr fr.tmps ops (Region.schedule (P.follows .mixedOrders) ops (w.tape w.drawn (.order fr.fn id))) k) cs w1):=
  step_lone_go (by simp[stepG,stepG.exec,Xw,hm,hk,choose,Sem.run,Question.forced,Question.cut,w1])
 have hsch:Region.schedule (P.follows .mixedOrders) ops (w.tape w.drawn (.order fr.fn id))=Region.linearise .any ops (w.tape w.drawn (.order fr.fn id)):=by
  simp[Region.schedule,Zm]
 rw[hsch]at hstep;have hrep:∀i,(Array.replicate ops.size false).getD i false=false:=by
  intro i;by_cases hi:i<ops.size <;> simp[hi]
 have hinv:Inv B Qz T H n S μ w1 (fun i=>(Array.replicate ops.size false).getD i false) μ fr.tmps w1:=by
  refine⟨(PG.refl hw1).congr (fun i=>⟨False.elim, ?_⟩) (fun i=>⟨False.elim, ?_⟩) (fun i=> ?_),ht.1.symm,fun t=> ?_⟩
  ·rintro⟨q,r,a,_⟩;exact absurd ((hrep q).symm.trans a) (by simp)
  ·rintro⟨_,q,r,a,_⟩;exact absurd ((hrep q).symm.trans a) (by simp)
  ·exact(UH _ _ _ fun q x _=>hrep _).symm
  ·rw[show tD Qz T (fun i=>(Array.replicate ops.size false).getD i false) t=XT T t from UH _ _ _ fun q x _=>hrep _];exact ht.2 t
 obtain⟨μ',A',w',h1,h2,h3⟩:=NM h hk0 (w0:=w1) hS (fun r hr i hi=>hR i (List.mem_flatMap.2 ⟨r,hr,hi⟩)) UK ⟨hB.le,B.still w w1 (fun _ _=>rfl) hB.inv⟩ hw1 (fr:=fr) (cs:=cs) (k:=k) hm ops.size (w.tape w.drawn (.order fr.fn id)) (Array.replicate ops.size false) μ fr.tmps w1 (by simp)
  (fun q o a=>absurd ((hrep q).symm.trans a) (by simp)) (by
   have:=List.countP_le_length (p:=fun i=> !(Array.replicate ops.size false).getD i false) (l:=Ll ops.size);simpa using this) hinv
 exact⟨μ',A',w',⟨h1.ok,h1.le,h1.ext,h1.keep,h1.grow,h1.frame,h1.wr,h1.fresh,h1.rf,h1.os,h1.tape,h1.output⟩,h2,.head hstep h3⟩
theorem jc(Zm:P.follows .mixedOrders=true)(h:Setup P B ops Qz bs T H n T' H' n')(hk0:∀(i:Nat) r,Qz[i]? =some r->i+1<ops.size->Se P B ops r)(hlast:∀i,i+1<ops.size->i∈bs.getD (ops.size-1) []){x:Rec}{v:Value}(hx:Qz[ops.size-1]? =some x)(hdo:Tk P B x.o (Zd x.T) x.H x.n (.We v) x.H' x.n' x.R x.W)(Ya:Region.wanted x.o (XO ops x.T)=true){S:Nat->Prop}{μ:Mu}{w:World}(QE:Ok B S μ (Qw H) w)(hS:∀i,S i->i<n)(hR:∀i∈Y5 Qz,i<n->S i)(UK:P0 μ n n')(hB:B.has w){fr:Frame}{cs:List Frame}{id:Nat}{k:List Item}
 (hm:fr.mode=.run) (ht:TR μ T fr.tmps) (hk:fr.todo=.code (.region id ops true)::k):
 ∃μ' A' w' l v',Post B S n n' (Ub Qz) μ μ' H H' w w'/\TR μ' x.T A'/\VR μ' v v'/\Steps P (lone fr cs w) (lone {Xw fr A' ops ((ops.size-1)::l) k with mode:=.panicking [{v:=v',recovered:=false}]} cs w'):=by
 have hpos:0<ops.size:=by have:=(List.getElem?_eq_some_iff.1 hx).1;rw[h.len]at this;omega
 let w1:World:={w with drawn:=w.drawn+1}
 have hw1:Ok B S μ (Qw H) w1:=⟨fun i o a b c=>let⟨im,x,y⟩:=QE.rel i o a b c;⟨im,x,y.keep (Ext.refl _) rfl⟩,QE.low,QE.inj,QE.P1,QE.sep⟩
 have hstep:step P (lone fr cs w)=.next (lone (Xw fr fr.tmps ops (Region.schedule (P.follows .mixedOrders) ops (w.tape w.drawn (.order fr.fn id))) k) cs w1):=
  step_lone_go (by simp[stepG,stepG.exec,Xw,hm,hk,choose,Sem.run,Question.forced,Question.cut,w1])
 have hsch:Region.schedule (P.follows .mixedOrders) ops (w.tape w.drawn (.order fr.fn id))=Region.linearise .any ops (w.tape w.drawn (.order fr.fn id)):=by
  simp[Region.schedule,Zm]
 rw[hsch]at hstep;have hrep:∀i,(Array.replicate ops.size false).getD i false=false:=by
  intro i;by_cases hi:i<ops.size <;> simp[hi]
 have hinv:Inv B Qz T H n S μ w1 (fun i=>(Array.replicate ops.size false).getD i false) μ fr.tmps w1:=by
  refine⟨(PG.refl hw1).congr (fun i=>⟨False.elim, ?_⟩) (fun i=>⟨False.elim, ?_⟩) (fun i=> ?_),ht.1.symm,fun t=> ?_⟩
  ·rintro⟨q,r,a,_⟩;exact absurd ((hrep q).symm.trans a) (by simp)
  ·rintro⟨_,q,r,a,_⟩;exact absurd ((hrep q).symm.trans a) (by simp)
  ·exact(UH _ _ _ fun q x _=>hrep _).symm
  ·rw[show tD Qz T (fun i=>(Array.replicate ops.size false).getD i false) t=XT T t from UH _ _ _ fun q x _=>hrep _];exact ht.2 t
 have hRR:∀r∈Qz,∀i∈r.R,i<n->S i:=fun r hr i hi=>hR i (List.mem_flatMap.2 ⟨r,hr,hi⟩)
 have hB1:B.has w1:=⟨hB.le,B.still w w1 (fun _ _=>rfl) hB.inv⟩
 obtain⟨l,μ1,A1,w2,h1,h3⟩:=Mq h hk0 hpos hlast (w0:=w1) hS (fun r hr i hi=>hR i (List.mem_flatMap.2 ⟨r,hr,hi⟩)) UK ⟨hB.le,B.still w w1 (fun _ _=>rfl) hB.inv⟩ hw1 (fr:=fr) (cs:=cs) (k:=k) hm ops.size (w.tape w.drawn (.order fr.fn id)) (Array.replicate ops.size false) μ fr.tmps w1 (by simp)
  (fun q o a=>absurd ((hrep q).symm.trans a) (by simp)) (by
   have:=List.countP_le_length (p:=fun i=> !(Array.replicate ops.size false).getD i false) (l:=Ll ops.size);simpa using this) (hrep _) hinv
 have hcl:UP ops (fun i=>decide (i+1<ops.size)):=by
  intro q o hq ho e he hb;have:=h.edge q o ho e he hb;simp only[decide_eq_true_eq]at hq ⊢;omega
 obtain⟨Zg,μ',w',hpg,hext,ZU,Zh⟩:=xG h hS hRR UK hB1 hw1 hcl (j:=ops.size-1) (by simp;omega) (fun o ho e he hb=>by
  have:=h.edge _ o ho e he hb;simp only[decide_eq_true_eq];omega) h1 (fr:=fr) (cs:=cs) (l:=l) (k:=k) hm hx hdo Ya
 have hp:=Bv h hpg (fun q hq=>by
  by_cases e:q=ops.size-1
  ·rw[e];exact Va
  ·rw[V2 e];simp only[decide_eq_true_eq];omega) hS
 have Sq:=Px Qz T H n T' H' n' h.chain h.Sg;have hT:TR μ1 x.T A1:=by
  have hl:=((KC (len:=T.len) 0 Qz 0 T H n T' H' n' h.chain h.Sg rfl).1 _ x hx).1;refine⟨by rw[hl,h1.size],fun t=> ?_⟩;have hq:=((KC (len:=T.len) t Qz 0 T H n T' H' n' h.chain h.Sg rfl).1 _ x hx).2;rw[hq];have:=h1.tmps t;rw[show tD Qz T (fun i=>decide (i+1<ops.size)) t=Kj (fun q=>decide (q<0+(ops.size-1))) (Qz.map (cT t)) 0 (XT T t)from ?_]at this
  ·exact this
  ·refine Wo _ _ _ fun q y hy=> ?_
   exact decide_eq_decide.2 (by omega)
 cases ZU with
 |We hv=>
  rename_i v';refine⟨μ',A1,w',l,v',⟨hp.ok,hp.le,hp.ext,hp.keep,hp.grow,hp.frame,hp.wr,hp.fresh,hp.rf,hp.os,hp.tape,hp.output⟩, ?_,hv,.head hstep (h3.trans (Zh.trans ?_))⟩
  ·exact hT.mono hext
  ·simp only[OO.on,Frame.raise,Xw,hm];exact Steps.refl _ _
end
end Go.CE

namespace Go.CE
open Go Go.RowKit
structure Shape (H:Qt) (n:Nat) (H':Qt) (n':Nat) (R W:List Nat):Prop where
 le:n<=n'
 keep:∀i,i<n->i ∉ W->Qw H' i=Qw H i
 top:∀i,n'<=i->Qw H' i=Qw H i
 sub:∀i,i∈W->i∈R
 wlt:∀i,i∈W->i<n'
theorem Shape.same(H:Qt)(n:Nat)(R:List Nat):Shape H n H n R []:=⟨LI _,fun _ _ _=>rfl,fun _ _=>rfl,fun _ h=>by simp at h,fun _ h=>by simp at h⟩
theorem Shape.trans{H H1 H2:Qt}{n n1 n2:Nat}{R1 R2 W1 W2:List Nat}(h:Shape H n H1 n1 R1 W1)(k:Shape H1 n1 H2 n2 R2 W2):Shape H n H2 n2 (R1++R2) (W1++W2):=by
 have:=h.le;have:=k.le;refine⟨by omega,fun i hi hw=> ?_,fun i hi=> ?_,fun i hi=> ?_,fun i hi=> ?_⟩
 ·rw[k.keep i (by omega) (fun e=>hw (Lw _ e)),h.keep i hi (fun e=>hw (Ln _ e))]
 ·rw[k.top i hi,h.top i (by omega)]
 ·exact(List.mem_append.1 hi).elim (fun e=>Ln _ (h.sub i e)) (fun e=>Lw _ (k.sub i e))
 ·exact(List.mem_append.1 hi).elim (fun e=>by have:=h.wlt i e;omega) (k.wlt i)
theorem Shape.new(H:Qt)(n:Nat)(o:Obj)(R:List Nat):Shape H n ((n,o)::H) (n+1) R []:=
 ⟨by omega,fun i hi _=>by rw[QV,if_neg (by omega)],fun i hi=>by rw[QV,if_neg (by omega)],fun _ h=>by simp at h,fun _ h=>by simp at h⟩
theorem Shape.set{H:Qt}{n b:Nat}(o:Obj)(hb:b<n):Shape H n (VA H b o) n [b] [b]:=
 ⟨LI _,fun i _ hw=>by rw[cc,if_neg (fun e=>hw (by simp[e.1]))],fun i hi=>by rw[cc,if_neg (fun e=>by omega)],fun _ h=>h,fun _ h=>by simp at h;omega⟩
theorem Shape.moreR{H H':Qt}{n n':Nat}{R R' W:List Nat}(h:Shape H n H' n' R W)(hr:∀i,i∈W->i∈R'):Shape H n H' n' R' W:=⟨h.le,h.keep,h.top,hr,h.wlt⟩
def Under(H:Qt)(n:Nat):Prop:=∀i,n<=i->Qw H i=none
theorem Under.lt{H:Qt}{n i:Nat}{o:Obj}(h:Under H n)(hg:Qw H i=some o):i<n:=by
 rcases LK i n with hl|hl
 ·exact hl
 ·rw[h i hl]at hg;cases hg
theorem Under.shape{H H':Qt}{n n':Nat}{R W:List Nat}(h:Under H n)(hs:Shape H n H' n' R W):Under H' n':=fun i hi=>by
 rw[hs.top i hi];exact h i (Nat.le_trans hs.le hi)
theorem oL{P:Program}{t:TypeId}{H:Qt}{n:Nat}{s x:Value}{r:CR}(hu:Under H n)(h:VZ P t H n s x=some r):Shape H n r.H r.n r.R r.W:=by
 unfold VZ at h;split at h
 ·split at h
  ·split at h
   ·split at h
    ·rename_i cs k ko ns m b hh hn;rw[<-ZN h];have hko:∀q,ko=some q->q<n:=by
      intro q hq;subst hq;have hh':=hh;unfold Sp at hh';split at hh'
      ·cases hh'
      ·split at hh'
       ·rename_i hg;have e:=(nT hg hh).2.2.2.2.2;simp only[YO]at e;rw[e];exact hu.lt hg
       ·cases hh'
      ·cases hh'
     refine⟨by simp,fun i hi hw=> ?_,fun i hi=> ?_,fun i hi=>Lt _ hi,fun i hi=> ?_⟩
     ·simp only at hw ⊢;rw[QV,if_neg (by omega),UJ,if_neg];rintro⟨⟨q,rfl,rfl⟩,_⟩;exact hw (by simp)
     ·simp only at hi ⊢;rw[QV,if_neg (by omega),UJ,if_neg];rintro⟨⟨q,e,rfl⟩,_⟩;have:=hko _ e;omega
     ·simp only at hi ⊢;have:=hko i (by cases ko <;> simp_all);omega
    ·cases h
   ·cases h
  ·cases h
 ·cases h
theorem AO{P:Program}{t t':TypeId}{H:Qt}{n:Nat}{s x:Value}{r:CR}(hu:Under H n)(h:xY P t t' H n s x=some r):Shape H n r.H r.n r.R r.W:=by
 unfold xY at h;cases htt:Lf t t' with
 |false=>
  rw[htt]at h;simp only[cond_false]at h;unfold qt at h;split at h
  ·split at h
   ·split at h
    ·rw[<-ZN h];exact Shape.new _ _ _ _
    ·cases h
   ·cases h
  ·cases h
 |true=>
  rw[htt]at h;simp only[cond_true]at h;split at h
  ·rename_i r0 hca;simp only[YO]at h;subst h;exact oL hu hca
  ·unfold BG at h;split at h
   ·split at h
    ·rw[<-ZN h];exact Shape.same _ _ _
    ·cases h
   ·cases h
theorem gS{P:Program}{F:FuncId->Bool}{o:Oper}{ev:Operand->Option Value}{H:Qt}{n:Nat}{r:CR}(hu:Under H n)(h:sL P F ev o H n=some r):Shape H n r.H r.n r.R r.W:=by
 have XX:∀{x:Option Value},mkPure x H n=some r->Shape H n r.H r.n r.R r.W:=by
  intro x h;obtain⟨v,_,rfl⟩:=Z3 h;exact Shape.same _ _ _
 unfold sL at h;split at h
 ·exact XX h
 ·exact XX h
 ·split at h
  ·exact XX h
  ·cases h
 ·split at h
  ·rw[<-ZN h];exact Shape.new _ _ _ _
  ·cases h
 ·split at h
  ·simp only[YO]at h;subst h;exact Shape.new _ _ _ _
  ·cases h
 ·split at h
  ·exact XX h
  ·cases h
 ·split at h
  ·split at h
   ·simp only[YO]at h;subst h;exact Shape.new _ _ _ _
   ·rw[<-ZN h];exact Shape.same _ _ _
  ·cases h
 ·split at h
  ·split at h
   ·simp only[YO]at h;subst h;exact Shape.same _ _ _
   ·cases h
  ·cases h
 ·-- store
  split at h
  ·split at h
   ·rename_i H' b hb;simp only[YO]at h;subst h;unfold Su at hb;split at hb
    ·split at hb
     ·rename_i hg;split at hb
      ·have e:=ZN hb;simp only[YR]at e;obtain⟨rfl,rfl⟩:=e;exact Shape.set _ (hu.lt hg)
      ·cases hb
     ·cases hb
    ·cases hb
   ·cases h
  ·cases h
 ·split at h
  ·exact XX h
  ·cases h
 ·split at h
  ·exact XX h
  ·cases h
 ·split at h
  ·exact XX h
  ·cases h
 ·split at h
  ·exact XX h
  ·exact XX h
 ·split at h
  ·exact XX h
  ·cases h
 ·split at h
  ·split at h
   ·simp only[YO]at h;subst h;exact Shape.new _ _ _ _
   ·cases h
  ·cases h
 ·split at h
  ·exact XX h
  ·exact XX h
  ·exact XX h
 ·rename_i t x lo hi mx ho;cases hc:ck P t (ev x) (Hy ev lo) (ev hi) (ev mx)with
  |true=>rw[hc]at h;simp only[cond_true,YO]at h;subst h;exact Shape.same _ _ _
  |false=>rw[hc]at h;exact XX h
 ·split at h
  ·simp only[YO]at h;subst h;exact Shape.same _ _ _
  ·cases h
 ·simp only[YO]at h;subst h;exact Shape.new _ _ _ _
 ·split at h
  ·split at h
   ·simp only[YO]at h;subst h;exact Shape.same _ _ _
   ·cases h
  ·cases h
 ·-- mapUpdate
  split at h
  ·split at h
   ·rename_i H' b hb;simp only[YO]at h;subst h;unfold Jc at hb;split at hb
    ·split at hb
     ·rename_i hg;have hb:=Je hb;split at hb
      ·split at hb
       ·have e:=ZN hb;simp only[YR]at e;obtain⟨rfl,rfl⟩:=e;exact Shape.set _ (hu.lt hg)
       ·cases hb
      ·simp only[YO,YR]at hb;obtain⟨rfl,rfl⟩:=hb;exact Shape.set _ (hu.lt hg)
      ·cases hb
     ·cases hb
    ·cases hb
   ·cases h
  ·cases h
 ·split at h
  ·split at h
   ·simp only[YO]at h;subst h;exact Shape.same _ _ _
   ·exact XX h
  ·cases h
 ·split at h
  ·simp only[YO]at h;subst h;exact Shape.same _ _ _
  ·simp only[YO]at h;subst h;exact Shape.same _ _ _
  ·simp only[YO]at h;subst h;exact Shape.same _ _ _
  ·cases h
 ·split at h
  ·split at h
   ·split at h
    ·-- append
     exact AO hu h
    ·cases h
   ·cases h
  ·split at h
   ·split at h
    ·simp only[YO]at h;subst h;exact Shape.same _ _ _
    ·simp only[YO]at h;subst h;exact Shape.same _ _ _
    ·exact XX h
   ·cases h
  ·split at h
   ·split at h
    ·-- copy
     unfold xW at h;split at h
     ·split at h
      ·split at h
       ·split at h
        ·rename_i hg _;rw[<-ZN h];obtain⟨a1,a2,a3,a4,a5⟩:=Shape.set (H:=H) (n:=n) (.cells (splice _ _ _) _ (0,0)) (hu.lt hg);exact⟨a1,a2,a3,fun i hi=>by simp at hi;subst hi;simp,a5⟩
        ·cases h
       ·cases h
      ·cases h
     ·cases h
    ·cases h
   ·cases h
  ·exact XX h
  ·split at h
   ·split at h
    ·simp only[YO]at h;subst h;exact Shape.same _ _ _
    ·cases h
   ·cases h
  ·cases h
 ·exact XX h
end Go.CE

namespace Go.CE
open Go Go.RowKit

inductive CM where
 |run
 |ret
 |We (v:Value)
structure CF where
 fn:FuncId
 tmps:Tm
 todo:List Item
 defers:List Nat
 mode:CM
 roundOf:Option Nat
structure Rs where
 out:OO
 H:Qt
 n:Nat
 R:List Nat
 W:List Nat
def Og:List Value->Nat->Tri->Tri
 |[],_,t=>t
 |v::l,i,t=>Og l (i+1) (Tri.set 14 t i v)
def hU(T:Tm):Array Value:=((Ll T.len).map (XT T)).toArray
def ofList(len:Nat)(l:List Value):Tm:=⟨len,Og l 0 .lf⟩
def ZY(P:Program)(f:FuncId)(args:Array Value):Option CF:=
 match nth P.funcs.toList f with
 |some fn=>match fn.body with
  |some c=>bif LR (args.size+(fn.ntmps-args.size)) 16000 then some ⟨f,ofList (args.size+(fn.ntmps-args.size)) args.toList,[.code c],[],.run,none⟩else none
  |none=>none
 |none=>none
def Jj(H:Qt)(s:Rs):Rs:=
 match s.W,s.out with
 |[],.ret v=>bif af v then {s with H:=H}else s
 |_,_=>s
abbrev WW:=FuncId->Array Value->Qt->Nat->Option Rs
def Ss(P:Program)(F:FuncId->Bool)(ev:Operand->Option Value)(o:Oper)(H:Qt)(n:Nat):Option CR:=
 match sL P F ev o H n with
 |some r=>bif r.R.all (fun i=>Lr i n)then some r else none
 |none=>none
theorem om{P:Program}{F:FuncId->Bool}{ev:Operand->Option Value}{o:Oper}{H:Qt}{n:Nat}{r:CR}(h:Ss P F ev o H n=some r):sL P F ev o H n=some r/\∀q∈r.R,q<n:=by
 unfold Ss at h;split at h
 ·rename_i r' hr;cases hq:r'.R.all (fun i=>Lr i n)with
  |false=>rw[hq]at h;cases h
  |true=>
   rw[<-ZN h];exact⟨hr,fun q hq'=>YL (List.all_eq_true.1 hq q hq')⟩
 ·cases h
def dn(P:Program)(F:FuncId->Bool)(Xu:WW)(rec:CF->Qt->Nat->Option Rs)(T:Tm)(o:Oper)(H:Qt)(n:Nat):Option Rs:=
 match o.op with
 | .defer _=>none
 | .panic x=>match Zd T x with
   |some (.iface t v)=>some ⟨.We (.iface t v),H,n,[],[]⟩
   |_=>none
 |_=>match Ss P F (Zd T) o H n with
  |some r=>match r.nx with
   | .val v=>some ⟨.ret v,r.H,r.n,r.R,r.W⟩
   | .enter g args=>match Xu g args r.H r.n with
     |some s=>some ⟨s.out,s.H,s.n,r.R++s.R,r.W++s.W⟩
     |none=>match ZY P g args with
      |some c=>match rec c r.H r.n with
       |some s=>match Jj r.H s with
        |s=>some ⟨s.out,s.H,s.n,r.R++s.R,r.W++s.W⟩
       |none=>none
      |none=>none
   | .round l fn tm a b=>bif LR tm.size 16000 then match rec ⟨fn,ofList tm.size tm.toList,[.code a,.beginRound,.code b],[],.run,some l⟩ r.H r.n with
     |some s=>some ⟨s.out,s.H,s.n,r.R++s.R,r.W++s.W⟩
     |none=>none
     else none
  |none=>none
def Rq(T:Tm):Option Tmp->Bool
 |some d=>Lr d T.len && Lr d 16000
 |none=>true
inductive RF where
 |ok (T:Tm) (H:Qt) (n:Nat)
 |We (T:Tm) (v:Value) (H:Qt) (n:Nat) (R W:List Nat)
def gq(P:Program)(F:FuncId->Bool)(Xu:WW)(rec:CF->Qt->Nat->Option Rs)(ops:Array Oper):List Oper->Tm->Qt->Nat->Option (List Rec×RF)
 |[],T,H,n=>some ([],.ok T H n)
 |o::l,T,H,n=>
  bif Rq T o.dst then
   bif Region.wanted o (XO ops T)then
    match dn P F Xu rec T o H n with
    |some s=>match s.out with
     | .ret v=>match gq P F Xu rec ops l (VB T o.dst v) s.H s.n with
       |some (rs,fin)=>some (⟨o,true,v,T,H,s.H,n,s.n,s.R,s.W⟩::rs,fin)
       |none=>none
     | .We v=>some ([],.We T v s.H s.n s.R s.W)
    |none=>none
   else match gq P F Xu rec ops l (VB T o.dst undef) H n with
    |some (rs,fin)=>some (⟨o,false,undef,T,H,H,n,n,[],[]⟩::rs,fin)
    |none=>none
  else none
def WV:Nat->List Oper->Bool
 |_,[]=>true
 |k,o::l=>o.after.all (fun e=> !Region.binds .any e || Lr e.on k) && WV (k+1) l
def TI(ops:Array Oper)(Qz:List Rec)(T:Tm):Bool:=
 WV 0 ops.toList && (indep ops 0 Qz (Py ops.toList []) && (Lf (Qz.length+1) ops.toList.length && ((Ll Qz.length).all (fun i=>((Py ops.toList []).getD Qz.length []).contains i) && ops.toList.all (fun o=>Rq T o.dst))))
def Ts(P:Program)(H:Qt)(T:Tm):List ResultVar->Option (List Value×List Nat)
 |[]=>some ([],[])
 | .tmp t::l=>match Ts P H T l with
   |some (vs,R)=>some (XT T t::vs,R)
   |none=>none
 | .cell a t::l=>match Th P t H (XT T a)with
   |some (v,b)=>match Ts P H T l with
    |some (vs,R)=>some (v::vs,b::R)
    |none=>none
   |none=>none
def oneOf:List Value->Value
 |[v]=>v
 |vs=>.tuple vs.toArray
def tt(P:Program)(f:FuncId)(H:Qt)(T:Tm):Option (Value×List Nat):=
 match nth P.funcs.toList f with
 |some fn=>match Ts P H T fn.results.toList with
  |some (vs,R)=>some (oneOf vs,R)
  |none=>none
 |none=>none
def Mt(P:Program)(f:FuncId):Bool:=match nth P.funcs.toList f with|some _=>true|none=>false
inductive FS where
 |go (c:CF) (H:Qt) (n:Nat) (R W:List Nat)
 |done (out:OO) (H:Qt) (n:Nat) (R W:List Nat)
def Sl(c:CF)(H:Qt)(n:Nat)(jump:Option Code):Option FS:=
 match c.roundOf with
 |none=>match jump with
  |none|some .ret=>some (.go {c with mode:=.ret} H n [] [])
  |_=>none
 |some l=>match Qw H l with
  |some (.loop r)=>some (.done (.ret (.bool jump.isNone)) (VA H l (.loop {r with state:=if jump.isNone then .ready else .done,pending:=jump})) n [l] [l])
  |_=>none
def Kh(c:CF)(H:Qt)(n:Nat)(params:Array Tmp)(assign body:Code):Option (Qt×Nat×List Nat×List Nat):=
 match c.roundOf with
 |none=>some ((n+1,.loop ⟨.ready,none,c.fn,hU c.tmps,params,assign,body,n⟩)::(n,.deferred (some []))::H,n+1,[n],[])
 |some l=>match Qw H l with
  |some (.loop _)=>some ((n,.loop ⟨.ready,none,c.fn,hU c.tmps,params,assign,body,n⟩)::H,n,[],[l])
  |_=>none
def RV(P:Program)(F:FuncId->Bool)(Xu:WW)(rec:CF->Qt->Nat->Option Rs)(c:CF)(H:Qt)(n:Nat):Option FS:=
 match c.mode with
 | .run=>match c.todo with
   |[]=>Sl c H n none
   | .code .ret::_=>Sl c H n (some .ret)
   | .code .skip::k| .code (.label _)::k| .inBlock _::k| .inScope _::k=>some (.go {c with todo:=k} H n [] [])
   | .code (.seq a b)::k=>some (.go {c with todo:=.code a::.code b::k} H n [] [])
   | .code (.cond x a b)::k=>match Zd c.tmps x with
     |some (.bool t)=>some (.go {c with todo:=.code (bif t then a else b)::k} H n [] [])
     |_=>none
   | .code (.block id b)::k=>some (.go {c with todo:=.code b::.inBlock id::k} H n [] [])
   | .code (.loop b)::k| .inLoop b::k=>some (.go {c with todo:=.code b::.inLoop b::k} H n [] [])
   | .code (.scope b)::k=>some (.go {c with todo:=.code b::.inScope b::k} H n [] [])
   | .code (.exit id)::k=>match exitTo id k with
     |some k'=>some (.go {c with todo:=k'} H n [] [])
     |none=>Sl c H n (some (.exit id))
   | .code (.goto l)::k=>match gotoIn l k with
     |some k'=>some (.go {c with todo:=k'} H n [] [])
     |none=>Sl c H n (some (.goto l))
   | .code (.region _ ops draw)::k=>match gq P F Xu rec ops ops.toList c.tmps H n with
     |some (Qz,.ok T' H' n')=>bif !draw || (WV 0 ops.toList && indep ops 0 Qz (Py ops.toList []))then some (.go {c with tmps:=T',todo:=k} H' n' (Y5 Qz) (Ub Qz))else none
     |some (Qz,.We T' v H' n' R W)=>bif !draw || TI ops Qz T' then some (.go {c with tmps:=T',mode:=.We v} H' n' (Y5 Qz++R) (Ub Qz++W))else none
     |none=>none
   | .code (.rangeFunc f params assign body)::k=>match Zd c.tmps f with
     |some fv=>
      match Kh c H n params assign body with
      |some (H1,l,ds,R1)=>match Sa F H1 fv #[.func (.yield l) #[] #[]]with
       |some (.enter g args,R2)=>match ZY P g args with
        |some c1=>match rec c1 H1 (l+1)with
         |some s=>match s.out with
          | .ret _=>some (.go {c with todo:=.endRangeFunc l::k,defers:=ds++c.defers} s.H s.n (R1++R2++s.R) s.W)
          | .We v=>some (.go {c with mode:=.We v,defers:=ds++c.defers} s.H s.n (R1++R2++s.R) s.W)
         |none=>none
        |none=>none
       |_=>none
      |none=>none
     |none=>none
   | .endRangeFunc l::k=>match Qw H l with
     |some (.loop r)=>bif !(decide (r.state=.busy))then some (.go {c with todo:=(r.pending.map Item.code).toList++k} (VA H l (.loop {r with state:=.exhausted})) n [l] [l])else none
     |_=>none
   | .beginRound::k=>match c.roundOf with
     |some l=>match Qw H l with
      |some (.loop r)=>bif decide (r.state=.ready)then some (.go {c with todo:=k} (VA H l (.loop {r with state:=.busy})) n [l] [l])else none
      |_=>none
     |none=>none
   |_=>none
 |m=>match c.defers with
  |d::ds=>match Qw H d with
   |some (.deferred (some []))=>some (.go {c with defers:=ds} (VA H d (.deferred none)) n [d] [d])
   |_=>none
  |[]=>match m with
   | .We v=>bif Mt P c.fn then some (.done (.We v) H n [] [])else none
   |_=>match c.roundOf,tt P c.fn H c.tmps with
    |none,some (v,R)=>some (.done (.ret v) H n R [])
    |_,_=>none
def ZT(b:Nat):List Nat->List Nat->List Nat
 |[],acc=>acc
 |x::l,acc=>ZT b l (bif Lr x b && !(acc.contains x)then x::acc else acc)
theorem o7{b:Nat}:∀(l acc:List Nat) (i:Nat),(i∈ZT b l acc->i∈acc\/(i∈l/\i<b))/\(i∈acc->i∈ZT b l acc)/\(i∈l->i<b->i∈ZT b l acc)
 |[],acc,i=>⟨fun h=>.inl h,fun h=>h,fun h=>by simp at h⟩
 |x::l,acc,i=>by
  obtain⟨h1,h2,h3⟩:=o7 l (bif Lr x b && !(acc.contains x)then x::acc else acc) i;have hb:Lr x b=true<->x<b:=⟨fun h=>YL h,fun h=>LH h⟩
  simp only[ZT];cases hc:(Lr x b && !(acc.contains x))with
  |true=>
   rw[hc]at h1 h2 h3;simp only[cond_true]at h1 h2 h3 ⊢;simp only[YB]at hc;refine⟨fun h=> ?_,fun h=>h2 (Lt _ h),fun h hl=> ?_⟩
   ·rcases h1 h with h|h
    ·rcases List.mem_cons.1 h with rfl|h
     ·exact .inr ⟨by simp,hb.1 hc.1⟩
     ·exact .inl h
    ·exact .inr ⟨Lt _ h.1,h.2⟩
   ·rcases List.mem_cons.1 h with rfl|h
    ·exact h2 (by simp)
    ·exact h3 h hl
  |false=>
   rw[hc]at h1 h2 h3;simp only[cond_false]at h1 h2 h3 ⊢;refine⟨fun h=>(h1 h).imp id fun h=>⟨Lt _ h.1,h.2⟩,h2,fun h hl=> ?_⟩;rcases List.mem_cons.1 h with rfl|h
   ·rw[hb.2 hl]at hc;simp only[Bool.true_and,Bool.not_eq_false',List.contains_iff_mem]at hc;exact h2 hc
   ·exact h3 h hl
def oK(P:Program)(F:FuncId->Bool)(Xu:WW):Nat->Nat->CF->Qt->Nat->List Nat->List Nat->Option Rs
 |0,_,_,_,_,_,_=>none
 |fuel+1,b,c,H,n,R,W=>
  match RV P F Xu (fun c1 H1 n1=>oK P F Xu fuel n1 c1 H1 n1 [] []) c H n with
  |some (.go c' H' n' R' W')=>oK P F Xu fuel b c' H' n' (ZT b R' R) (ZT b W' W)
  |some (.done out H' n' R' W')=>some ⟨out,H',n',ZT b R' R,ZT b W' W⟩
  |none=>none
end Go.CE

namespace Go.CE
open Go Go.RowKit

inductive IR (μ:Mu):Item->Item->Prop
 |code (c):IR μ (.code c) (.code c)
 |inBlock (id):IR μ (.inBlock id) (.inBlock id)
 |inLoop (c):IR μ (.inLoop c) (.inLoop c)
 |inScope (c):IR μ (.inScope c) (.inScope c)
 |beginRound:IR μ .beginRound .beginRound
 |endRF {l im}:μ l=some im->IR μ (.endRangeFunc l) (.endRangeFunc im.Zt)
inductive TodoR (μ:Mu):List Item->List Item->Prop
 |nil:TodoR μ [] []
 |cons {x x' l l'}:IR μ x x'->TodoR μ l l'->TodoR μ (x::l) (x'::l')
theorem IR.mono{μ μ':Mu}(e:Ext μ μ'){x x':Item}(h:IR μ x x'):IR μ' x x':=by
 cases h with
 |code c=>exact .code c
 |inBlock id=>exact .inBlock id
 |inLoop c=>exact .inLoop c
 |inScope c=>exact .inScope c
 |beginRound=>exact .beginRound
 |endRF h=>exact .endRF (e _ _ h)
theorem TodoR.mono{μ μ':Mu}(e:Ext μ μ'){l l':List Item}(h:TodoR μ l l'):TodoR μ' l l':=by
 induction h with
 |nil=>exact .nil
 |cons h _ ih=>exact .cons (h.mono e) ih
inductive DfR (μ:Mu):List Nat->List Deferred->Prop
 |nil:DfR μ [] []
 |cons {d im l l'}:μ d=some im->DfR μ l l'->DfR μ (d::l) ({target:=.collected im.Zt,args:=#[]}::l')
theorem DfR.mono{μ μ':Mu}(e:Ext μ μ'){l:List Nat}{l':List Deferred}(h:DfR μ l l'):DfR μ' l l':=by
 induction h with
 |nil=>exact .nil
 |cons h _ ih=>exact .cons (e _ _ h) ih
inductive MR (μ:Mu):CM->FrameMode->Prop
 |run:MR μ .run .run
 |ret:MR μ .ret .returning
 |We {v v'}:VR μ v v'->MR μ (.We v) (.panicking [{v:=v',recovered:=false}])
theorem MR.mono{μ μ':Mu}(e:Ext μ μ'){m:CM}{m':FrameMode}(h:MR μ m m'):MR μ' m m':=by
 cases h with
 |run=>exact .run
 |ret=>exact .ret
 |We h=>exact .We (h.mono e)
def RoR(μ:Mu):Option Nat->Option Nat->Prop
 |none,none=>True
 |some l,some l'=> ∃im,μ l=some im/\im.Zt=l'
 |_,_=>False
theorem RoR.mono{μ μ':Mu}(e:Ext μ μ'){a b:Option Nat}(h:RoR μ a b):RoR μ' a b:=by
 cases a <;> cases b <;> first|exact h|skip
 obtain⟨im,h1,h2⟩:=h;exact⟨im,e _ _ h1,h2⟩
def CM.pans:CM->Bool
 | .We _=>true
 |_=>false
structure Bot where
 D:List Deferred
 kd:CallKind
def Bot.no:Bot:=⟨[],.normal⟩
def DfB(Z:Bot)(μ:Mu)(l:List Nat)(l':List Deferred):Prop:=∃L,DfR μ l L/\l'=L++Z.D
theorem DfB.mono{Z:Bot}{μ μ':Mu}{l:List Nat}{l':List Deferred}(h:DfB Z μ l l')(e:Ext μ μ'):DfB Z μ' l l':=let⟨L,h1,h2⟩:=h;⟨L,h1.mono e,h2⟩
theorem DfB.empty{Z:Bot}{μ:Mu}{l':List Deferred}(h:DfB Z μ [] l'):l'=Z.D:=by
 obtain⟨L,h1,h2⟩:=h;cases h1;simpa using h2
theorem DfB.of_empty{Z:Bot}{μ:Mu}{l':List Deferred}(h:l'=Z.D):DfB Z μ [] l':=⟨[],.nil,by simpa using h⟩
theorem DfB.cons_inv{Z:Bot}{μ:Mu}{d:Nat}{l:List Nat}{l':List Deferred}(h:DfB Z μ (d::l) l'):∃im l2,μ d=some im/\l'={target:=.collected im.Zt,args:=#[]}::l2/\DfB Z μ l l2:=by
 obtain⟨L,h1,h2⟩:=h;cases h1 with
 |cons a b=>exact⟨_,_,a,h2,_,b,rfl⟩
structure FrR (Z:Bot) (μ:Mu) (c:CF) (fr:Frame):Prop where
 fn:fr.fn=c.fn
 tmps:TR μ c.tmps fr.tmps
 todo:c.mode.pans=false->TodoR μ c.todo fr.todo
 defers:DfB Z μ c.defers fr.defers
 mode:MR μ c.mode fr.mode
 kind:fr.kind=Z.kd
 round:RoR μ c.roundOf fr.roundOf
theorem OR2.mono{μ μ':Mu}(e:Ext μ μ'){a b:OO}(h:OR2 μ a b):OR2 μ' a b:=by
 cases h with
 |ret h=>exact .ret (h.mono e)
 |We h=>exact .We (h.mono e)
def OO.ending:OO->Ending
 | .ret v=>.returned v
 | .We v=>.panicked [{v,recovered:=false}]
def EndsAs(P:Program)(fr:Frame)(cs:List Frame)(w:World)(out:OO)(w':World):Prop:=
 (fr.roundOf=none->∃frE,Steps P (lone fr cs w) (lone frE cs w')/\frE.fn=fr.fn/\frE.leaving P w' out.ending)/\
 (∀c cs',cs=c::cs'->Steps P (lone fr cs w) (lone (out.on c) cs' w'))
theorem EndsAs.of_steps{P:Program}{fr Sw:Frame}{cs:List Frame}{w w1 w':World}{out:OO}(h:Steps P (lone fr cs w) (lone Sw cs w1))(hr:Sw.roundOf=fr.roundOf)(hf:Sw.fn=fr.fn)(k:EndsAs P Sw cs w1 out w'):EndsAs P fr cs w out w':=by
 refine⟨fun hn=> ?_,fun c cs' e=>h.trans (k.2 c cs' e)⟩;obtain⟨frE,a,b,d⟩:=k.1 (hr.trans hn);exact⟨frE,h.trans a,b.trans hf,d⟩
structure FJ (P:Program) (B:Lo) (c:CF) (H:Qt) (n:Nat) (out:OO) (H':Qt) (n':Nat) (R W:List Nat):Prop where
 shape:Shape H n H' n' R W
 sem:∀(S:Nat->Prop) (μ:Mu) (w:World) (fr:Frame) (cs:List Frame),Ok B S μ (Qw H) w->B.has w->(∀i,S i->i<n)->P0 μ n n'->FrR Bot.no μ c fr->(∀i∈R,i<n->S i)->
  ∃Zg w' μ',Post B S n n' W μ μ' H H' w w'/\OR2 μ' out Zg/\EndsAs P fr cs w Zg w'
def gZ(P:Program)(B:Lo)(rec:CF->Qt->Nat->Option Rs):Prop:=
 ∀c H n s,Under H n->rec c H n=some s->FJ P B c H n s.out s.H s.n s.R s.W
def Ws(P:Program)(B:Lo)(Xu:WW):Prop:=
 ∀g args H n s,Under H n->Xu g args H n=some s->Shape H n s.H s.n s.R s.W/\∀(S:Nat->Prop) (μ:Mu) (w:World) (args':Array Value) (cs:List Frame),Ok B S μ (Qw H) w->B.has w->(∀i,S i->i<n)->P0 μ n s.n->VRs μ args args'->(∀i∈s.R,i<n->S i)->
  ∃Zg w' μ',Post B S n s.n s.W μ μ' H s.H w w'/\OR2 μ' s.out Zg/\EndsAs P (Frame.enter P g args' .normal) cs w Zg w'
theorem bj{P:Program}{fr:Frame}{cs:List Frame}{w:World}{ops:Array Oper}{i:Nat}{rest:List Nat}{k:List Item}{o:Oper}(hm:fr.mode=.run)(ht:fr.todo=.inRegion ops (i::rest)::k)(ho:ops[i]? =some o)
 (hw:Region.wanted o (yielded ops fr.tmps)=true) (hd:∀c,o.op≠.defer c):
 stepG P true {frame:=fr,callers:=cs,status:=.running,dying:=none} w=stepG.apply P true fr cs none (execOp fr.eval o) w:=by
 simp only[stepG,hm];unfold stepG.exec;simp only[ht,ho,LL,hw,Option.getD_some,if_true];unfold stepG.oper;simp only[Frame.oper?,ht,ho];cases hr:fr.roundOf with
 |none=>rfl
 |some l=>
  cases Zj:o.op <;> first|rfl|exact absurd Zj (hd _)
section
variable {P:Program} {o:Oper} {w w1 w':World} {fr:Frame} {cs:List Frame} {ops:Array Oper} {i:Nat} {rest:List Nat} {k:List Item}
theorem Rk{v:Value}(hm:fr.mode=.run)(ht:fr.todo=.inRegion ops (i::rest)::k)(ho:ops[i]? =some o)(hw:Region.wanted o (yielded ops fr.tmps)=true)(hd:∀c,o.op≠.defer c)
 (h:(execOp fr.eval o).run P w=.ok (.value v) w'):Steps P (lone fr cs w) (lone ((OO.ret v).on fr) cs w'):=by
 refine .one (step_lone_go ?_);rw[bj hm ht ho hw hd];simp[stepG.apply,h,OO.on]
theorem DB(hm:fr.mode=.run)(ht:fr.todo=.inRegion ops (i::rest)::k)(ho:ops[i]? =some o)(hw:Region.wanted o (yielded ops fr.tmps)=true)(hd:∀c,o.op≠.defer c)
 (h:(execOp fr.eval o).run P w=.ok .skip w'):Steps P (lone fr cs w) (lone ((OO.ret undef).on fr) cs w'):=by
 refine .one (step_lone_go ?_);rw[bj hm ht ho hw hd];simp[stepG.apply,h,OO.on]
theorem zV{v:Value}(hm:fr.mode=.run)(ht:fr.todo=.inRegion ops (i::rest)::k)(ho:ops[i]? =some o)(hw:Region.wanted o (yielded ops fr.tmps)=true)(hd:∀c,o.op≠.defer c)
 (h:(execOp fr.eval o).run P w=.halt (.panic v) w'):Steps P (lone fr cs w) (lone ((OO.We v).on fr) cs w'):=by
 refine .one (step_lone_go ?_);rw[bj hm ht ho hw hd];simp[stepG.apply,h,OO.on]
theorem m6{f:FuncId}{args:Array Value}{out:OO}(hm:fr.mode=.run)(ht:fr.todo=.inRegion ops (i::rest)::k)(ho:ops[i]? =some o)(hw:Region.wanted o (yielded ops fr.tmps)=true)(hd:∀c,o.op≠.defer c)
 (h:(execOp fr.eval o).run P w=.ok (.enter f args) w1) (q:EndsAs P (Frame.enter P f args .normal) (fr::cs) w1 out w'):Steps P (lone fr cs w) (lone (out.on fr) cs w'):=by
 refine .head (step_lone_go (fr':=Frame.enter P f args .normal) (cs':=fr::cs) (w':=w1) ?_) (q.2 fr cs rfl);rw[bj hm ht ho hw hd];simp[stepG.apply,h,ht]
theorem zU{l:Nat}{f:FuncId}{tm:Array Value}{a b:Code}{out:OO}(hm:fr.mode=.run)(ht:fr.todo=.inRegion ops (i::rest)::k)(ho:ops[i]? =some o)(hw:Region.wanted o (yielded ops fr.tmps)=true)(hd:∀c,o.op≠.defer c)
 (h:(execOp fr.eval o).run P w=.ok (.round l f tm a b) w1) (q:EndsAs P (Frame.round l f tm a b .normal) (fr::cs) w1 out w'):Steps P (lone fr cs w) (lone (out.on fr) cs w'):=by
 refine .head (step_lone_go (fr':=Frame.round l f tm a b .normal) (cs':=fr::cs) (w':=w1) ?_) (q.2 fr cs rfl);rw[bj hm ht ho hw hd];simp[stepG.apply,h]
end

theorem jI:∀(l:List Value) (i:Nat) (t:Tri) (j:Nat),i+l.length<=16000->(Og l i t).get j=if i<=j/\j<i+l.length then l.getD (j-i) undef else t.get j
 |[],i,t,j,_=>by simp[Og];omega
 |v::l,i,t,j,h=>by
  simp only[Li]at h;simp only[Og];rw[jI l (i+1) _ j (by omega),Tri.get_set 14 t i v j (OE i (by omega))];simp only[Li];by_cases h1:i+1<=j/\j<i+1+l.length
  ·rw[if_pos h1,if_pos (by omega)];rw[show j-i=(j-(i+1))+1 by omega];rfl
  ·rw[if_neg h1];by_cases h2:j=i
   ·subst h2;rw[if_pos rfl,if_pos (by omega)];simp
   ·rw[if_neg h2,if_neg (by omega)]
theorem qa{μ:Mu}{xs xs':Array Value}(h:VRs μ xs xs'){m:Nat}(hm:xs.size+(m-xs.size)<=16000):TR μ (ofList (xs.size+(m-xs.size)) xs.toList) (xs'++Array.replicate (m-xs'.size) undef):=by
 refine⟨by simp[ofList,h.1],fun t=> ?_⟩;simp only[XT,ofList];rw[jI _ _ _ _ (by simp;omega)];simp only[Nat.zero_le,true_and,LD,Array.length_toList,Nat.sub_zero,Tri.get_lf];by_cases ht:t<xs.size
 ·rw[if_pos ht];have ht':t<xs'.size:=h.1 ▸ ht;have:=h.2 t xs[t] xs'[t] (by simp[ht]) (by simp[ht']);simpa[ht,ht',Array.getElem?_append]using this
 ·rw[if_neg ht];have ht':¬t<xs'.size:=h.1 ▸ ht;have e:(xs'++Array.replicate (m-xs'.size) undef).getD t undef=undef:=by
   by_cases h2:t-xs'.size<m-xs'.size
   ·simp[Array.getElem?_append,ht',h2]
   ·simp[Array.getElem?_append,ht',h2]
  rw[e];exact VR.undef
theorem Mn{μ:Mu}{xs xs':Array Value}(h:VRs μ xs xs')(hm:xs.size<=16000):TR μ (ofList xs.size xs.toList) xs':=by
 have:=qa (m:=0) h (by omega);simpa using this
theorem oe{P:Program}{f:FuncId}{args args':Array Value}{c:CF}{μ:Mu}(kd:CallKind)(h:ZY P f args=some c)(hv:VRs μ args args'):FrR ⟨[],kd⟩ μ c (Frame.enter P f args' kd):=by
 unfold ZY at h;rw[ba,Lq]at h;split at h
 ·rename_i fn hf;split at h
  ·rename_i b hb;have hlim:args.size+(fn.ntmps-args.size)<=16000:=by
    cases hq:LR (args.size+(fn.ntmps-args.size)) 16000 with
    |false=>rw[hq]at h;cases h
    |true=>exact YL hq
   rw[<-ZN h];have ht:=qa (m:=fn.ntmps) hv hlim;exact⟨rfl,by simpa[Frame.enter,hf]using ht,fun _=>by simp only[Frame.enter,hf,Option.bind_some,hb,Option.getD_some];exact .cons (.code _) .nil,.of_empty rfl,.run,rfl,trivial⟩
  ·cases h
 ·cases h
theorem UL{P:Program}{f:FuncId}{args args':Array Value}{c:CF}{μ:Mu}(h:ZY P f args=some c)(hv:VRs μ args args'):FrR Bot.no μ c (Frame.enter P f args' .normal):=oe .normal h hv
end Go.CE

namespace Go.CE
open Go Go.RowKit

theorem Post.drop{B n n':Nat}{S:Nat->Prop}{μ μ':Mu}{H H':Qt}{w w':World}(h:Post B S n n' [] μ μ' H H' w w')(hu:Under H n):Post B S n n' [] μ μ' H H w w':=by
 have hg:∀i o,Qw H i=some o->S i\/n<=i/\i<n'->S i/\Qw H' i=some o:=by
  intro i o ho hi;have Xp:=hu.lt ho;have hs:=hi.elim id fun h=>absurd h.1 (by omega)
  exact⟨hs,by rw[h.keep i Xp (by simp)];exact ho⟩
 refine⟨⟨fun i o hi ho hl=> ?_,fun i o im hi ho hl QK=> ?_,fun i j oi oj a b hi hj TS Wc Wb=> ?_,fun i o hi ho=> ?_,fun i j oi oj a b x hi hj Wc Wb=> ?_⟩,h.le,h.ext,fun _ _ _=>rfl,h.grow,h.frame,h.wr,fun i im o h1 h2 ho=> ?_,fun i im o h1 ho=> ?_,h.os,h.tape,h.output⟩
 ·exact h.ok.rel i o hi (hg i o ho hi).2 hl
 ·exact h.ok.low i o im hi (hg i o ho hi).2 hl QK
 ·exact h.ok.inj i j oi oj a b hi hj TS (hg i oi Wc hi).2 (hg j oj Wb hj).2
 ·exact h.ok.P1 i o hi (hg i o ho hi).2
 ·exact h.ok.sep i j oi oj a b x hi hj (hg i oi Wc hi).2 (hg j oj Wb hj).2
 ·have:=hu.lt ho;omega
 ·have:=hu.lt ho;rcases h1 with h1|h1
  ·omega
  ·simp at h1
theorem Shape.drop{H H':Qt}{n n':Nat}{R:List Nat}(h:Shape H n H' n' R []):Shape H n H n' R []:=⟨h.le,fun _ _ _=>rfl,fun _ _=>rfl,h.sub,fun _ h=>by simp at h⟩
theorem M4{P:Program}{B:Lo}{c:CF}{H:Qt}{n:Nat}{s:Rs}(hu:Under H n)(h:FJ P B c H n s.out s.H s.n s.R s.W):FJ P B c H n (Jj H s).out (Jj H s).H (Jj H s).n (Jj H s).R (Jj H s).W:=by
 unfold Jj;split
 ·rename_i v hW hv;cases ha:af v with
  |false=>exact h
  |true=>
   simp only[cond_true];rw[hW]at h;refine⟨by rw[hW];exact h.shape.drop,fun S μ w fr cs QE hB hS hf XF hR=> ?_⟩;obtain⟨Zg,w',μ',hp,ho,he⟩:=h.sem S μ w fr cs QE hB hS hf XF hR;exact⟨Zg,w',μ',by rw[hW];exact hp.drop hu,ho,he⟩
 ·exact h
theorem GW{P:Program}{F:FuncId->Bool}{Xu:WW}{rec:CF->Qt->Nat->Option Rs}{T:Tm}{o:Oper}{H:Qt}{n:Nat}{s:Rs}(h:dn P F Xu rec T o H n=some s):∀c,o.op≠.defer c:=by
 intro c e;simp[dn,e]at h
theorem YV{P:Program}{F:FuncId->Bool}{Xu:WW}{B:Lo}{rec:CF->Qt->Nat->Option Rs}(hF:∀g,F g=true->Q6 P g=true)(Vs:gZ P B rec)(ZX:Ws P B Xu){T:Tm}{o:Oper}{H:Qt}{n:Nat}{s:Rs}(hu:Under H n)
 (h:dn P F Xu rec T o H n=some s):Tk P B o (Zd T) H n s.out s.H s.n s.R s.W/\Shape H n s.H s.n s.R s.W:=by
 have hd:=GW h;unfold dn at h;split at h
 ·cases h
 ·-- panic
  rename_i x Zj;split at h
  ·rename_i t v hx;simp only[YO]at h;subst h;refine⟨fun S μ w fr cs k ops i rest QE hB hS hf XP hR hm ht ho hw=> ?_,Shape.same _ _ _⟩;have hv:=XP x (by simp[Zj,Op.operands]) _ hx;generalize hg:fr.eval x=u at hv;cases hv with
   |iface ZQ=>
    rename_i v';exact⟨.We (.iface t v'),w,μ,Post.refl QE,.We (.iface ZQ),zV hm ht ho hw hd (by simp[execOp,Zj,hg,Instr.panic])⟩
  ·cases h
 ·split at h
  ·rename_i r hrr;obtain⟨hr,hRlt⟩:=om hrr;have hsnd:=M6 (B:=B) hF hr;have RU:=gS hu hr;have hu1:=hu.shape RU;split at h
   ·-- a value
    rename_i v hnx;simp only[YO]at h;subst h;refine⟨fun S μ w fr cs k ops i rest QE hB hS hf XP hR hm ht ho hw=> ?_,RU⟩;obtain⟨nx,w',μ',VU,hp,hnr⟩:=hsnd S μ fr.eval w QE hB.le hS hf XP (fun q hq=>hR q hq (hRlt q hq));rw[hnx]at hnr;cases hnr with
    |val hv=>exact⟨_,w',μ',hp,.ret hv,Rk hm ht ho hw hd VU⟩
    |skip=>exact⟨_,w',μ',hp,.ret VR.undef,DB hm ht ho hw hd VU⟩
   ·-- a call
    rename_i g args hnx;split at h
    ·-- known
     rename_i s1 hs1;obtain⟨hsh1,hsem⟩:=ZX g args r.H r.n s1 hu1 hs1;simp only[YO]at h;subst h;refine⟨fun S μ w fr cs k ops i rest QE hB hS hf XP hR hm ht ho hw=> ?_,RU.trans hsh1⟩;simp only at hf hR;have l1:=RU.le;have l2:=hsh1.le;obtain⟨nx,w1,μ1,VU,hp,hnr⟩:=hsnd S μ fr.eval w QE hB.le hS (fun q a b=>hf q a (by omega)) XP (fun q hq=>hR q (Ln _ hq) (hRlt q hq));rw[hnx]at hnr;cases hnr with
     |enter ha=>
      obtain⟨Zg,w',μ',Sm,ho2,hends⟩:=hsem _ μ1 w1 _ (fr::cs) hp.ok (hB.post QE hp) (fun q hq=>hq.elim (fun e=>by have:=hS q e;omega) (fun e=>e.2))
       (fun q a b=>by rw[hp.ext q (by omega)];exact hf q (by omega) b) ha (fun q hq Xp=>by
        rcases LK q n with h1|h1
        ·exact .inl (hR q (Lw _ hq) h1)
        ·exact .inr ⟨h1,Xp⟩)
      exact⟨Zg,w',μ',hp.trans Sm,ho2,m6 hm ht ho hw hd VU hends⟩
    ·split at h
     ·rename_i c hc;split at h
      ·rename_i s0 hs0;have hfj0:=Vs c r.H r.n s0 hu1 hs0;have hfj:=M4 hu1 hfj0;generalize hdn:Jj r.H s0=s1 at h hfj;simp only[YO]at h;subst h;refine⟨fun S μ w fr cs k ops i rest QE hB hS hf XP hR hm ht ho hw=> ?_,RU.trans hfj.shape⟩;simp only at hf hR;have l1:=RU.le;have l2:=hfj.shape.le;obtain⟨nx,w1,μ1,VU,hp,hnr⟩:=hsnd S μ fr.eval w QE hB.le hS (fun q a b=>hf q a (by omega)) XP (fun q hq=>hR q (Ln _ hq) (hRlt q hq));rw[hnx]at hnr;cases hnr with
       |enter ha=>
        obtain⟨Zg,w',μ',Sm,ho2,hends⟩:=hfj.sem _ μ1 w1 _ (fr::cs) hp.ok (hB.post QE hp) (fun q hq=>hq.elim (fun e=>by have:=hS q e;omega) (fun e=>e.2))
         (fun q a b=>by rw[hp.ext q (by omega)];exact hf q (by omega) b) (UL hc ha) (fun q hq Xp=>by
          rcases LK q n with h1|h1
          ·exact .inl (hR q (Lw _ hq) h1)
          ·exact .inr ⟨h1,Xp⟩)
        exact⟨Zg,w',μ',hp.trans Sm,ho2,m6 hm ht ho hw hd VU hends⟩
      ·cases h
     ·cases h
   ·-- a round
    rename_i l fn tm a b hnx;have hlim:tm.size<=16000:=by
     cases hq:LR tm.size 16000 with
     |true=>exact YL hq
     |false=>rw[hq]at h;cases h
    have h:=Je h;split at h
    ·rename_i s1 hs1;have hfj:=Vs _ r.H r.n s1 hu1 hs1;simp only[YO]at h;subst h;refine⟨fun S μ w fr cs k ops i rest QE hB hS hf XP hR hm ht ho hw=> ?_,RU.trans hfj.shape⟩;simp only at hf hR;have l1:=RU.le;have l2:=hfj.shape.le;obtain⟨nx,w1,μ1,VU,hp,hnr⟩:=hsnd S μ fr.eval w QE hB.le hS (fun q a b=>hf q a (by omega)) XP (fun q hq=>hR q (Ln _ hq) (hRlt q hq));rw[hnx]at hnr;cases hnr with
     |round QK hv=>
      rename_i im xs';obtain⟨Zg,w',μ',Sm,ho2,hends⟩:=hfj.sem _ μ1 w1 (Frame.round im.Zt fn xs' a b .normal) (fr::cs) hp.ok (hB.post QE hp) (fun q hq=>hq.elim (fun e=>by have:=hS q e;omega) (fun e=>e.2))
       (fun q a b=>by rw[hp.ext q (by omega)];exact hf q (by omega) b)
       ⟨rfl,Mn hv hlim,fun _=>.cons (.code _) (.cons .beginRound (.cons (.code _) .nil)),.of_empty rfl,.run,rfl,im,QK,rfl⟩ (fun q hq Xp=>by
        rcases LK q n with h1|h1
        ·exact .inl (hR q (Lw _ hq) h1)
        ·exact .inr ⟨h1,Xp⟩)
      exact⟨Zg,w',μ',hp.trans Sm,ho2,zU hm ht ho hw hd VU hends⟩
    ·cases h
  ·cases h
end Go.CE

namespace Go.CE
open Go Go.RowKit

theorem qi{μ:Mu}{T:Tm}{fr:Frame}(h:TR μ T fr.tmps)(y:Operand)(v:Value)(hv:Zd T y=some v):VR μ v (fr.eval y):=by
 cases y with
 |tmp t=>
  simp only[Zd,YO]at hv;subst hv;exact h.2 t
 |const u=>
  simp only[Zd]at hv;cases ha:af u with
  |false=>rw[ha]at hv;cases hv
  |true=>rw[ha]at hv;simp only[cond_true,YO]at hv;subst hv;exact PC ha
 |func f=>
  simp only[Zd,YO]at hv;subst hv;exact PC rfl
 |global g=>cases hv
theorem Y8{μ:Mu}{T:Tm}{A:Array Value}(h:TR μ T A)(ops:Array Oper):yielded ops A=XO ops T:=by
 funext j;rw[kg,h8];cases(ops[j]?).bind (·.dst)with
 |none=>rfl
 |some t=>exact BH (h.2 t)
def putA(A:Array Value)(v:Value):Option Tmp->Array Value
 |some d=>A.setIfInBounds d v
 |none=>A
theorem TR.putA{μ:Mu}{T:Tm}{A:Array Value}(h:TR μ T A){d:Option Tmp}(hd:∀x,d=some x->x<T.len/\x<16000){v v':Value}(hv:VR μ v v'):TR μ (VB T d v) (putA A v' d):=by
 have:=h.put hd hv;cases d <;> exact this
theorem RX{fr:Frame}{A:Array Value}{ops:Array Oper}{i:Nat}{l:List Nat}{k:List Item}{o:Oper}(ho:ops[i]? =some o)(v:Value):
 (Xw fr A ops (i::l) k).finish v=Xw fr (putA A v o.dst) ops l k:=by
 rw[TZ ho];cases o.dst <;> rfl
theorem Rp{T:Tm}{d:Option Tmp}(h:Rq T d=true):∀x,d=some x->x<T.len/\x<16000:=by
 intro x hx;subst hx;simp only[Rq,YB]at h;exact⟨YL h.1,YL h.2⟩
def RunOk(P:Program)(B:Lo)(ops:Array Oper)(l:List Oper)(Qz:List Rec)(T:Tm)(H:Qt)(n:Nat):RF->Prop
 | .ok T' H' n'=>Yf Qz T H n T' H' n'/\Qz.map (·.o)=l/\Under H' n'
 | .We T1 v H' n' R W=> ∃H1 n1 o l2,Yf Qz T H n T1 H1 n1/\Qz.map (·.o)++o::l2=l/\Region.wanted o (XO ops T1)=true/\Tk P B o (Zd T1) H1 n1 (.We v) H' n' R W/\Shape H1 n1 H' n' R W
theorem RunOk.cons{P:Program}{B:Lo}{ops:Array Oper}{l:List Oper}{Qz:List Rec}{T:Tm}{H:Qt}{n:Nat}{fin:RF}{r:Rec}(hT:r.T=T)(hH:r.H=H)(hn:r.n=n)(h:RunOk P B ops l Qz (VB T r.o.dst r.v) r.H' r.n' fin):RunOk P B ops (r.o::l) (r::Qz) T H n fin:=by
 cases fin with
 |ok T' H' n'=>
  obtain⟨h1,h2,h3⟩:=h;exact⟨⟨hT,hH,hn,h1⟩,by simp[h2],h3⟩
 |We T1 v H' n' R W=>
  obtain⟨H1,n1,o,l2,h1,h2,h3⟩:=h;exact⟨H1,n1,o,l2,⟨hT,hH,hn,h1⟩,by simp[h2],h3⟩
section
variable {P:Program} {F:FuncId->Bool} {Xu:WW} {B:Lo} {rec:CF->Qt->Nat->Option Rs}
theorem K1(hF:∀g,F g=true->Q6 P g=true)(Vs:gZ P B rec)(ZX:Ws P B Xu){ops:Array Oper}{len:Nat}:∀(l:List Oper) (T:Tm) (H:Qt) (n:Nat) (Qz:List Rec) (fin:RF),T.len=len->Under H n->gq P F Xu rec ops l T H n=some (Qz,fin)->
 (∀r∈Qz,cn len r)/\(∀r∈Qz,Se P B ops r)/\RunOk P B ops l Qz T H n fin
 |[],T,H,n,Qz,fin,hl,hu,h=>by
  simp only[gq,YO,YR]at h;obtain⟨rfl,rfl⟩:=h;exact⟨fun r hr=>by simp at hr,fun r hr=>by simp at hr,⟨rfl,rfl,rfl⟩,rfl,hu⟩
 |o::l,T,H,n,Qz,fin,hl,hu,h=>by
  simp only[gq]at h;cases hd:Rq T o.dst with
  |false=>rw[hd]at h;cases h
  |true=>
   have hdst:=Rp hd;rw[hl]at hdst;rw[hd]at h;simp only[cond_true]at h;cases hw:Region.wanted o (XO ops T)with
   |true=>
    rw[hw]at h;simp only[cond_true]at h;split at h
    ·rename_i s hs;obtain⟨hdo,RU⟩:=YV hF Vs ZX hu hs;split at h
     ·rename_i v hv;split at h
      ·rename_i rs fin' hr;simp only[YO,YR]at h;obtain⟨rfl,rfl⟩:=h;obtain⟨h1,h2,h3⟩:=K1 hF Vs ZX (ops:=ops) (len:=len) l (VB T o.dst v) s.H s.n rs fin' (by rw[Ka];exact hl) (hu.shape RU) hr;refine⟨fun r hr=> ?_,fun r hr=> ?_,RunOk.cons rfl rfl rfl h3⟩
       ·rcases List.mem_cons.1 hr with rfl|hr
        ·exact⟨RU.le,RU.keep,RU.top,RU.sub,RU.wlt,hdst⟩
        ·exact h1 r hr
       ·rcases List.mem_cons.1 hr with rfl|hr
        ·exact⟨hw.symm,(fun _=>by rw[hv]at hdo;exact hdo),(fun e=>by cases e)⟩
        ·exact h2 r hr
      ·cases h
     ·rename_i v hv;simp only[YO,YR]at h;obtain⟨rfl,rfl⟩:=h;rw[hv]at hdo;exact⟨fun r hr=>by simp at hr,fun r hr=>by simp at hr,H,n,o,l,⟨rfl,rfl,rfl⟩,rfl,hw,hdo,RU⟩
    ·cases h
   |false=>
    rw[hw]at h;simp only[cond_false]at h;split at h
    ·rename_i rs fin' hr;simp only[YO,YR]at h;obtain⟨rfl,rfl⟩:=h;obtain⟨h1,h2,h3⟩:=K1 hF Vs ZX (ops:=ops) (len:=len) l (VB T o.dst undef) H n rs fin' (by rw[Ka];exact hl) hu hr;refine⟨fun r hr=> ?_,fun r hr=> ?_,RunOk.cons rfl rfl rfl h3⟩
     ·rcases List.mem_cons.1 hr with rfl|hr
      ·exact⟨LI _,fun _ _ _=>rfl,fun _ _=>rfl,fun i hi=>by simp at hi,fun i hi=>by simp at hi,hdst⟩
      ·exact h1 r hr
     ·rcases List.mem_cons.1 hr with rfl|hr
      ·exact⟨hw.symm,(fun e=>by cases e),fun _=>⟨rfl,rfl,rfl,rfl⟩⟩
      ·exact h2 r hr
    ·cases h
end
theorem ZZ{len:Nat}:∀(l:List Rec) (T:Tm) (H:Qt) (n:Nat) (T':Tm) (H':Qt) (n':Nat),Yf l T H n T' H' n'->(∀r∈l,cn len r)->Shape H n H' n' (Y5 l) (Ub l)
 |[],T,H,n,T',H',n',h,_=>by
  obtain⟨rfl,rfl,rfl⟩:=h;exact Shape.same _ _ _
 |r::l,T,H,n,T',H',n',h,hs=>by
  obtain⟨h1,h2,h3,h4⟩:=h;have hr:=hs r (by simp);have:=ZZ l _ _ _ _ _ _ h4 fun x hx=>hs x (Lt _ hx)
  have h0:Shape H n r.H' r.n' r.R r.W:=by
   subst h2 h3;exact⟨hr.le,hr.keep,hr.top,hr.sub,hr.wlt⟩
  exact h0.trans this
section
variable {P:Program} {B:Lo} {ops:Array Oper}
theorem b5{len:Nat}{fr:Frame}{cs:List Frame}{k:List Item}(hm:fr.mode=.run):∀(Qz:List Rec) (i:Nat) (T:Tm) (H:Qt) (n:Nat) (T':Tm) (H':Qt) (n':Nat) (rest:List Nat),Yf Qz T H n T' H' n'->(∀r∈Qz,cn len r)->(∀r∈Qz,Se P B ops r)->
 (∀(j:Nat) r,Qz[j]? =some r->ops[i+j]? =some r.o)->T.len=len->∀(S:Nat->Prop) (μ:Mu) (w:World) (A:Array Value),Ok B S μ (Qw H) w->B.has w->(∀i,S i->i<n)->P0 μ n n'->(∀i∈Y5 Qz,i<n->S i)->TR μ T A->
 ∃μ' A' w',Post B S n n' (Ub Qz) μ μ' H H' w w'/\TR μ' T' A'/\Steps P (lone (Xw fr A ops (LM i Qz.length++rest) k) cs w) (lone (Xw fr A' ops rest k) cs w')
 |[],i,T,H,n,T',H',n',rest,h,_,_,_,_,S,μ,w,A,QE,_,_,_,_,ht=>by
  obtain⟨rfl,rfl,rfl⟩:=h;exact⟨μ,A,w,Post.refl QE,ht,Steps.refl _ _⟩
 |r::l,i,T,H,n,T',H',n',rest,h,hs,hk,ho,hl,S,μ,w,A,QE,hB,hS,hf,hR,ht=>by
  obtain⟨h1,h2,h3,h4⟩:=h;have hr:=hs r (by simp);obtain⟨VU,hdo,hno⟩:=hk r (by simp);have Wc:=ho 0 r rfl;rw[Nat.add_zero]at Wc;have hl4:=ZZ l _ _ _ _ _ _ h4 fun x hx=>hs x (Lt _ hx)
  have le1:=hr.le;have le2:=hl4.le;have hdst:∀x,r.o.dst=some x->x<T.len/\x<16000:=by rw[hl];exact hr.dst
  have next:∀(μ1:Mu) (A1:Array Value) (w1:World),Post B S n r.n' r.W μ μ1 H r.H' w w1->TR μ1 (VB T r.o.dst r.v) A1->Steps P (lone (Xw fr A ops (i::(LM (i+1) l.length++rest)) k) cs w) (lone (Xw fr A1 ops (LM (i+1) l.length++rest) k) cs w1)->
   ∃μ' A' w',Post B S n n' (Ub (r::l)) μ μ' H H' w w'/\TR μ' T' A'/\Steps P (lone (Xw fr A ops (LM i (r::l).length++rest) k) cs w) (lone (Xw fr A' ops rest k) cs w'):=by
   intro μ1 A1 w1 hp ht1 Zh;subst h3;obtain⟨μ',A',w',q1,q2,q3⟩:=b5 hm l (i+1) _ _ _ _ _ _ rest h4 (fun x hx=>hs x (Lt _ hx)) (fun x hx=>hk x (Lt _ hx))
    (fun j x hx=>by have:=ho (j+1) x (by simpa using hx);rwa[show i+(j+1)=i+1+j by omega]at this) (by rw[Ka];exact hl) _ μ1 w1 A1 hp.ok (hB.post QE hp) (fun q hq=>hq.elim (fun e=>by have:=hS q e;omega) (fun e=>e.2))
    (fun q a b=>by rw[hp.ext q (by omega)];exact hf q (by omega) b) (fun q hq Xp=>by
     rcases LK q r.n with h1|h1
     ·exact .inl (hR q (Lw _ hq) h1)
     ·exact .inr ⟨h1,Xp⟩) ht1
   exact⟨μ',A',w',hp.trans q1,q2,by rw[Li,List.range'_succ];exact Zh.trans q3⟩
  cases hrx:r.run with
  |false=>
   obtain⟨hv,hH,hnn,hW⟩:=hno hrx;have Ya:Region.wanted r.o (yielded ops A)=false:=by rw[Y8 ht,<-h1,<-VU];exact hrx
   refine next μ _ w ?_ (ht.putA hdst (v':=undef) (by rw[hv];exact VR.undef)) (Steps.one ((dI hm Wc Ya).trans (by rw[RX Wc])));rw[hH,hnn,hW,h2,h3];exact Post.refl QE
  |true=>
   have Ya:Region.wanted r.o (yielded ops A)=true:=by rw[Y8 ht,<-h1,<-VU];exact hrx
   have hd:=hdo hrx;rw[h1,h2,h3]at hd;have XF:P0 μ n r.n':=fun q a b=>hf q a (by omega)
   obtain⟨Zg,w1,μ1,hp,ZU,Zh⟩:=hd S μ w (Xw fr A ops (i::(LM (i+1) l.length++rest)) k) cs k ops i _ QE hB hS XF (fun x _ v hv=>qi (fr:=Xw fr A ops (i::(LM (i+1) l.length++rest)) k) ht x v hv)
    (fun q hq Xp=>hR q (Ln _ hq) Xp) hm rfl Wc Ya
   cases ZU with
   |ret hv=>
    rename_i v';refine next μ1 _ w1 hp ((ht.mono (hp.mu XF)).putA hdst hv) (Zh.trans ?_);simp only[OO.on];rw[RX Wc];exact Steps.refl _ _
end
end Go.CE

namespace Go.CE
open Go Go.RowKit

theorem TodoR.inv{μ:Mu}{x:Item}{l L:List Item}(h:TodoR μ (x::l) L):∃x' L',L=x'::L'/\IR μ x x'/\TodoR μ l L':=by
 cases h with
 |cons a b=>exact⟨_,_,rfl,a,b⟩
theorem TodoR.inv_nil{μ:Mu}{L:List Item}(h:TodoR μ [] L):L=[]:=by cases h;rfl
theorem IR.code_inv{μ:Mu}{a:Code}{x':Item}(h:IR μ (.code a) x'):x'=.code a:=by cases h;rfl
theorem TodoR.code{μ:Mu}{a:Code}{l L:List Item}(h:TodoR μ (.code a::l) L):∃L',L=.code a::L'/\TodoR μ l L':=by
 obtain⟨x',L',e,hi,hk⟩:=h.inv;rw[hi.code_inv]at e;exact⟨L',e,hk⟩
theorem xL{μ:Mu}{id:Nat}{l L:List Item}(h:TodoR μ l L):(∀k,exitTo id l=some k->∃k',exitTo id L=some k'/\TodoR μ k k')/\(exitTo id l=none->exitTo id L=none):=by
 induction h with
 |nil=>exact⟨fun k h=>by simp[exitTo]at h,fun _=>rfl⟩
 |cons hi hk ih=>
  cases hi with
  |inBlock id'=>
   simp only[exitTo];by_cases e:(id'==id)=true
   ·rw[if_pos e,if_pos e];exact⟨fun k h=>⟨_,rfl,by simp only[YO]at h;subst h;exact hk⟩,fun h=>by cases h⟩
   ·rw[if_neg e,if_neg e];exact ih
  |code c=>simpa only[exitTo]using ih
  |inLoop c=>simpa only[exitTo]using ih
  |inScope c=>simpa only[exitTo]using ih
  |beginRound=>simpa only[exitTo]using ih
  |endRF h=>simpa only[exitTo]using ih
theorem xI{μ:Mu}{lb:Nat}{l L:List Item}(h:TodoR μ l L):(∀k,gotoIn lb l=some k->∃k',gotoIn lb L=some k'/\TodoR μ k k')/\(gotoIn lb l=none->gotoIn lb L=none):=by
 induction h with
 |nil=>exact⟨fun k h=>by simp[gotoIn]at h,fun _=>rfl⟩
 |cons hi hk ih=>
  cases hi with
  |inScope b=>
   simp only[gotoIn];cases findLabel b lb with
   |some r=>exact⟨fun k h=>⟨_,rfl,by simp only[YO]at h;subst h;exact .cons (.code _) (.cons (.inScope _) hk)⟩,fun h=>by cases h⟩
   |none=>exact ih
  |code c=>simpa only[gotoIn]using ih
  |inLoop c=>simpa only[gotoIn]using ih
  |inBlock c=>simpa only[gotoIn]using ih
  |beginRound=>simpa only[gotoIn]using ih
  |endRF h=>simpa only[gotoIn]using ih
structure GoJ (P:Program) (B:Lo) (c:CF) (H:Qt) (n:Nat) (c':CF) (H':Qt) (n':Nat) (R W:List Nat):Prop where
 shape:Shape H n H' n' R W
 sem:∀(S:Nat->Prop) (μ:Mu) (w:World) (fr:Frame) (cs:List Frame) (Z:Bot),Ok B S μ (Qw H) w->B.has w->(∀i,S i->i<n)->P0 μ n n'->FrR Z μ c fr->(∀i∈R,i<n->S i)->
  ∃fr' w' μ',Post B S n n' W μ μ' H H' w w'/\FrR Z μ' c' fr'/\fr'.roundOf=fr.roundOf/\fr'.fn=fr.fn/\Steps P (lone fr cs w) (lone fr' cs w')
theorem GoJ.fj{P:Program}{B:Lo}{c c':CF}{H H' H'':Qt}{n n' n'':Nat}{R R' W W':List Nat}{out:OO}(h:GoJ P B c H n c' H' n' R W)(k:FJ P B c' H' n' out H'' n'' R' W'):FJ P B c H n out H'' n'' (R++R') (W++W'):=by
 refine⟨h.shape.trans k.shape,fun S μ w fr cs QE hB hS hf XF hR=> ?_⟩;have l1:=h.shape.le;have l2:=k.shape.le;obtain⟨Sw,w1,μ1,hp,Rz,hr,hfn,Zh⟩:=h.sem S μ w fr cs Bot.no QE hB hS (fun q a b=>hf q a (by omega)) XF (fun q hq Xp=>hR q (Ln _ hq) Xp);obtain⟨Zg,w',μ',Sm,ho,he⟩:=k.sem _ μ1 w1 Sw cs hp.ok (hB.post QE hp) (fun q hq=>hq.elim (fun e=>by have:=hS q e;omega) (fun e=>e.2))
  (fun q a b=>by rw[hp.ext q (by omega)];exact hf q (by omega) b) Rz (fun q hq Xp=>by
   rcases LK q n with h1|h1
   ·exact .inl (hR q (Lw _ hq) h1)
   ·exact .inr ⟨h1,Xp⟩)
 exact⟨Zg,w',μ',hp.trans Sm,ho,he.of_steps Zh hr hfn⟩
theorem FrR.running{Z:Bot}{μ:Mu}{c:CF}{fr:Frame}(h:FrR Z μ c fr)(hm:c.mode=.run):fr.mode=.run/\TR μ c.tmps fr.tmps/\TodoR μ c.todo fr.todo:=by
 refine⟨?_,h.tmps,h.todo (by rw[hm];rfl)⟩;have:=h.mode;rw[hm]at this;generalize fr.mode=m at this;cases this;rfl
section
variable {P:Program} {B:Lo} {c:CF} {H:Qt} {n:Nat}
theorem Kv{l':List Item}(hm:c.mode=.run)(h:∀μ fr,fr.mode=.run->TR μ c.tmps fr.tmps->TodoR μ c.todo fr.todo->∃L',TodoR μ l' L'/\∀cs w,step P (lone fr cs w)=.next (lone {fr with todo:=L'} cs w)):
 GoJ P B c H n {c with todo:=l'} H n [] []:=by
 refine⟨Shape.same _ _ _,fun S μ w fr cs Z QE hB hS hf XF hR=> ?_⟩;obtain⟨a,b,d⟩:=XF.running hm;obtain⟨L',h1,h2⟩:=h μ fr a b d;exact⟨{fr with todo:=L'},w,μ,Post.refl QE,⟨XF.fn,b,fun _=>h1,XF.defers,XF.mode,XF.kind,XF.round⟩,rfl,rfl,.one (h2 cs w)⟩
theorem My{k:List Item}(hm:c.mode=.run)(ht:c.todo=.code .skip::k):GoJ P B c H n {c with todo:=k} H n [] []:=
 Kv hm fun μ fr a _ d=>by
  rw[ht]at d;obtain⟨L',e,hk⟩:=d.code;exact⟨L',hk,fun cs w=>step_lone_go (by simp[stepG,stepG.exec,a,e])⟩
theorem Hu{k:List Item}{l:Nat}(hm:c.mode=.run)(ht:c.todo=.code (.label l)::k):GoJ P B c H n {c with todo:=k} H n [] []:=
 Kv hm fun μ fr a _ d=>by
  rw[ht]at d;obtain⟨L',e,hk⟩:=d.code;exact⟨L',hk,fun cs w=>step_lone_go (by simp[stepG,stepG.exec,a,e])⟩
theorem A4{k:List Item}{l:Nat}(hm:c.mode=.run)(ht:c.todo=.inBlock l::k):GoJ P B c H n {c with todo:=k} H n [] []:=
 Kv hm fun μ fr a _ d=>by
  rw[ht]at d;obtain⟨x',L',e,hi,hk⟩:=d.inv;cases hi;exact⟨L',hk,fun cs w=>step_lone_go (by simp[stepG,stepG.exec,a,e])⟩
theorem A3{k:List Item}{l:Code}(hm:c.mode=.run)(ht:c.todo=.inScope l::k):GoJ P B c H n {c with todo:=k} H n [] []:=
 Kv hm fun μ fr a _ d=>by
  rw[ht]at d;obtain⟨x',L',e,hi,hk⟩:=d.inv;cases hi;exact⟨L',hk,fun cs w=>step_lone_go (by simp[stepG,stepG.exec,a,e])⟩
theorem NT{k:List Item}{x y:Code}(hm:c.mode=.run)(ht:c.todo=.code (.seq x y)::k):GoJ P B c H n {c with todo:=.code x::.code y::k} H n [] []:=
 Kv hm fun μ fr a _ d=>by
  rw[ht]at d;obtain⟨L',e,hk⟩:=d.code;exact⟨_,.cons (.code _) (.cons (.code _) hk),fun cs w=>step_lone_go (by simp[stepG,stepG.exec,a,e])⟩
theorem M3{k:List Item}{q:Operand}{x y:Code}{t:Bool}(hm:c.mode=.run)(ht:c.todo=.code (.cond q x y)::k)(hq:Zd c.tmps q=some (.bool t)):GoJ P B c H n {c with todo:=.code (bif t then x else y)::k} H n [] []:=
 Kv hm fun μ fr a b d=>by
  rw[ht]at d;obtain⟨L',e,hk⟩:=d.code;have hv:=qi b q _ hq;have hv:fr.eval q=.bool t:=by generalize fr.eval q=u at hv;cases hv;rfl
  exact⟨_,.cons (.code _) hk,fun cs w=>step_lone_go (by cases t <;> simp[stepG,stepG.exec,a,e,hv])⟩
theorem Hw{k:List Item}{id:Nat}{x:Code}(hm:c.mode=.run)(ht:c.todo=.code (.block id x)::k):GoJ P B c H n {c with todo:=.code x::.inBlock id::k} H n [] []:=
 Kv hm fun μ fr a _ d=>by
  rw[ht]at d;obtain⟨L',e,hk⟩:=d.code;exact⟨_,.cons (.code _) (.cons (.inBlock _) hk),fun cs w=>step_lone_go (by simp[stepG,stepG.exec,a,e])⟩
theorem Mz{k:List Item}{x:Code}(hm:c.mode=.run)(ht:c.todo=.code (.loop x)::k):GoJ P B c H n {c with todo:=.code x::.inLoop x::k} H n [] []:=
 Kv hm fun μ fr a _ d=>by
  rw[ht]at d;obtain⟨L',e,hk⟩:=d.code;exact⟨_,.cons (.code _) (.cons (.inLoop _) hk),fun cs w=>step_lone_go (by simp[stepG,stepG.exec,a,e])⟩
theorem DR{k:List Item}{x:Code}(hm:c.mode=.run)(ht:c.todo=.inLoop x::k):GoJ P B c H n {c with todo:=.code x::.inLoop x::k} H n [] []:=
 Kv hm fun μ fr a _ d=>by
  rw[ht]at d;obtain⟨x',L',e,hi,hk⟩:=d.inv;cases hi;exact⟨_,.cons (.code _) (.cons (.inLoop _) hk),fun cs w=>step_lone_go (by simp[stepG,stepG.exec,a,e])⟩
theorem Ht{k:List Item}{x:Code}(hm:c.mode=.run)(ht:c.todo=.code (.scope x)::k):GoJ P B c H n {c with todo:=.code x::.inScope x::k} H n [] []:=
 Kv hm fun μ fr a _ d=>by
  rw[ht]at d;obtain⟨L',e,hk⟩:=d.code;exact⟨_,.cons (.code _) (.cons (.inScope _) hk),fun cs w=>step_lone_go (by simp[stepG,stepG.exec,a,e])⟩
theorem M1{k k':List Item}{id:Nat}(hm:c.mode=.run)(ht:c.todo=.code (.exit id)::k)(hx:exitTo id k=some k'):GoJ P B c H n {c with todo:=k'} H n [] []:=
 Kv hm fun μ fr a _ d=>by
  rw[ht]at d;obtain⟨L',e,hk⟩:=d.code;obtain⟨L2,h1,h2⟩:=(xL hk).1 _ hx;exact⟨_,h2,fun cs w=>step_lone_go (by simp[stepG,stepG.exec,a,e,h1])⟩
theorem M0{k k':List Item}{id:Nat}(hm:c.mode=.run)(ht:c.todo=.code (.goto id)::k)(hx:gotoIn id k=some k'):GoJ P B c H n {c with todo:=k'} H n [] []:=
 Kv hm fun μ fr a _ d=>by
  rw[ht]at d;obtain⟨L',e,hk⟩:=d.code;obtain⟨L2,h1,h2⟩:=(xI hk).1 _ hx;exact⟨_,h2,fun cs w=>step_lone_go (by simp[stepG,stepG.exec,a,e,h1])⟩
end
end Go.CE

namespace Go.CE
open Go Go.RowKit

def OQ(P:Program)(B:Lo)(c:CF)(H:Qt)(n:Nat):FS->Prop
 | .go c' H' n' R W=>GoJ P B c H n c' H' n' R W
 | .done out H' n' R W=>FJ P B c H n out H' n' R W
section
variable {P:Program} {B:Lo} {c:CF} {H:Qt} {n:Nat}
theorem eS{w:World}{b k:Nat}{o:Obj}(h:k≠b):(w.putObj b o).heap[k]? =w.heap[k]? :=World.putObj_heap_other h
theorem dq{S:Nat->Prop}{μ:Mu}{w:World}{l:Nat}{r:Loop}(QE:Ok B S μ (Qw H) w)(hS:∀i,S i->i<n)(hk:S l)(hg:Qw H l=some (.loop r))(st:LoopState)(pe:Option Code):
 ∃im tm df,μ l=some im/\w.heap[im.Zt]? =some (.loop {r with tmps:=tm,defers:=df})/\
  Post B S n n [l] μ μ H (VA H l (.loop {r with state:=st,pending:=pe})) w (w.putObj im.Zt (.loop {r with state:=st,pending:=pe,tmps:=tm,defers:=df})):=by
 obtain⟨im,QK,Ry,tm,df,hw,hv⟩:=QE.rel l _ hk hg trivial;have Xp:im.Zt<w.heap.size:=(QE.low l _ im hk hg trivial QK).1;exact⟨im,tm,df,QK,hw,Post.write QE hS l _ _ im hk hg trivial QK Ry (by simp) (fun b hb=>eS hb) ⟨Ry,tm,df,World.putObj_heap_same Xp,hv⟩ ⟨rfl,rfl,rfl⟩⟩
def Leaves(P:Program)(c:CF)(jump:Option Code):Prop:=
 ∀(μ:Mu) (fr:Frame),fr.mode=.run->TodoR μ c.todo fr.todo->
  (fr.roundOf=none->(jump=none\/jump=some .ret)->∀cs w,step P (lone fr cs w)=.next (lone {fr with mode:=.returning} cs w))/\
  (fr.kind=.normal->∀l v w w',fr.roundOf=some l->(Instr.endRound l jump).run P w=.ok v w'->∀c0 cs,step P (lone fr (c0::cs) w)=.next (lone (c0.finish v) cs w'))
theorem At(ht:c.todo=[]):Leaves P c none:=by
 intro μ fr hm hd;rw[ht]at hd;have e:=hd.inv_nil;exact⟨fun hr _ cs w=>step_lone_go (by simp[stepG,stepG.exec,hm,e,hr]),fun hk l v w w' hr h c0 cs=>step_lone_go (by simp[stepG,stepG.exec,hm,e,hr,hk,Sem.runT_eq,h,doReturn])⟩
theorem As{k:List Item}(ht:c.todo=.code .ret::k):Leaves P c (some .ret):=by
 intro μ fr hm hd;rw[ht]at hd;obtain⟨L',e,_⟩:=hd.code;exact⟨fun hr _ cs w=>step_lone_go (by simp[stepG,stepG.exec,hm,e,hr]),fun hk l v w w' hr h c0 cs=>step_lone_go (by simp[stepG,stepG.exec,hm,e,hr,hk,Sem.runT_eq,h,doReturn])⟩
theorem xC{k:List Item}{id:Nat}(ht:c.todo=.code (.exit id)::k)(hx:exitTo id k=none):Leaves P c (some (.exit id)):=by
 intro μ fr hm hd;rw[ht]at hd;obtain⟨L',e,hL⟩:=hd.code;have hx':=(xL hL).2 hx;exact⟨fun _ h=>by rcases h with h|h <;> simp at h,fun hk l v w w' hr h c0 cs=>step_lone_go (by simp[stepG,stepG.exec,hm,e,hx',hr,hk,Sem.runT_eq,h,doReturn])⟩
theorem xB{k:List Item}{id:Nat}(ht:c.todo=.code (.goto id)::k)(hx:gotoIn id k=none):Leaves P c (some (.goto id)):=by
 intro μ fr hm hd;rw[ht]at hd;obtain⟨L',e,hL⟩:=hd.code;have hx':=(xI hL).2 hx;exact⟨fun _ h=>by rcases h with h|h <;> simp at h,fun hk l v w w' hr h c0 cs=>step_lone_go (by simp[stepG,stepG.exec,hm,e,hx',hr,hk,Sem.runT_eq,h,doReturn])⟩
theorem RT{jump:Option Code}{fs:FS}(hm:c.mode=.run)(hu:Under H n)(hl:Leaves P c jump)(h:Sl c H n jump=some fs):OQ P B c H n fs:=by
 unfold Sl at h;split at h
 ·rename_i hr;have go:(jump=none\/jump=some .ret)->GoJ P B c H n {c with mode:=.ret} H n [] []:=by
   intro hj;refine⟨Shape.same _ _ _,fun S μ w fr cs Z QE hB hS hf XF hR=> ?_⟩;obtain⟨a,b,d⟩:=XF.running hm;have Pq:=XF.round;rw[hr]at Pq;have Pq:fr.roundOf=none:=by cases hq:fr.roundOf with
    |none=>rfl
    |some x=>rw[hq]at Pq;exact Pq.elim
   exact⟨{fr with mode:=.returning},w,μ,Post.refl QE,⟨XF.fn,b,fun _=>d,XF.defers,.ret,XF.kind,XF.round⟩,rfl,rfl,.one ((hl μ fr a d).1 Pq hj cs w)⟩
  split at h
  ·simp only[YO]at h;subst h;exact go (.inl rfl)
  ·simp only[YO]at h;subst h;exact go (.inr rfl)
  ·cases h
 ·rename_i l hr;split at h
  ·rename_i r hg;simp only[YO]at h;subst h;refine⟨Shape.set _ (hu.lt hg),fun S μ w fr cs QE hB hS hf XF hR=> ?_⟩;obtain⟨a,b,d⟩:=XF.running hm;obtain⟨im,tm,df,QK,hw,hp⟩:=dq QE hS (hR l (by simp) (hu.lt hg)) hg (if jump.isNone then .ready else .done) jump;have Pq:=XF.round;rw[hr]at Pq;cases hq:fr.roundOf with
   |none=>rw[hq]at Pq;exact Pq.elim
   |some x=>
    rw[hq]at Pq;obtain⟨Z9,QS,hx⟩:=Pq;rw[QK]at QS;cases QS;subst hx;have hend:=run_endRound (P:=P) jump hw;exact⟨.ret (.bool jump.isNone),_,μ,hp,.ret (.bool _),(fun h=>by rw[hq]at h;cases h),fun c0 cs' e=>by
     subst e;exact .one ((hl μ fr a d).2 XF.kind _ _ _ _ hq hend c0 cs')⟩
  ·cases h
theorem oJ{k:List Item}{l:Nat}{r:Loop}(hm:c.mode=.run)(hu:Under H n)(ht:c.todo=.beginRound::k)(hr:c.roundOf=some l)(hg:Qw H l=some (.loop r))(hs:r.state=.ready):
 GoJ P B c H n {c with todo:=k} (VA H l (.loop {r with state:=.busy})) n [l] [l]:=by
 refine⟨Shape.set _ (hu.lt hg),fun S μ w fr cs Z QE hB hS hf XF hR=> ?_⟩;obtain⟨a,b,d⟩:=XF.running hm;obtain⟨im,tm,df,QK,hw,hp⟩:=dq QE hS (hR l (by simp) (hu.lt hg)) hg .busy r.pending;rw[ht]at d;obtain⟨x',L',e,hi,hk⟩:=d.inv;cases hi;have Pq:=XF.round;rw[hr]at Pq;cases hq:fr.roundOf with
 |none=>rw[hq]at Pq;exact Pq.elim
 |some x=>
  rw[hq]at Pq;obtain⟨Z9,QS,hx⟩:=Pq;rw[QK]at QS;cases QS;subst hx;have hbr:=run_beginRound (P:=P) hw hs;exact⟨{fr with todo:=L'},_,μ,hp,⟨XF.fn,b,fun _=>hk,XF.defers,XF.mode,XF.kind,XF.round⟩,hq,rfl,.one (step_lone_go (by simp[stepG,stepG.exec,stepG.apply,a,e,hq,Sem.runT_eq,hbr,Result.andThen,Frame.finish]))⟩
theorem Hv{k:List Item}{l:Nat}{r:Loop}(hm:c.mode=.run)(hu:Under H n)(ht:c.todo=.endRangeFunc l::k)(hg:Qw H l=some (.loop r))(hs:r.state≠.busy):
 GoJ P B c H n {c with todo:=(r.pending.map Item.code).toList++k} (VA H l (.loop {r with state:=.exhausted})) n [l] [l]:=by
 refine⟨Shape.set _ (hu.lt hg),fun S μ w fr cs Z QE hB hS hf XF hR=> ?_⟩;obtain⟨a,b,d⟩:=XF.running hm;obtain⟨im,tm,df,QK,hw,hp⟩:=dq QE hS (hR l (by simp) (hu.lt hg)) hg .exhausted r.pending;rw[ht]at d;obtain⟨x',L',e,hi,hk⟩:=d.inv;cases hi with
 |endRF QS=>
  rw[QK]at QS;cases QS;have hbr:=run_endLoop (P:=P) hw hs;refine⟨{fr with todo:=(r.pending.map Item.code).toList++L'},_,μ,hp,⟨XF.fn,b,fun _=> ?_,XF.defers,XF.mode,XF.kind,XF.round⟩,rfl,rfl,.one (step_lone_go (by simp[stepG,stepG.exec,a,e,Sem.runT_eq,hbr,GStep.bare_after]))⟩;cases r.pending with
  |none=>exact hk
  |some x=>exact .cons (.code _) hk
theorem MR.not_run{μ:Mu}{m:CM}{m':FrameMode}(h:MR μ m m')(hm:m≠.run):m'≠.run:=by
 cases h with
 |run=>exact absurd rfl hm
 |ret=>exact fun e=>by cases e
 |We=>exact fun e=>by cases e
theorem A5{d:Nat}{ds:List Nat}(hm:c.mode≠.run)(hu:Under H n)(hd:c.defers=d::ds)(hg:Qw H d=some (.deferred (some []))):GoJ P B c H n {c with defers:=ds} (VA H d (.deferred none)) n [d] [d]:=by
 refine⟨Shape.set _ (hu.lt hg),fun S μ w fr cs Z QE hB hS hf XF hR=> ?_⟩;have hk:=hR d (by simp) (hu.lt hg);obtain⟨im,QK,Ry,hw,_⟩:=QE.rel d _ hk hg trivial;have Xp:im.Zt<w.heap.size:=(QE.low d _ im hk hg trivial QK).1;have hp:=Post.write (w':=w.putObj im.Zt (.deferred none)) QE hS d _ (.deferred none) im hk hg trivial QK Ry (by simp) (fun b hb=>eS hb) ⟨Ry,World.putObj_heap_same Xp,.inr rfl⟩ ⟨rfl,rfl,rfl⟩;have hdf:=XF.defers;rw[hd]at hdf;obtain⟨Z9,l',h1,hq,h2⟩:=hdf.cons_inv;rw[QK]at h1;cases h1;exact⟨{fr with defers:=[]++l'},_,μ,hp,⟨XF.fn,XF.tmps,XF.todo,h2,XF.mode,XF.kind,XF.round⟩,rfl,rfl,.one (step_collected (XF.mode.not_run hm) hq rfl (run_takeDeferred hw))⟩
theorem HI{S:Nat->Prop}{μ:Mu}{w:World}{t:TypeId}{p p' v:Value}{b:Nat}(h:Th P t H p=some (v,b))(QE:Ok B S μ (Qw H) w)(hp:VR μ p p')(hb:S b):∃v',(do loadVar t (<-asAddr p'):Sem Value).run P w=.ok v' w/\VR μ v v':=by
 obtain⟨v',h1,h2⟩:=qo h QE hp hb;unfold Th at h;split at h
 ·cases hp with
  |ptr har=>exact⟨v',by simpa[Instr.loadAt,Instr.sureAddr,asAddr]using h1,h2⟩
 ·cases h
theorem HL{t:TypeId}{p v:Value}{b:Nat}(hu:Under H n)(h:Th P t H p=some (v,b)):b<n:=by
 unfold Th at h;split at h
 ·split at h
  ·rename_i hg;split at h
   ·simp only[YO,YR]at h;obtain⟨_,rfl⟩:=h;exact hu.lt hg
   ·cases h
  ·cases h
 ·cases h
inductive VRl (μ:Mu):List Value->List Value->Prop
 |nil:VRl μ [] []
 |cons {v v' l l'}:VR μ v v'->VRl μ l l'->VRl μ (v::l) (v'::l')
theorem VRl.vrs{μ:Mu}{l l':List Value}(h:VRl μ l l'):l.length=l'.length/\∀(i:Nat) v v',l[i]? =some v->l'[i]? =some v'->VR μ v v':=by
 induction h with
 |nil=>exact⟨rfl,fun i v v' h=>by simp at h⟩
 |cons h _ ih=>
  refine⟨by simp[ih.1],fun i v v' a b=> ?_⟩;cases i with
  |zero=>simp only[Lu,YO]at a b;subst a b;exact h
  |succ i=>exact ih.2 i v v' (by simpa using a) (by simpa using b)
def Is(A:Array Value):ResultVar->Sem Value
 | .tmp t=>pure (A.getD t undef)
 | .cell a t=>do loadVar t (<-asAddr (A.getD a undef))
theorem dR(fn:Func)(A:Array Value):results fn A=(do
 let vs <-fn.results.mapM (Is A)
 pure (if h:vs.size=1 then vs[0]else .tuple vs)):=by
 unfold results;congr 2
theorem R9{S:Nat->Prop}{μ:Mu}{w:World}{T:Tm}{A:Array Value}(hu:Under H n)(QE:Ok B S μ (Qw H) w)(ht:TR μ T A):∀(l:List ResultVar) (vs:List Value) (R:List Nat),Ts P H T l=some (vs,R)->(∀i∈R,i<n->S i)->
 ∃vs',(l.mapM (Is A)).run P w=.ok vs' w/\VRl μ vs vs'
 |[],vs,R,h,_=>by
  simp only[Ts,YO,YR]at h;obtain⟨rfl,rfl⟩:=h;exact⟨[],by simp,.nil⟩
 | .tmp t::l,vs,R,h,hR=>by
   simp only[Ts]at h;split at h
   ·rename_i vs1 R1 h1;simp only[YO,YR]at h;obtain⟨rfl,rfl⟩:=h;obtain⟨vs',h2,h3⟩:=R9 hu QE ht l vs1 R1 h1 hR;exact⟨A.getD t undef::vs',by simp only[List.mapM_cons,Is,Sem.run_bind,Sem.run_pure,Result.andThen_ok,h2],.cons (ht.2 t) h3⟩
   ·cases h
 | .cell a t::l,vs,R,h,hR=>by
   simp only[Ts]at h;split at h
   ·rename_i v b hv;split at h
    ·rename_i vs1 R1 h1;simp only[YO,YR]at h;obtain⟨rfl,rfl⟩:=h;obtain⟨vs',h2,h3⟩:=R9 hu QE ht l vs1 R1 h1 (fun i hi=>hR i (Lt _ hi));obtain⟨v',h4,h5⟩:=HI hv QE (ht.2 a) (hR b (by simp) (HL hu hv));exact⟨v'::vs',by simp only[List.mapM_cons,Is,Sem.run_bind]at h4 ⊢;simp only[h4,Sem.run_pure,Result.andThen_ok,h2],.cons h5 h3⟩
    ·cases h
   ·cases h
theorem pZ{μ:Mu}{vs vs':List Value}(h:VRl μ vs vs'):VR μ (oneOf vs) (if h:vs'.toArray.size=1 then vs'.toArray[0]else .tuple vs'.toArray):=by
 have hv:=h.vrs;cases h with
 |nil=>exact .tuple rfl fun i v v' h=>by simp at h
 |cons h1 h2=>
  cases h2 with
  |nil=>simpa[oneOf]using h1
  |cons h3 h4=>
   simp only[oneOf];rw[dif_neg (by simp)];exact .tuple (by simpa using hv.1) (by simpa using hv.2)
theorem HC{v:Value}{R:List Nat}(hu:Under H n)(hm:c.mode=.ret)(hd:c.defers=[])(hv:tt P c.fn H c.tmps=some (v,R)):FJ P B c H n (.ret v) H n R []:=by
 refine⟨Shape.same _ _ _,fun S μ w fr cs QE hB hS hf XF hR=> ?_⟩;have ht:=XF.tmps;unfold tt at hv;rw[ba,Lq]at hv;split at hv
 ·rename_i fn hfn;split at hv
  ·rename_i vs R1 hvs;simp only[YO,YR]at hv;obtain⟨rfl,rfl⟩:=hv;obtain⟨vs',h1,h2⟩:=R9 hu QE ht _ _ _ hvs hR;have hmode:fr.mode=.returning:=by
    have:=XF.mode;rw[hm]at this;generalize fr.mode=m at this;cases this;rfl
   have hdf:fr.defers=[]:=by
    have:=XF.defers;rw[hd]at this;exact this.empty
   have hres:(results fn fr.tmps).run P w=.ok (if h:vs'.toArray.size=1 then vs'.toArray[0]else .tuple vs'.toArray) w:=by
    rw[dR,Array.mapM_eq_mapM_toList];simp only[Sem.run_bind,Sem.run_map,h1,Result.andThen_ok,Sem.run_pure]
   have hleave:fr.leaving P w (.returned (if h:vs'.toArray.size=1 then vs'.toArray[0]else .tuple vs'.toArray)):=⟨hmode,hdf,XF.kind,fn,by rw[XF.fn];exact hfn,hres⟩
   exact⟨.ret _,w,μ,Post.refl QE,.ret (pZ h2),fun _=>⟨fr,Steps.refl _ _,rfl,hleave⟩,fun c0 cs' e=>by subst e;exact .one (step_leave_returned hleave)⟩
  ·cases hv
 ·cases hv
theorem HD{v:Value}(hm:c.mode=.We v)(hd:c.defers=[])(hv:Mt P c.fn=true):FJ P B c H n (.We v) H n [] []:=by
 refine⟨Shape.same _ _ _,fun S μ w fr cs QE hB hS hf XF hR=> ?_⟩;unfold Mt at hv;rw[ba,Lq]at hv;split at hv
 ·rename_i fn hfn;have hmode:=XF.mode;rw[hm]at hmode;generalize hq:fr.mode=m at hmode;cases hmode with
  |We VY=>
   rename_i v';have hdf:fr.defers=[]:=by
    have:=XF.defers;rw[hd]at this;exact this.empty
   have hleave:fr.leaving P w (.panicked [{v:=v',recovered:=false}]):=⟨hq,hdf,fn,by rw[XF.fn];exact hfn⟩
   exact⟨.We v',w,μ,Post.refl QE,.We VY,fun _=>⟨fr,Steps.refl _ _,rfl,hleave⟩,fun c0 cs' e=>by subst e;exact .one (step_leave_panicked hleave)⟩
 ·cases hv
end
end Go.CE

namespace Go.CE
open Go Go.RowKit

theorem Pv:∀(l:List Oper) (k:Nat),WV k l=true->∀(j:Nat) o,l[j]? =some o->∀e∈o.after,Region.binds .any e=true->e.on<k+j
 |[],_,_,j,o,h=>by simp at h
 |x::l,k,h,j,o,hj=>by
  simp only[WV,YB]at h;cases j with
  |zero=>
   simp only[Lu,YO]at hj;subst hj;intro e he hb;have:=Array.all_eq_true'.1 h.1 e he;rw[hb]at this;have:=YL (show LR (e.on+1) k=true by simpa[Lr]using this);omega
  |succ j=>
   intro e he hb;have:=Pv l (k+1) h.2 j o (by simpa using hj) e he hb;omega
theorem K8{Qz:List Rec}{l:List Oper}{ops:Array Oper}{l2:List Oper}(h:Qz.map (·.o)++l2=l)(hl:l=ops.toList)(j:Nat)(r:Rec)(hj:Qz[j]? =some r):ops[j]? =some r.o:=by
 have e:(Qz.map (·.o)++l2)[j]? =some r.o:=by
  rw[Lx (by simpa using(List.getElem?_eq_some_iff.1 hj).1),LF,hj];rfl
 rw[h,hl,Lq]at e;exact e
section
variable {P:Program} {F:FuncId->Bool} {Xu:WW} {B:Lo} {rec:CF->Qt->Nat->Option Rs} {c:CF} {H:Qt} {n:Nat}
theorem Wp{fr:Frame}{cs:List Frame}{w:World}{id:Nat}{ops:Array Oper}{k:List Item}(hm:fr.mode=.run)(ht:fr.todo=.code (.region id ops false)::k):step P (lone fr cs w)=.next (lone (Xw fr fr.tmps ops (LM 0 ops.size) k) cs w):=
 step_lone_go (by simp[stepG,stepG.exec,hm,ht,Xw,List.range_eq_range'])
theorem DQ(hF:∀g,F g=true->Q6 P g=true)(Vs:gZ P B rec)(ZX:Ws P B Xu)(Zm:P.follows .mixedOrders=true){id:Nat}{ops:Array Oper}{draw:Bool}{k:List Item}{Qz:List Rec}{T':Tm}{H':Qt}{n':Nat}(hm:c.mode=.run)(hu:Under H n)
 (ht:c.todo=.code (.region id ops draw)::k) (h:gq P F Xu rec ops ops.toList c.tmps H n=some (Qz,.ok T' H' n')) (hd:(!draw || (WV 0 ops.toList && indep ops 0 Qz (Py ops.toList [])))=true):
 GoJ P B c H n {c with tmps:=T',todo:=k} H' n' (Y5 Qz) (Ub Qz):=by
 obtain⟨hs,hk,Sq,hmap,hu'⟩:=K1 hF Vs ZX (len:=c.tmps.len) ops.toList c.tmps H n Qz _ rfl hu h;have hown:=K8 (l:=ops.toList) (l2:=[]) (by rw[List.append_nil];exact hmap) rfl;have hlen:Qz.length=ops.size:=by have:=congrArg Ld hmap;simpa using this
 refine⟨ZZ Qz _ _ _ _ _ _ Sq hs,fun S μ w fr cs Z QE hB hS hf XF hR=> ?_⟩;obtain⟨a,b,d⟩:=XF.running hm;rw[ht]at d;obtain⟨L',e,hL⟩:=d.code;cases draw with
 |false=>
  obtain⟨μ',A',w',hp,hT,Zh⟩:=b5 (fr:=fr) (cs:=cs) (k:=L') a Qz 0 c.tmps H n T' H' n' [] Sq hs hk (fun j r hj=>by rw[LD];exact hown j r hj) rfl S μ w fr.tmps QE hB hS hf hR b;rw[List.append_nil,hlen]at Zh;exact⟨{fr with tmps:=A',todo:=L'},w',μ',hp,⟨XF.fn,hT,fun _=>hL.mono (hp.mu hf),XF.defers.mono (hp.mu hf),XF.mode.mono (hp.mu hf),XF.kind,XF.round.mono (hp.mu hf)⟩,rfl,rfl,
   .head (Wp a e) (Zh.trans (.one (Ug a)))⟩
 |true=>
  simp only[Bool.not_true,Bool.false_or,YB]at hd;have hedge:∀(q:Nat) o,ops[q]? =some o->∀e∈o.after,Region.binds .any e=true->e.on<q:=by
   intro q o ho e he hb;have:=Pv ops.toList 0 hd.1 q o (by rw[Lq];exact ho) e he hb;omega
  have hbef:=s8 ops.toList (fun q o ho=>hedge q o (by simpa using ho));have VA:Setup P B ops Qz (Py ops.toList []) c.tmps H n T' H' n':=⟨Sq,hs,hown,hlen,by simpa using hbef.1,TO Qz _ 0 hd.2,hedge⟩
  obtain⟨μ',A',w',hp,hT,Zh⟩:=ic Zm VA hk QE hS hR hf hB (fr:=fr) (cs:=cs) (id:=id) (k:=L') a b e;exact⟨{fr with tmps:=A',todo:=L'},w',μ',hp,⟨XF.fn,hT,fun _=>hL.mono (hp.mu hf),XF.defers.mono (hp.mu hf),XF.mode.mono (hp.mu hf),XF.kind,XF.round.mono (hp.mu hf)⟩,rfl,rfl,Zh⟩
theorem oI(hF:∀g,F g=true->Q6 P g=true)(Vs:gZ P B rec)(ZX:Ws P B Xu){id:Nat}{ops:Array Oper}{k:List Item}{Qz:List Rec}{v:Value}{H':Qt}{n':Nat}{R W:List Nat}{T':Tm}(hm:c.mode=.run)(hu:Under H n)
 (ht:c.todo=.code (.region id ops false)::k) (h:gq P F Xu rec ops ops.toList c.tmps H n=some (Qz,.We T' v H' n' R W)):
 GoJ P B c H n {c with tmps:=T',mode:=.We v} H' n' (Y5 Qz++R) (Ub Qz++W):=by
 obtain⟨hs,hk,H1,n1,o,l2,Sq,hmap,Ya,hdo,RU⟩:=K1 hF Vs ZX (len:=c.tmps.len) ops.toList c.tmps H n Qz _ rfl hu h;have hown:=K8 (l2:=o::l2) hmap rfl;have hlen:ops.size=Qz.length+(l2.length+1):=by have:=congrArg Ld hmap;simp at this;omega
 have hat:ops[Qz.length]? =some o:=by
  rw[<-Lq,<-hmap,Lm (by simp)];simp
 have hsh1:=ZZ Qz _ _ _ _ _ _ Sq hs;have l1:=hsh1.le;have l3:=RU.le;refine⟨hsh1.trans RU,fun S μ w fr cs Z QE hB hS hf XF hR=> ?_⟩;obtain⟨a,b,d⟩:=XF.running hm;rw[ht]at d;obtain⟨L',e,hL⟩:=d.code;have hf1:P0 μ n n1:=fun q x y=>hf q x (by omega)
 obtain⟨μ1,A1,w1,hp,hT,Zh⟩:=b5 (fr:=fr) (cs:=cs) (k:=L') a Qz 0 c.tmps H n T' H1 n1 (LM Qz.length (l2.length+1)) Sq hs hk (fun j r hj=>by rw[LD];exact hown j r hj) rfl S μ w fr.tmps QE hB hS hf1
  (fun q hq Xp=>hR q (Ln _ hq) Xp) b
 have hr:LM 0 Qz.length++LM Qz.length (l2.length+1)=LM 0 ops.size:=by
  rw[hlen];have:=List.range'_append_1 (s:=0) (m:=Qz.length) (n:=l2.length+1);simpa using this
 rw[hr,List.range'_succ]at Zh;obtain⟨Zg,w2,μ2,Sm,ho,hst2⟩:=hdo _ μ1 w1 (Xw fr A1 ops (Qz.length::LM (Qz.length+1) l2.length) L') cs L' ops Qz.length _ hp.ok (hB.post QE hp) (fun q hq=>hq.elim (fun e=>by have:=hS q e;omega) (fun e=>e.2))
  (fun q x y=>by rw[hp.ext q (by omega)];exact hf q (by omega) y) (fun x _ v hv=>qi (fr:=Xw fr A1 ops (Qz.length::LM (Qz.length+1) l2.length) L') hT x v hv) (fun q hq Xp=>by
   rcases LK q n with h1|h1
   ·exact .inl (hR q (Lw _ hq) h1)
   ·exact .inr ⟨h1,Xp⟩) a rfl hat (by rw[show(Xw fr A1 ops (Qz.length::LM (Qz.length+1) l2.length) L').tmps=A1 from rfl,Y8 hT];exact Ya)
 have hpp:=hp.trans Sm;cases ho with
 |We hv=>
  rename_i v';refine⟨{Xw fr A1 ops (Qz.length::LM (Qz.length+1) l2.length) L' with mode:=.panicking [{v:=v',recovered:=false}]},w2,μ2,hpp,⟨XF.fn,hT.mono (Sm.mu fun q x y=>by rw[hp.ext q (by omega)];exact hf q (by omega) y),(fun h=>by cases h),XF.defers.mono (hpp.mu hf),.We hv,XF.kind,XF.round.mono (hpp.mu hf)⟩,rfl,rfl,
   .head (Wp a e) (Zh.trans (hst2.trans ?_))⟩
  simp only[OO.on,Frame.raise,Xw,a];exact Steps.refl _ _
theorem ot{x:Rec}{H2:Qt}{n2:Nat}:∀(l:List Rec) (T:Tm) (H:Qt) (n:Nat),Yf l T H n x.T x.H x.n->H2=x.H'->n2=x.n'->Yf (l++[x]) T H n (VB x.T x.o.dst x.v) H2 n2
 |[],T,H,n,h,h1,h2=>by obtain⟨rfl,rfl,rfl⟩:=h;exact⟨rfl,rfl,rfl,rfl,h1.symm,h2.symm⟩
 |r::l,T,H,n,h,h1,h2=>by
  obtain⟨a,b,c,d⟩:=h;exact⟨a,b,c,ot l _ _ _ d h1 h2⟩
theorem iN(Zm:P.follows .mixedOrders=true){id:Nat}{ops:Array Oper}{k:List Item}{Qz:List Rec}{v:Value}{H':Qt}{n':Nat}{R W:List Nat}{T':Tm}(hm:c.mode=.run)
 (ht:c.todo=.code (.region id ops true)::k) (hs:∀x∈Qz,cn c.tmps.len x) (hk:∀x∈Qz,Se P B ops x)
 (h:∃H1 n1 o l2,Yf Qz c.tmps H n T' H1 n1/\Qz.map (·.o)++o::l2=ops.toList/\Region.wanted o (XO ops T')=true/\Tk P B o (Zd T') H1 n1 (.We v) H' n' R W/\Shape H1 n1 H' n' R W) (hd:TI ops Qz T'=true):
 GoJ P B c H n {c with tmps:=T',mode:=.We v} H' n' (Y5 Qz++R) (Ub Qz++W):=by
 obtain⟨H1,n1,o,l2,Sq,hmap,Ya,hdo,RU⟩:=h;simp only[TI,YB,Nat.beq_eq,List.all_eq_true,List.mem_range,List.contains_iff_mem]at hd;obtain⟨d1,d2,d3,d4,d5⟩:=hd;have hlen:ops.size=Qz.length+1:=by rw[d3];simp
 have hl2:l2=[]:=by
  have:=congrArg Ld hmap;simp at this;exact List.eq_nil_of_length_eq_zero (by omega)
 subst hl2;let x:Rec:=⟨o,true,undef,T',H1,H',n1,n',R,W⟩
 have hsh1:=ZZ Qz _ _ _ _ _ _ Sq hs;have hom:o∈ops.toList:=by rw[<-hmap];simp
 have hTl:T'.len=c.tmps.len:=(KC (len:=c.tmps.len) 0 Qz 0 _ _ _ _ _ _ Sq hs rfl).2.1;have hsx:cn c.tmps.len x:=⟨RU.le,RU.keep,RU.top,RU.sub,RU.wlt,fun d hd=>by rw[<-hTl];exact Rp (d5 o hom) d hd⟩
 have hch2:Yf (Qz++[x]) c.tmps H n (VB T' o.dst undef) H' n':=ot (x:=x) Qz _ _ _ Sq rfl rfl;have hs2:∀r∈Qz++[x],cn c.tmps.len r:=fun r hr=>(List.mem_append.1 hr).elim (hs r) fun e=>by rw[List.mem_singleton.1 e];exact hsx
 have hmap2:(Qz++[x]).map (·.o)++[]=ops.toList:=by rw[List.append_nil,LZ,<-hmap];rfl
 have hown:=K8 (l2:=[]) hmap2 rfl;have hedge:∀(q:Nat) o,ops[q]? =some o->∀e∈o.after,Region.binds .any e=true->e.on<q:=by
  intro q o ho e he hb;have:=Pv ops.toList 0 d1 q o (by rw[Lq];exact ho) e he hb;omega
 have hbef:=s8 ops.toList (fun q o ho=>hedge q o (by simpa using ho));have hat:(Qz++[x])[Qz.length]? =some x:=by rw[Lm (by omega)];simp
 have ZW:ops.size-1=Qz.length:=by omega
 have VA:Setup P B ops (Qz++[x]) (Py ops.toList []) c.tmps H n (VB T' o.dst undef) H' n':=by
  refine⟨hch2,hs2,hown,by simp;omega,by simpa using hbef.1, ?_,hedge⟩;intro i j r y TS hi hj htd;have hjl:j<(Qz++[x]).length:=(List.getElem?_eq_some_iff.1 hj).1;simp at hjl;rcases LK j Qz.length with Xp|hge
  ·rw[Lx (by omega)]at hi;rw[Lx Xp]at hj;exact TO Qz _ 0 d2 i j r y TS hi hj htd
  ·have:j=Qz.length:=by omega
   rw[this,LD];exact d4 i (by omega)
 have hk2:∀(i:Nat) r,(Qz++[x])[i]? =some r->i+1<ops.size->Se P B ops r:=by
  intro i r hr hi;rw[Lx (by omega)]at hr;exact hk r (Lp hr)
 have eR:Y5 (Qz++[x])=Y5 Qz++R:=by simp[Y5,x]
 have eW:Ub (Qz++[x])=Ub Qz++W:=by simp[Ub,x]
 refine⟨hsh1.trans RU,fun S μ w fr cs Z QE hB hS hf XF hR=> ?_⟩;obtain⟨a,b,d⟩:=XF.running hm;rw[ht]at d;obtain⟨L',e,hL⟩:=d.code;obtain⟨μ',A',w',l,v',hp,hT,hv,Zh⟩:=jc Zm VA hk2 (fun i hi=>by rw[ZW];exact d4 i (by omega)) (x:=x) (v:=v) (by rw[ZW];exact hat) hdo Ya QE hS (by rw[eR];exact hR) hf hB (fr:=fr) (cs:=cs) (id:=id) (k:=L') a b e;rw[eW]at hp;exact⟨{Xw fr A' ops ((ops.size-1)::l) L' with mode:=.panicking [{v:=v',recovered:=false}]},w',μ',hp,⟨XF.fn,hT,(fun h=>by cases h),XF.defers.mono (hp.mu hf),.We hv,XF.kind,XF.round.mono (hp.mu hf)⟩,rfl,rfl,Zh⟩
theorem DfB.app{Z:Bot}{μ:Mu}{a b:List Nat}{a' b':List Deferred}(h:DfR μ a a')(k:DfB Z μ b b'):DfB Z μ (a++b) (a'++b'):=by
 obtain⟨L,h1,h2⟩:=k;subst h2;rw[<-LY];refine⟨_, ?_,rfl⟩;induction h with
 |nil=>exact h1
 |cons h _ ih=>exact .cons h ih
theorem oN{μ:Mu}{T:Tm}{A:Array Value}(h:TR μ T A):VRs μ (hU T) A:=by
 refine⟨by simp[hU,h.1],fun i v v' hv ZQ=> ?_⟩;have hi:i<T.len:=by
  have:=(Array.getElem?_eq_some_iff.1 hv).1;simpa[hU]using this
 have e1:v=XT T i:=by simpa[hU,hi]using hv.symm
 have e2:A.getD i undef=v':=by simp[ZQ]
 rw[e1,<-e2];exact h.2 i
theorem xX{H:Qt}{f:Value}{args xs:Array Value}{g:FuncId}{R:List Nat}(h:Sa F H f args=some (.enter g xs,R)):R=[]:=by
 unfold Sa at h;split at h
 ·have:=ZN h;simp only[YR]at this;exact this.2.symm
 ·split at h
  ·have:=ZN h;simp only[YR]at this;cases this.1
  ·cases h
 ·cases h
theorem aZ{ps:Array Tmp}{assign body:Code}{H1:Qt}{l:Nat}{ds R1:List Nat}(hu:Under H n)(h:Kh c H n ps assign body=some (H1,l,ds,R1)):
 Shape H n H1 (l+1) R1 []/\∀(S:Nat->Prop) (μ:Mu) (w:World) (fr:Frame),Ok B S μ (Qw H) w->B.has w->(∀i,S i->i<n)->P0 μ n (l+1)->fr.fn=c.fn->TR μ c.tmps fr.tmps->RoR μ c.roundOf fr.roundOf->(∀i∈R1,i<n->S i)->
  ∃mark w1 μ1 im,(Instr.enterLoop fr.fn fr.tmps ps assign body fr.roundOf).run P w=.ok (im.Zt,mark) w1/\μ1 l=some im/\Post B S n (l+1) [] μ μ1 H H1 w w1/\DfR μ1 ds mark:=by
 unfold Kh at h;split at h
 ·rename_i hr;simp only[YO,YR]at h;obtain⟨rfl,rfl,rfl,rfl⟩:=h;refine⟨(Shape.new H n _ []).trans (Shape.new _ (n+1) _ []),fun S μ w fr QE hB hS hf hfn ht Pq hR=> ?_⟩;have Pq:fr.roundOf=none:=by
   rw[hr]at Pq;cases hq:fr.roundOf with
   |none=>rfl
   |some x=>rw[hq]at Pq;exact Pq.elim
  have p1:=Post.alloc QE hB.le hS (hf n (by omega) (by omega)) (.deferred (some [])) (.deferred (some [])) 0 ⟨rfl,heap_alloc _ _,.inl rfl⟩;have JV:upd μ n ⟨w.heap.size,0,0,true,aj⟩ (n+1)=none:=by
   rw[p1.ext (n+1) (by omega)];exact hf (n+1) (by omega) (by omega)
  have p2:=Post.alloc (n:=n+1) p1.ok (Nat.le_trans hB.le p1.grow) (fun i hi=>hi.elim (fun e=>by have:=hS i e;omega) (fun e=>e.2)) JV
   (.loop ⟨.ready,none,c.fn,hU c.tmps,ps,assign,body,n⟩) (.loop ⟨.ready,none,fr.fn,fr.tmps,ps,assign,body,w.heap.size⟩) 0
   ⟨rfl,fr.tmps,w.heap.size,by rw[hfn];exact heap_alloc _ _,oN (ht.mono ((p1.mu (fun q a b=>hf q a (by omega))).trans (Yn JV)))⟩
  refine⟨[{target:=.collected w.heap.size,args:=#[]}],_,_,_, ?_,X3,p1.trans p2, ?_⟩
  ·rw[Pq,run_enterLoop_outer];rw[show(w.alloc (.deferred (some []))).heap.size=w.heap.size+1 by simp]
  ·refine .cons (im:=⟨w.heap.size,0,0,true,aj⟩) ?_ .nil;exact Yn JV _ _ X3
 ·rename_i l0 hr;split at h
  ·rename_i r hg;simp only[YO,YR]at h;obtain⟨rfl,rfl,rfl,rfl⟩:=h;refine⟨Shape.new H n _ [l0],fun S μ w fr QE hB hS hf hfn ht Pq hR=> ?_⟩;obtain⟨im,QK,ZU⟩:=QE.rel l0 _ (hR l0 (by simp) (hu.lt hg)) hg trivial;obtain⟨_,tm,df,hw,_⟩:=ZU;have Pq:fr.roundOf=some im.Zt:=by
    rw[hr]at Pq;cases hq:fr.roundOf with
    |none=>rw[hq]at Pq;exact Pq.elim
    |some x=>
     rw[hq]at Pq;obtain⟨Z9,QS,hx⟩:=Pq;rw[QK]at QS;cases QS;rw[hx]
   have JV:=hf n (by omega) (by omega);have p1:=Post.alloc QE hB.le hS JV (.loop ⟨.ready,none,c.fn,hU c.tmps,ps,assign,body,n⟩) (.loop ⟨.ready,none,fr.fn,fr.tmps,ps,assign,body,df⟩) 0
    ⟨rfl,fr.tmps,df,by rw[hfn];exact heap_alloc _ _,oN (ht.mono (Yn JV))⟩
   refine⟨[],_,_,_, ?_,X3,p1,.nil⟩;rw[Pq,run_enterLoop_inner hw]
  ·cases h
theorem kD{fr:Frame}{cs:List Frame}{w w1:World}{f:Operand}{ps:Array Tmp}{assign body:Code}{k:List Item}{l:Nat}{mark:List Deferred}{g:FuncId}{args:Array Value}(hm:fr.mode=.run)(ht:fr.todo=.code (.rangeFunc f ps assign body)::k)
 (he:(Instr.enterLoop fr.fn fr.tmps ps assign body fr.roundOf).run P w=.ok (l,mark) w1) (hc:(do let d <-Deferred.ofValue (fr.eval f) #[.func (.yield l) #[] #[]];invoke d.target d.args:Sem Next).run P w1=.ok (.enter g args) w1):
 step P (lone fr cs w)=.next (lone (Frame.enter P g args .normal) ({fr with todo:=.inRangeFunc l::k,defers:=mark++fr.defers}::cs) w1):=by
 refine step_lone_go ?_;have XP:({fr with todo:=.inRangeFunc l::k,defers:=mark++fr.defers}:Frame).eval=fr.eval:=by funext x;cases x <;> rfl
 have hres:resolve fr.eval {callee:=.value f,args:=#[.const (.func (.yield l) #[] #[])],argTypes:=#[]} 0=Deferred.ofValue (fr.eval f) #[.func (.yield l) #[] #[]]:=by simp[resolve,Frame.eval]
 rw[hm]at XP;rw[Sem.run_bind]at hc;simp[stepG,stepG.exec,hm,ht,Sem.runT_eq,he,GStep.bare_after,stepG.apply,XP,hres,Sem.run_bind,hc]
end
end Go.CE
