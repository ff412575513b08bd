/- CE: calls whose arguments are known, at the level of worlds. -/
import Derived.Test.YtncjjangllkokaaZRH06
import Derived.Laws.StructEq
set_option linter.all false
open Nat renaming le_refl->LH,beq->Lf,ble->LP,blt->Ls,lt_or_ge->LJ,zero_add->LB,ble_eq_true_of_le->LD
open Option renaming map_some->LI
open Array renaming mem_of_getElem? ->LL,getElem?_toList->Lr
open List renaming getElem?_eq_none->LA,mem_cons_of_mem->Lw,mem_append_left->Lm,mem_append_right->Lx,range'->LK,length->Lc,getElem?_append_right->Ll,getElem?_map->LC,append_assoc->LY
namespace Go.CE
open Go Go.RowKit

def Xy:WZ:=fun _ _ _ _=>none
theorem QI(P:Program)(B:Lo):Wz P B Xy:=fun _ _ _ _ _ _ h=>by cases h
noncomputable def qo(P:Program)(F:FuncId->Bool)(Xr:WZ)(fuel:Nat)(f:FuncId)(args:Array Value)(H:Qq)(n:Nat):Option Rs:=
 Option.rec none (fun c=>CF.rec (fun fn T todo ds mode ro=>CM.rec (Tm.rec (fun len tr=>bV P F Xr fuel n fn len tr todo ds ro H n [] []) T) none (fun _=>none) mode) c) (Wa P f args)
theorem ff{P:Program}{F:FuncId->Bool}{Xr:WZ}{fuel:Nat}{f:FuncId}{args:Array Value}{H:Qq}{n:Nat}{s:Rs}(h:qo P F Xr fuel f args H n=some s):∃c,Wa P f args=some c/\qL P F Xr fuel n c H n [] []=some s:=by
 unfold qo at h;cases hc:Wa P f args with
 |none=>rw[hc]at h;cases h
 |some c=>
  rw[hc]at h;obtain⟨fn,⟨len,tr⟩,todo,ds,mode,ro⟩:=c;cases mode with
  |run=>
   refine⟨_,rfl, ?_⟩;rw[<-qb,<-qc];exact h
  |ret=>cases h
  |Wn v=>cases h
theorem Ao{P:Program}{F:FuncId->Bool}{Xr:WZ}{B:Lo}(ZY:Wz P B Xr)(hF:∀g,F g=true->Q1 P g=true)(Zl:P.follows .mixedOrders=true){fuel:Nat}{f:FuncId}{args:Array Value}{H:Qq}{n:Nat}{s:Rs}(h:qo P F Xr fuel f args H n=some s)(hu:Under H n):Under s.H s.n:=by
 obtain⟨c,_,hr⟩:=ff h;obtain⟨Rr,Wr,hfj,_,_,_,_⟩:=Je (B:=B) hF Zl ZY fuel n c H n [] [] s hu (fun i hi=>by simp at hi) (fun i hi=>by simp at hi) hr;exact hu.shape hfj.shape
theorem uy{P:Program}{F:FuncId->Bool}{Xr:WZ}(hF:∀g,F g=true->Q1 P g=true)(Zl:P.follows .mixedOrders=true){fuel:Nat}{f:FuncId}{args args':Array Value}{H:Qq}{n:Nat}{s:Rs}(h:qo P F Xr fuel f args H n=some s)(hu:Under H n){w:World}{μ:Mu}
 {I:World->Prop} {hI:∀w1 w2:World,(∀b,b<w.heap.size->w2.heap[b]? =w1.heap[b]?)->I w1->I w2} (ZY:Wz P ⟨w.heap.size,I,hI⟩ Xr) (hi:I w) (QE:Ok w.heap.size (fun i=>i<n) μ (Qt H) w) (hv:VRs μ args args') (hf:∀i,n<=i->μ i=none):
 Calls P f args' w fun e w'=> ∃Zh μ',Post w.heap.size (fun i=>i<n) n s.n s.W μ μ' H s.H w w'/\OR2 μ' s.out Zh/\e=Zh.ending:=by
 obtain⟨c,hc,hr⟩:=ff h;obtain⟨Rr,Wr,hfj,a1,a2,a3,a4⟩:=Je (B:=⟨w.heap.size,I,hI⟩) hF Zl ZY fuel n c H n [] [] s hu (fun i hi=>by simp at hi) (fun i hi=>by simp at hi) hr;have hfj:=hfj.lists (fun i hi=>by simpa using a1 i hi) (fun i hi=>by simpa using a2 i hi) a4;intro cs;obtain⟨Zh,w',μ',hp,ho,he⟩:=hfj.sem _ μ w _ cs QE ⟨LH _,hi⟩ (fun _ hi=>hi) (fun i hi _=>hf i hi) (UL hc hv) (fun i _ hi=>hi);obtain⟨frE,h1,h2,h3⟩:=he.1 rfl;refine⟨Zh.ending,w',frE,⟨Zh,μ',hp,ho,rfl⟩, ?_,h2,h3⟩;cases Zh with
 |ret v=>exact h1
 |Wn v=>exact h1
def Qbs(w:World)(Zu off:Nat)(cs:Array Value):Prop:=Zu<w.heap.size/\∀(i:Nat) v,cs[i]? =some v->w.cell? ⟨Zu,off+i,none⟩=some v
def yL(l:List (Nat×Nat)):Mu:=fun i=>(l[i]?).map fun x=>⟨x.1,x.2,0,false,aG⟩
def Su(i:Nat):List (Array Value×TypeId)->Qq
 |[]=>[]
 |(cs,t)::l=>(i,.cells cs t (1,1))::Su (i+1) l
theorem bU:∀(l:List (Array Value×TypeId)) (i k:Nat),Qt (Su i l) k=if i<=k then(l[k-i]?).map fun x=>.cells x.1 x.2 (1,1)else none
 |[],i,k=>by simp[Su,Qt]
 |(cs,t)::l,i,k=>by
  simp only[Su];rw[QQ,bU l (i+1) k];by_cases e:k=i
  ·subst e;simp
  ·rw[if_neg e];by_cases h:i<=k
   ·rw[if_pos h,if_pos (by omega),show k-i=(k-(i+1))+1 by omega];simp
   ·rw[if_neg h,if_neg (by omega)]
theorem NN{w:World}{l:List (Array Value×TypeId)}{at':List (Nat×Nat)}(hl:at'.length=l.length)(h:∀(i:Nat) x a,l[i]? =some x->at'[i]? =some a->Qbs w a.1 a.2 x.1/\x.1.all af=true):Ok w.heap.size (fun i=>i<l.length) (yL at') (Qt (Su 0 l)) w:=by
 have key:∀i o,i<l.length->Qt (Su 0 l) i=some o->∃x a,l[i]? =some x/\at'[i]? =some a/\o=.cells x.1 x.2 (1,1):=by
  intro i o hi ho;rw[bU,if_pos (Nat.zero_le _),Nat.sub_zero]at ho;have h1:l[i]? =some l[i]:=by simp[hi]
  have h2:at'[i]? =some (at'[i]'(by omega)):=by simp[hl ▸ hi]
  rw[h1]at ho;simp only[LI,YO]at ho;exact⟨_,_,h1,h2,ho.symm⟩
 refine⟨fun i o hi ho _=> ?_,fun i o im hi ho _ QJ=> ?_,fun i j oi oj a b hi hj _ Wl _ _ _ ha _ hra _=> ?_,fun i o hi ho hr=> ?_,fun i j oi oj a b x hi hj Wl Wk hr=> ?_⟩
 ·obtain⟨x,a,h1,h2,rfl⟩:=key i o hi ho;obtain⟨⟨_,hc⟩,haf⟩:=h i x a h1 h2;refine⟨⟨a.1,a.2,0,false,aG⟩,by simp[yL,h2],.inr ⟨by simp,fun k v hv=>⟨v,hc k v hv,PL (Array.all_eq_true'.1 haf v (LL hv))⟩⟩⟩
 ·obtain⟨x,a,h1,h2,rfl⟩:=key i o hi ho;simp only[yL,h2,LI,YO]at QJ;subst QJ;exact⟨(h i x a h1 h2).1.1,(fun h=>by cases h),fun _=>(h i x a h1 h2).1.1⟩
 ·obtain⟨x,q,h1,h2,_⟩:=key i oi hi Wl;simp only[yL,h2,LI,YO]at ha;subst ha;cases hra
 ·obtain⟨x,a,_,_,rfl⟩:=key i o hi ho;exact hr.elim
 ·obtain⟨x,a,_,_,rfl⟩:=key i oi hi Wl;exact hr.elim
theorem fp(l:List (Array Value×TypeId)):Under (Su 0 l) l.length:=by
 intro i hi;rw[bU,if_pos (Nat.zero_le _),Nat.sub_zero,LA (by omega)];rfl
theorem FQ{at':List (Nat×Nat)}:∀i,at'.length<=i->yL at' i=none:=fun i hi=>by simp[yL,LA hi]
end Go.CE

namespace Go.CE
open Go Go.RowKit

def M5(p:Value->Value->Bool):List Value->List Value->Bool
 |[],[]=>true
 |x::l,y::m=>p x y && M5 p l m
 |_,_=>false
theorem Yk{p:Value->Value->Bool}(hp:∀x y,p x y=true->x=y):∀(l m:List Value),M5 p l m=true->l=m
 |[],[],_=>rfl
 |x::l,y::m,h=>by
  simp only[M5,YB]at h;rw[hp x y h.1,Yk hp l m h.2]
 |[],_::_,h=>by cases h
 |_::_,[],h=>by cases h
def Og:List UInt8->List UInt8->Bool
 |[],[]=>true
 |x::l,y::m=>Lf x.toNat y.toNat && Og l m
 |_,_=>false
theorem qh:∀(l m:List UInt8),Og l m=true->l=m
 |[],[],_=>rfl
 |x::l,y::m,h=>by
  simp only[Og,YB]at h;rw[UInt8.toNat_inj.1 (YE h.1),qh l m h.2]
 |[],_::_,h=>by cases h
 |_::_,[],h=>by cases h
def Qa0:Value->Value->Bool
 | .bool a,.bool b=>a==b
 | .int k a,.int l b=>decide (k=l) && Yo a b
 | .slice (some ⟨a,o,none⟩) n s,.slice (some ⟨b,p,none⟩) m t=>Lf a b && Lf o p && Lf n m && Lf s t
 | .slice none n s,.slice none m t=>Lf n m && Lf s t
 | .string a,.string b=>Og a.data.toList b.data.toList
 | .pointer (some ⟨a,o,none⟩),.pointer (some ⟨b,p,none⟩)=>Lf a b && Lf o p
 | .func (.func g) x y,.func (.func g') x' y'=>Lf g g' && (Lf x.toList.length 0 && (Lf y.toList.length 0 && (Lf x'.toList.length 0 && Lf y'.toList.length 0)))
 |_,_=>false
theorem M3{a b:Int}(h:Yo a b=true):a=b:=by
 rw[iY]at h;simpa using h
theorem qf(x y:Value)(h:Qa0 x y=true):x=y:=by
 unfold Qa0 at h;split at h
 ·simp only[beq_iff_eq]at h;rw[h]
 ·simp only[YB,decide_eq_true_eq]at h;rw[h.1,M3 h.2]
 ·simp only[YB]at h;obtain⟨⟨⟨h1,h2⟩,h3⟩,h4⟩:=h;rw[YE h1,YE h2,YE h3,YE h4]
 ·simp only[YB]at h;rw[YE h.1,YE h.2]
 ·rename_i a b;obtain⟨a⟩:=a;obtain⟨b⟩:=b;simp only at h;rw[Array.ext' (qh _ _ h)]
 ·simp only[YB]at h;rw[YE h.1,YE h.2]
 ·rename_i x y _ x' y';simp only[YB,Nat.beq_eq]at h;obtain⟨h1,h2,h3,h4,h5⟩:=h;have e:∀z:Array Value,z.toList.length=0->z=#[]:=fun z hz=>by
   have:=List.eq_nil_of_length_eq_zero hz;exact Array.ext' this
  rw[h1,e x h2,e y h3,e x' h4,e y' h5]
 ·cases h
def Gk:Nat->Value->Value->Bool
 |f+1,.agg x,.agg y=>M5 (Gk f) x.toList y.toList
 |f+1,.tuple x,.tuple y=>M5 (Gk f) x.toList y.toList
 |_,x,y=>Qa0 x y
theorem UT:∀(f:Nat) (x y:Value),Gk f x y=true->x=y
 |0,x,y,h=>qf x y (by simpa[Gk]using h)
 |f+1,x,y,h=>by
  unfold Gk at h;split at h
  ·rename_i f' a b e;cases e;rw[Array.ext' (Yk (UT f) _ _ h)]
  ·rename_i f' a b e;cases e;rw[Array.ext' (Yk (UT f) _ _ h)]
  ·exact qf _ _ h
def Ad(H:Qq)(x:Nat×Array Value×TypeId):Bool:=match Qt H x.1 with
 |some (.cells ds t (0,0))=>M5 (Gk 1) ds.toList x.2.1.toList && Lf t x.2.2
 |_=>false
def DV(x:Option Rs)(out:Value)(bs:List (Nat×Array Value×TypeId)):Bool:=match x with
 |some ⟨.ret v,H,_,_,[]⟩=>Gk 3 v out && bs.all (Ad H)
 |_=>false
theorem CQ{x:Option Rs}{out:Value}{bs:List (Nat×Array Value×TypeId)}(h:DV x out bs=true):∃s,x=some s/\s.out=.ret out/\s.W=[]/\∀y∈bs,Qt s.H y.1=some (.cells y.2.1 y.2.2 (0,0)):=by
 unfold DV at h;split at h
 ·rename_i v H n R;simp only[YB]at h;refine⟨_,rfl,by rw[UT 3 _ _ h.1],rfl,fun y hy=> ?_⟩;have:=List.all_eq_true.1 h.2 y hy;unfold Ad at this;split at this
  ·rename_i ds t hg;simp only[YB]at this;have e1:=Array.ext' (Yk (UT 1) _ _ this.1);have e2:=YE this.2;simp only;rw[hg,e1,e2]
  ·cases this
 ·cases h
theorem Gq{P:Program}{F:FuncId->Bool}{Xr:WZ}(hF:∀g,F g=true->Q1 P g=true)(Zl:P.follows .mixedOrders=true){fuel:Nat}{f:FuncId}{args args':Array Value}{l:List (Array Value×TypeId)}{at':List (Nat×Nat)}{out:Value}{bs:List (Nat×Array Value×TypeId)}
 (h:DV (qo P F Xr fuel f args (Su 0 l) l.length) out bs=true) {w:World} {I:World->Prop} {hI:∀w1 w2:World,(∀b,b<w.heap.size->w2.heap[b]? =w1.heap[b]?)->I w1->I w2} (ZY:Wz P ⟨w.heap.size,I,hI⟩ Xr) (hi:I w) (hl:at'.length=l.length) (hlies:∀(i:Nat) x a,l[i]? =some x->at'[i]? =some a->Qbs w a.1 a.2 x.1/\x.1.all af=true) (hv:VRs (yL at') args args'):
 Calls P f args' w fun e w'=> ∃v' n' H' μ',e=.returned v'/\Post w.heap.size (fun i=>i<l.length) l.length n' [] (yL at') μ' (Su 0 l) H' w w'/\VR μ' out v'/\(∀y∈bs,Qt H' y.1=some (.cells y.2.1 y.2.2 (0,0)))/\Under H' n'/\Below w.heap.size w w':=by
 obtain⟨s,hs,ho,hW,hb⟩:=CQ h;obtain hc:=uy hF Zl hs (fp l) ZY hi (NN hl hlies) hv (fun i hi=>FQ i (by omega));intro cs;obtain⟨e,w',fr,⟨Zh,μ',hp,ZU,he⟩,h1,h2,h3⟩:=hc cs;refine⟨e,w',fr, ?_,h1,h2,h3⟩;rw[ho]at ZU;rw[hW]at hp;cases ZU with
 |ret VX=>exact⟨_,s.n,s.H,μ',he,hp,VX,hb,Ao ZY hF Zl hs (fp l),⟨hp.os,hp.tape,hp.output,hp.grow,fun b hb=>hp.frame b hb fun i hi=>by simp at hi⟩⟩
end Go.CE

namespace Go.CE
open Go Go.RowKit

def M4:Obj->Obj->Bool
 | .cells a t (x,y),.cells b u (z,v)=>M5 (Gk 1) a.toList b.toList && Lf t u && Lf x z && Lf y v
 |_,_=>false
theorem Ai{a b:Obj}(h:M4 a b=true):a=b:=by
 unfold M4 at h;split at h
 ·simp only[YB]at h;obtain⟨⟨⟨h1,h2⟩,h3⟩,h4⟩:=h;rw[Array.ext' (Yk (UT 1) _ _ h1),YE h2,YE h3,YE h4]
 ·cases h
def hasAll(H:Qq):Qq->Bool
 |[]=>true
 |(i,o)::l=>(match Qt H i with|some x=>M4 x o|none=>false) && hasAll H l
theorem Pz{H:Qq}:∀{l:Qq},hasAll H l=true->∀i o,Qt l i=some o->Qt H i=some o
 |[],_,i,o,ho=>by cases ho
 |(k,x)::l,h,i,o,ho=>by
  simp only[hasAll,YB]at h;rw[QQ]at ho;by_cases e:i=k
  ·subst e;rw[if_pos rfl]at ho;simp only[YO]at ho;subst ho;have h1:=h.1;split at h1
   ·rename_i y hy;rw[hy,Ai h1]
   ·cases h1
  ·rw[if_neg e]at ho;exact Pz h.2 i o ho
structure Memo where
 g:FuncId
 args:Array Value
 H0:Qq
 n:Nat
 out:Value
 news:Qq
 n':Nat
def within(n n':Nat)(l:Qq):Bool:=l.all fun x=>LP n x.1 && Ls x.1 n'
def QM(m:Memo)(x:Option Rs):Bool:=match x with
 |some ⟨.ret v,H,n',R,[]⟩=>Gk 3 v m.out && Lf n' m.n' && hasAll H m.news && within m.n m.n' m.news && within 0 m.n m.H0 && R.all (fun i=>LP m.n i || (Qt m.H0 i).isSome)
 |_=>false
noncomputable def Memo.run(P:Program)(F:FuncId->Bool)(Xr:WZ)(fuel:Nat)(m:Memo):Option Rs:=qo P F Xr fuel m.g m.args m.H0 m.n
def XX:List Memo->WZ
 |[],_,_,_,_=>none
 |m::l,g,args,H,n=>bif Lf m.n n && Lf m.g g && M5 (Gk 1) args.toList m.args.toList && hasAll H m.H0 then some ⟨.ret m.out,m.news++H,m.n',m.H0.map (·.1),[]⟩else XX l g args H n
theorem ZI:∀(l H:Qq) (i:Nat),Qt (l++H) i=match Qt l i with|some o=>some o|none=>Qt H i
 |[],H,i=>rfl
 |(k,o)::l,H,i=>by
  rw[List.cons_append,QQ,QQ];by_cases e:i=k
  ·rw[if_pos e,if_pos e]
  ·rw[if_neg e,if_neg e];exact ZI l H i
theorem fh{n n':Nat}:∀{l:Qq},within n n' l=true->∀i o,Qt l i=some o->n<=i/\i<n'
 |[],_,i,o,ho=>by cases ho
 |(k,x)::l,h,i,o,ho=>by
  simp only[within,List.all_cons,YB]at h;rw[QQ]at ho;by_cases e:i=k
  ·subst e;exact⟨YL h.1.1,YL h.1.2⟩
  ·rw[if_neg e]at ho;exact fh h.2 i o ho
theorem WX{n n':Nat}{l:Qq}(h:within n n' l=true){i:Nat}(hi:i<n\/n'<=i):Qt l i=none:=by
 cases hg:Qt l i with
 |none=>rfl
 |some o=>have:=fh h i o hg;omega
theorem hY{l:Qq}{i:Nat}{o:Obj}(h:Qt l i=some o):i∈l.map (·.1):=by
 induction l with
 |nil=>cases h
 |cons p l ih=>
  obtain⟨k,x⟩:=p;rw[QQ]at h;by_cases e:i=k
  ·subst e;simp
  ·rw[if_neg e]at h;exact Lw _ (ih h)
theorem ki{m:Memo}{x:Option Rs}(h:QM m x=true):∃H R,x=some ⟨.ret m.out,H,m.n',R,[]⟩/\(∀i o,Qt m.news i=some o->Qt H i=some o)/\within m.n m.n' m.news=true/\within 0 m.n m.H0=true/\∀i∈R,i<m.n->∃o,Qt m.H0 i=some o:=by
 unfold QM at h;split at h
 ·rename_i v H n' R;simp only[YB]at h;obtain⟨⟨⟨⟨⟨h1,h2⟩,h3⟩,h4⟩,h5⟩,h6⟩:=h;refine⟨H,R,by rw[UT 3 _ _ h1,YE h2],Pz h3,h4,h5,fun i hi hl=> ?_⟩;have:=List.all_eq_true.1 h6 i hi;simp only[Bool.or_eq_true]at this;rcases this with h|h
  ·have:=YL h;omega
  ·exact Option.isSome_iff_exists.1 h
 ·cases h
theorem QP{P:Program}{F:FuncId->Bool}{Xr:WZ}{B:Lo}(hF:∀g,F g=true->Q1 P g=true)(Zl:P.follows .mixedOrders=true)(ZY:Wz P B Xr){fuel:Nat}{m:Memo}{l:List Memo}(hm:QM m (m.run P F Xr fuel)=true)(hl:Wz P B (XX l)):Wz P B (XX (m::l)):=by
 intro g args H n s hu h;simp only[XX]at h;cases hq:(Lf m.n n && Lf m.g g && M5 (Gk 1) args.toList m.args.toList && hasAll H m.H0)with
 |false=>
  rw[hq]at h;exact hl g args H n s hu h
 |true=>
  rw[hq]at h;simp only[cond_true,YO]at h;simp only[YB]at hq;obtain⟨⟨⟨q1,q2⟩,q3⟩,q4⟩:=hq;obtain rfl:=YE q1;obtain rfl:=YE q2;obtain rfl:=Array.ext' (Yk (UT 1) _ _ q3);have hH:=Pz q4;subst h;obtain⟨Hs,R,VU,hnews,hw,hw0,hR0⟩:=ki hm;obtain⟨c,hc,hr⟩:=ff VU;have hu0:Under m.H0 m.n:=fun i hi=>WX hw0 (.inr hi)
  obtain⟨Rr,Wr,hfj,a1,a2,a3,a4⟩:=Je (B:=B) hF Zl ZY fuel m.n c m.H0 m.n [] [] _ hu0 (fun i hi=>by simp at hi) (fun i hi=>by simp at hi) hr;have hfj:=hfj.lists (fun i hi=>by simpa using a1 i hi) (fun i hi=>by simpa using a2 i hi) a4;have hle:m.n<=m.n':=hfj.shape.le;have a8:∀i,i<m.n\/m.n'<=i->Qt (m.news++H) i=Qt H i:=fun i hi=>by
   rw[ZI,WX hw hi]
  have Jb:∀i o,m.n<=i->Qt (m.news++H) i=some o->Qt Hs i=some o:=by
   intro i o h1 h2;rw[ZI]at h2;cases hg:Qt m.news i with
   |some x=>
    rw[hg]at h2;rw[hnews i x hg];exact h2
   |none=>
    rw[hg,hu i h1]at h2;cases h2
  refine⟨⟨hle,fun i hi _=>a8 i (.inl hi),fun i hi=>a8 i (.inr hi),fun _ h=>by simp at h,fun _ h=>by simp at h⟩,fun S μ w args' cs QE hB hS hf hv hR=> ?_⟩;simp only at hf hR ⊢;have hok0:Ok B (fun i=>S i/\∃o,Qt m.H0 i=some o) μ (Qt m.H0) w:=by
   refine⟨fun i o hi ho hl=>QE.rel i o hi.1 (hH i o ho) hl,fun i o im hi ho hl=>QE.low i o im hi.1 (hH i o ho) hl,fun i j oi oj a b hi hj ay Wl Wk=>QE.inj i j oi oj a b hi.1 hj.1 ay (hH i oi Wl) (hH j oj Wk),
    fun i o hi ho=>QE.Pj i o hi.1 (hH i o ho),fun i j oi oj a b x hi hj Wl Wk=>QE.sep i j oi oj a b x hi.1 hj.1 (hH i oi Wl) (hH j oj Wk)⟩
  obtain⟨Zh,w',μ',hp,ho,he⟩:=hfj.sem _ μ w _ cs hok0 hB (fun i hi=>hS i hi.1) hf (UL hc hv) (fun i hi hl=>by
   obtain⟨o,ho⟩:=hR0 i hi hl;exact⟨hR i (hY ho) hl,o,ho⟩)
  simp only at hp ho;have hold:∀i im,S i->μ i=some im->μ' i=some im:=fun i im hi h=>by
   have:=hS i hi;rw[hp.ext i (by omega)];exact h
  have hext:Ext μ μ':=hp.mu hf;have XJ:∀i im o,m.n<=i->i<m.n'->Qt (m.news++H) i=some o->live o->μ' i=some im->im.rw=true/\w.heap.size<=im.Zu:=by
   intro i im o h1 h2 h3 h4 h5;obtain⟨x,y⟩:=hp.fresh i im o h1 h2 (Jb i o h1 h3) h4 h5;exact⟨x,y.elim id fun⟨k,hk,_⟩=>by simp at hk⟩
  have hOld:∀i o,S i->Qt (m.news++H) i=some o->live o->∃im,μ i=some im/\μ' i=some im/\Qt H i=some o/\im.Zu<w.heap.size:=by
   intro i o hi ho hl;have:=hS i hi;rw[a8 i (.inl this)]at ho;obtain⟨im,QJ,_⟩:=QE.rel i o hi ho hl;exact⟨im,QJ,hold i im hi QJ,ho,(QE.low i o im hi ho hl QJ).1⟩
  refine⟨Zh,w',μ',⟨⟨fun i o hi ho hl=> ?_,fun i o im hi ho hl QJ=> ?_,fun i j oi oj a b hi hj ay Wl Wk S0 Ud ha hb hra Yr=> ?_,fun i o hi ho hr=> ?_,fun i j oi oj a b x hi hj Wl Wk Pe Ud ha hb Yr hx=> ?_⟩,hle,hp.ext,fun i hi _=>a8 i (.inl hi),hp.grow,fun b hb _=>hp.frame b hb fun i hi=>by simp at hi,fun i hi=>by simp at hi,
   fun i im o h1 h2 h3 h4 h5=>⟨(XJ i im o h1 h2 h3 h4 h5).1,.inl (XJ i im o h1 h2 h3 h4 h5).2⟩,fun i im o hi ho hr hm b x hx=> ?_,hp.os,hp.tape,hp.output⟩,ho,he⟩
  ·rcases hi with hi|hi
   ·obtain⟨im,QJ,QN,Kt,Xp⟩:=hOld i o hi ho hl;obtain⟨im2,WV,hr2⟩:=QE.rel i o hi Kt hl;rw[QJ]at WV;cases WV;exact⟨im,QN,hr2.keep hext (hp.frame _ Xp fun i hi=>by simp at hi)⟩
   ·exact hp.ok.rel i o (.inr hi) (Jb i o hi.1 ho) hl
  ·rcases hi with hi|hi
   ·obtain⟨im2,WV,QN,Kt,Xp⟩:=hOld i o hi ho hl;rw[QJ]at QN;cases QN;exact⟨Nat.lt_of_lt_of_le Xp hp.grow,(QE.low i o im hi Kt hl WV).2⟩
   ·exact hp.ok.low i o im (.inr hi) (Jb i o hi.1 ho) hl QJ
  ·rcases hi with hi|hi <;> rcases hj with hj|hj
   ·obtain⟨im,h1,h2,h3,_⟩:=hOld i oi hi Wl S0;obtain⟨jm,k1,k2,k3,_⟩:=hOld j oj hj Wk Ud;rw[ha]at h2;cases h2;rw[hb]at k2;cases k2;exact QE.inj i j oi oj a b hi hj ay h3 k3 S0 Ud h1 k1 hra Yr
   ·obtain⟨im,h1,h2,h3,h4⟩:=hOld i oi hi Wl S0;rw[ha]at h2;cases h2;have:=(XJ j b oj hj.1 hj.2 Wk Ud hb).2;omega
   ·obtain⟨im,h1,h2,h3,h4⟩:=hOld j oj hj Wk Ud;rw[hb]at h2;cases h2;have:=(XJ i a oi hi.1 hi.2 Wl S0 ha).2;omega
   ·exact hp.ok.inj i j oi oj a b (.inr hi) (.inr hj) ay (Jb i oi hi.1 Wl) (Jb j oj hj.1 Wk) S0 Ud ha hb hra Yr
  ·rcases hi with hi|hi
   ·have:=hS i hi;rw[a8 i (.inl this)]at ho;obtain⟨im,QJ,hf⟩:=QE.Pj i o hi ho hr;exact⟨im,hold i im hi QJ,fun b x hx=>by rw[hp.frame b (PU QE hi ho hr QJ hx) fun i hi=>by simp at hi];exact hf b x hx⟩
   ·exact hp.ok.Pj i o (.inr hi) (Jb i o hi.1 ho) hr
  ·have oldR:∀i oi a,S i->Qt (m.news++H) i=some oi->μ' i=some a->Wd oi->Qt H i=some oi/\μ i=some a:=by
    intro i oi a hi Wl ha hr;have:=hS i hi;rw[a8 i (.inl this)]at Wl;rw[hp.ext i (by omega)]at ha;exact⟨Wl,ha⟩
   rcases hi with hi|hi <;> rcases hj with hj|hj
   ·obtain⟨h1,h2⟩:=oldR i oi a hi Wl ha Pe;obtain⟨jm,k1,k2,k3,_⟩:=hOld j oj hj Wk Ud;rw[hb]at k2;cases k2;exact QE.sep i j oi oj a b x hi hj h1 k3 Pe Ud h2 k1 Yr hx
   ·obtain⟨h1,h2⟩:=oldR i oi a hi Wl ha Pe;have:=(XJ j b oj hj.1 hj.2 Wk Ud hb).2;have:=PU QE hi h1 Pe h2 hx;omega
   ·obtain⟨jm,k1,k2,k3,k4⟩:=hOld j oj hj Wk Ud;rw[hb]at k2;cases k2;rcases hp.rf i a oi (.inl hi) (Jb i oi hi.1 Wl) Pe ha b.Zu x hx with e|⟨k,US,ko,hSk,_,hko,hkr,hkm,hkb⟩|⟨k,hk,_⟩
    ·omega
    ·exact QE.sep k j ko oj US b x hSk.1 hj (hH k ko hko) k3 hkr Ud hkm k1 Yr hkb
    ·simp at hk
   ·exact hp.ok.sep i j oi oj a b x (.inr hi) (.inr hj) (Jb i oi hi.1 Wl) (Jb j oj hj.1 Wk) Pe Ud ha hb Yr hx
  ·have YF:m.n<=i/\i<m.n':=hi.elim id fun h=>by simp at h
   rcases hp.rf i im o (.inl YF) (Jb i o YF.1 ho) hr hm b x hx with e|⟨k,US,ko,hSk,hkn,hko,c⟩|⟨k,hk,_⟩
   ·exact .inl e
   ·exact .inr (.inl ⟨k,US,ko,hSk.1,hkn,hH k ko hko,c⟩)
   ·simp at hk
theorem Zg(P:Program)(B:Lo):Wz P B (XX []):=fun _ _ _ _ _ _ h=>by cases h
end Go.CE

namespace Go.CE
open Go Go.RowKit
noncomputable section

section
variable {P:Program} {fr:Frame} {cs:List Frame} {w:World} {A:Array Value} {ops:Array Oper} {i:Nat} {l:List Nat} {k:List Item} {o:Oper}
theorem step_defer{c:Call}{f:Operand}{d:Deferred}(hm:fr.mode=.run)(hr:fr.roundOf=none)(ho:ops[i]? =some o)(hw:Region.wanted o (yielded ops A)=true)(Zi:o.op=.defer c)(hc:c.callee=.value f)
 (hd:(Deferred.ofValue ((Xu fr A ops (i::l) k).eval f) (c.args.map (Xu fr A ops (i::l) k).eval)).run P w=.ok d w):
 step P (lone (Xu fr A ops (i::l) k) cs w)=.next (lone {(Xu fr A ops (i::l) k).finish undef with defers:=d::fr.defers} cs w):=by
 refine step_lone_go ?_;have he:(Xu fr A ops (i::l) k).oper? =some o:=by simp[Frame.oper?,Xu,ho]
 simp only[stepG,show(Xu fr A ops (i::l) k).mode=.run from hm];unfold stepG.exec;simp only[Xu,ho,LI,hw,Option.getD_some,if_true];unfold stepG.oper;simp only[Frame.oper?,ho,hr];unfold stepG.apply;simp only[Xu,hr]at hd;simp[execOp,Zi,resolve,hc,hd,Sem.runT_eq,Frame.finish,ho]
theorem sD{cal:Frame}{c:Call}{v:Value}(hm:fr.mode=.run)(hk:fr.kind=.deferred)(hr:fr.roundOf=none)(ho:ops[i]? =some o)(hw:Region.wanted o (yielded ops A)=true)(Zi:o.op=.call c)(hc:c.callee=.builtin .recover)(ha:c.args=#[])
 (hcal:cal.mode=.panicking [{v,recovered:=false}]):
 step P (lone (Xu fr A ops (i::l) k) (cal::cs) w)=.next (lone ((Xu fr A ops (i::l) k).finish v) ({cal with mode:=.panicking [{v,recovered:=true}]}::cs) w):=by
 refine step_lone_go ?_;simp only[stepG,show(Xu fr A ops (i::l) k).mode=.run from hm];unfold stepG.exec;simp only[Xu,ho,LI,hw,Option.getD_some,if_true];unfold stepG.oper;simp only[Frame.oper?,ho,hr];unfold stepG.apply;simp[execOp,Zi,resolve,hc,ha,invoke,builtin,Sem.runT_eq,tryRecover,hk,hcal,Frame.finish,ho]
theorem iv{cal:Frame}{c:Call}(hm:fr.mode=.run)(hr:fr.roundOf=none)(ho:ops[i]? =some o)(hw:Region.wanted o (yielded ops A)=true)(Zi:o.op=.call c)(hc:c.callee=.builtin .recover)(ha:c.args=#[])(hk:fr.kind=.deferred)
 (hcal:cal.mode=.returning):
 step P (lone (Xu fr A ops (i::l) k) (cal::cs) w)=.next (lone ((Xu fr A ops (i::l) k).finish .nilIface) (cal::cs) w):=by
 refine step_lone_go ?_;simp only[stepG,show(Xu fr A ops (i::l) k).mode=.run from hm];unfold stepG.exec;simp only[Xu,ho,LI,hw,Option.getD_some,if_true];unfold stepG.oper;simp only[Frame.oper?,ho,hr];unfold stepG.apply;simp[execOp,Zi,resolve,hc,ha,invoke,builtin,Sem.runT_eq,tryRecover,hk,hcal,Frame.finish,ho]
theorem ei{g:FuncId}{args:Array Value}{d:Deferred}{ds:List Deferred}{fn:Fn}{ys:Array Value}(hm:fr.mode≠.run)(hd:fr.defers=d::ds)(ht:d.target=.fn fn ys)(hi:(invoke d.target d.args).run P w=.ok (.enter g args) w):
 step P (lone fr cs w)=.next (lone (Frame.enter P g args .deferred) ({fr with defers:=ds}::cs) w):=by
 obtain⟨t,a⟩:=d;simp only at ht;subst ht;refine step_lone_go ?_;cases hmode:fr.mode with
 |run=>exact absurd hmode hm
 |returning=>simp[stepG,unwind,hd,callDeferred,hmode,Sem.runT_eq,hi]
 |panicking ch=>simp[stepG,unwind,hd,callDeferred,hmode,Sem.runT_eq,hi]
def Na(cal:Frame):Frame:=match cal.mode with
 | .panicking [{recovered:=true,..}]=>{cal with mode:=.returning}
 |_=>cal
theorem fy{cal:Frame}{fn:Func}{v:Value}(hm:fr.mode=.returning)(hd:fr.defers=[])(hk:fr.kind=.deferred)(hf:P.funcs[fr.fn]? =some fn)(hr:(results fn fr.tmps).run P w=.ok v w)
 (hcal:cal.mode=.returning\/∃v,cal.mode=.panicking [{v,recovered:=true}]):
 step P (lone fr (cal::cs) w)=.next (lone {cal with mode:=.returning} cs w):=by
 refine step_lone_go ?_;rcases hcal with h|⟨v,h⟩
 ·have:cal={cal with mode:=.returning}:=by cases cal;simp_all
  rw[<-this];simp[stepG,unwind,doReturn,hm,hd,hk,hf,Sem.runT_eq,hr,h]
 ·simp[stepG,unwind,doReturn,hm,hd,hk,hf,Sem.runT_eq,hr,h]
end

def Qau(o:Oper):Bool:=match o.op with
 | .defer _=>true
 | .call c=>match c.callee with
   | .builtin .recover=>true
   |_=>false
 |_=>false
def ct:List Oper->List Oper×List Oper
 |[]=>([],[])
 |o::l=>bif Qau o then([],o::l)else(o::(ct l).1,(ct l).2)
theorem m7:∀l:List Oper,(ct l).1++(ct l).2=l
 |[]=>rfl
 |o::l=>by
  simp only[ct];cases Qau o with
  |true=>rfl
  |false=>simp[m7 l]
def GL(P:Program)(F:FuncId->Bool)(Xr:WZ)(fuel:Nat):CF->Qq->Nat->Option Rs:=fun c H n=>
 CF.rec (fun fn T todo ds mode ro=>CM.rec (Tm.rec (fun len tr=>bV P F Xr fuel n fn len tr todo ds ro H n [] []) T) none (fun _=>none) mode) c
theorem ek{P:Program}{F:FuncId->Bool}{Xr:WZ}{B:Lo}(hF:∀g,F g=true->Q1 P g=true)(Zl:P.follows .mixedOrders=true)(ZY:Wz P B Xr)(fuel:Nat):jg P B (GL P F Xr fuel):=by
 intro c H n s hu h;have hr:qL P F Xr fuel n c H n [] []=some s:=by
  unfold GL at h;obtain⟨fn,⟨len,tr⟩,todo,ds,mode,ro⟩:=c;cases mode with
  |run=>
   rw[<-qb,<-qc];exact h
  |ret=>cases h
  |Wn v=>cases h
 obtain⟨Rr,Wr,hfj,a1,a2,a3,a4⟩:=Je hF Zl ZY fuel n c H n [] [] s hu (fun i hi=>by simp at hi) (fun i hi=>by simp at hi) hr;exact hfj.lists (fun i hi=>by simpa using a1 i hi) (fun i hi=>by simpa using a2 i hi) a4
structure MS where
 c:CF
 H:Qq
 n:Nat
 R:List Nat
 W:List Nat
def Qa4(c:CF):Bool:=match c.todo with
 | .code (.region _ ops false)::_=>ops.toList.any Qau
 |_=>false
def o4(P:Program)(F:FuncId->Bool)(Xr:WZ)(fu:Nat)(b:Nat):Nat->MS->Option MS
 |0,_=>none
 |k+1,m=>
  bif (match m.c.mode with| .run=>Qa4 m.c|_=>m.c.defers.isEmpty)then some m else
  match Sb P F Xr (GL P F Xr fu) m.c m.H m.n with
  |some (.go c' H' n' R' W')=>o4 P F Xr fu b k ⟨c',H',n',ZT b R' m.R,ZT b W' m.W⟩
  |_=>none
structure SpR where
 T:Tm
 H:Qq
 n:Nat
 o:Oper
 post:List Oper
 Qz:List Rec
def v3(P:Program)(F:FuncId->Bool)(Xr:WZ)(fu:Nat)(ops:Array Oper)(c:CF)(H:Qq)(n:Nat):Option SpR:=
 match ct ops.toList with
 |(pre,o::post)=>match iz P F Xr (GL P F Xr fu) ops pre c.tmps H n with
  |some (Qz,.ok T H' n')=>bif Rp T o.dst && Region.wanted o (XS ops T)then some ⟨T,H',n',o,post,Qz⟩else none
  |_=>none
 |_=>none
def IF:CM->Option Value
 | .run=>none
 | .ret=>some .nilIface
 | .Wn v=>some v
def mD(P:Program)(F:FuncId->Bool)(Xr:WZ)(fu:Nat)(b:Nat)(g:FuncId)(args:Array Value)(pv:Value)(H:Qq)(n:Nat)(R W:List Nat):Option MS:=
 match Wa P g args with
 |some cd=>match o4 P F Xr fu b 10000 ⟨cd,H,n,R,W⟩with
  |some m1=>match m1.c.mode,m1.c.todo with
   | .run,.code (.region _ ops false)::todo=>match v3 P F Xr fu ops m1.c m1.H m1.n with
     |some s=>match s.o.op with
      | .call c=>match c.callee with
        | .builtin .recover=>bif c.args.isEmpty then
         match iz P F Xr (GL P F Xr fu) ops s.post (VG s.T s.o.dst pv) s.H s.n with
         |some (recs2,.ok T2 H2 n2)=>match o4 P F Xr fu b 10000 ⟨{m1.c with tmps:=T2,todo:=todo},H2,n2,ZT b (Y9 recs2) (ZT b (Y9 s.Qz) m1.R),ZT b (Uc recs2) (ZT b (Uc s.Qz) m1.W)⟩with
          |some m2=>match m2.c.mode,m2.c.defers,vI P m2.c.fn m2.H m2.c.tmps with
           | .ret,[],some (_,R3)=>some ⟨m2.c,m2.H,m2.n,ZT b R3 m2.R,m2.W⟩
           |_,_,_=>none
          |none=>none
         |_=>none
          else none
        |_=>none
      |_=>none
     |none=>none
   |_,_=>none
  |none=>none
 |none=>none
def MD(P:Program)(F:FuncId->Bool)(Xr:WZ)(fu:Nat)(f:FuncId)(args:Array Value)(H:Qq)(n:Nat):Option Rs:=
 match Wa P f args with
 |some c0=>match o4 P F Xr fu n 10000 ⟨c0,H,n,[],[]⟩with
  |some m1=>match m1.c.mode,m1.c.todo,m1.c.defers with
   | .run,.code (.region _ ops false)::todo,[]=>match v3 P F Xr fu ops m1.c m1.H m1.n with
     |some s=>match s.o.op,s.post with
      | .defer c,[]=>match c.callee with
        | .value x=>match Zd s.T x with
          |some (.func (.func g) xs ys)=>bif c.args.isEmpty && F g then
           match o4 P F Xr fu n 100000 ⟨{m1.c with tmps:=VG s.T s.o.dst undef,todo:=todo},s.H,s.n,ZT n (Y9 s.Qz) m1.R,ZT n (Uc s.Qz) m1.W⟩with
           |some m2=>match IF m2.c.mode,m2.c.defers with
            |some pv,[]=>match mD P F Xr fu n g (xs++ys) pv m2.H m2.n m2.R m2.W with
             |some m3=>match vI P m2.c.fn m3.H m2.c.tmps with
              |some (v,R4)=>some ⟨.ret v,m3.H,m3.n,ZT n R4 m3.R,m3.W⟩
              |none=>none
             |none=>none
            |_,_=>none
           |none=>none
            else none
          |_=>none
        |_=>none
      |_,_=>none
     |none=>none
   |_,_,_=>none
  |none=>none
 |none=>none

section
variable {P:Program} {F:FuncId->Bool} {Xr:WZ} {B:Lo}
theorem GoJ.refl(c:CF)(H:Qq)(n:Nat):GoJ P B c H n c H n [] []:=⟨Shape.same _ _ _,fun _ μ w fr _ _ QE _ _ _ XJ _=>⟨fr,w,μ,Post.refl QE,XJ,rfl,rfl,Steps.refl _ _⟩⟩
theorem GoJ.trans{c c' c'':CF}{H H' H'':Qq}{n n' n'':Nat}{R R' W W':List Nat}(h:GoJ P B c H n c' H' n' R W)(k:GoJ P B c' H' n' c'' H'' n'' R' W'):GoJ P B c H n c'' H'' n'' (R++R') (W++W'):=by
 refine⟨h.shape.trans k.shape,fun S μ w fr cs Z QE hB hS hf XJ hR=> ?_⟩;have l1:=h.shape.le;have l2:=k.shape.le;obtain⟨S1,w1,μ1,hp,Rz,hr,hfn,ZB⟩:=h.sem S μ w fr cs Z QE hB hS (fun q a b=>hf q a (by omega)) XJ (fun q hq Xp=>hR q (Lm _ hq) Xp);obtain⟨fr2,w2,μ2,Pb,hfr2,hr2,hfn2,hst2⟩:=k.sem _ μ1 w1 S1 cs Z hp.ok (hB.post QE hp) (fun q hq=>hq.elim (fun e=>by have:=hS q e;omega) (fun e=>e.2))
  (fun q a b=>by rw[hp.ext q (by omega)];exact hf q (by omega) b) Rz (fun q hq Xp=>by
   rcases LJ q n with h1|h1
   ·exact .inl (hR q (Lx _ hq) h1)
   ·exact .inr ⟨h1,Xp⟩)
 exact⟨fr2,w2,μ2,hp.trans Pb,hfr2,hr2.trans hr,hfn2.trans hfn,ZB.trans hst2⟩
theorem Rl(hF:∀g,F g=true->Q1 P g=true)(Zl:P.follows .mixedOrders=true)(ZY:Wz P B Xr){fu b:Nat}:∀(k:Nat) (m m':MS),Under m.H m.n->o4 P F Xr fu b k m=some m'->
 ∃R W,GoJ P B m.c m.H m.n m'.c m'.H m'.n R W/\(∀i,i<b->(i∈m'.R<->i∈m.R\/i∈R))/\(∀i,i<b->(i∈m'.W<->i∈m.W\/i∈W))
 |0,m,m',hu,h=>by simp[o4]at h
 |k+1,m,m',hu,h=>by
  simp only[o4]at h;cases hq:(match m.c.mode with| .run=>Qa4 m.c|_=>m.c.defers.isEmpty)with
  |true=>
   rw[hq]at h;simp only[cond_true,YO]at h;subst h;exact⟨[],[],GoJ.refl _ _ _,fun i _=>by simp,fun i _=>by simp⟩
  |false=>
   rw[hq]at h;simp only[cond_false]at h;split at h
   ·rename_i c' H' n' R' W' hs;have a8:GoJ P B m.c m.H m.n c' H' n' R' W':=V0 hF Zl ZY (ek hF Zl ZY fu) hu hs;obtain⟨R,W,h1,h2,h3⟩:=Rl hF Zl ZY k ⟨c',H',n',ZT b R' m.R,ZT b W' m.W⟩ m' (hu.shape a8.shape) h;refine⟨_,_,a8.trans h1,fun i hi=> ?_,fun i hi=> ?_⟩
    ·rw[h2 i hi,Z9 hi,List.mem_append,or_assoc]
    ·rw[h3 i hi,Z9 hi,List.mem_append,or_assoc]
   ·cases h
structure Sofar (B:Lo) (S:Nat->Prop) (n N:Nat) (W:List Nat) (μ0 μ:Mu) (H0 H:Qq) (m:Nat) (w0 w:World):Prop where
 post:Post B S n m W μ0 μ H0 H w0 w
 has:B.has w
 free:P4 μ m N
variable {S:Nat->Prop} {n N m m2:Nat} {W W2 R2:List Nat} {μ0 μ:Mu} {H0 H H2:Qq} {w0 w:World}
theorem Sofar.goj(s:Sofar B S n N W μ0 μ H0 H m w0 w)(hS:∀i,S i->i<n){c c':CF}(h:GoJ P B c H m c' H2 m2 R2 W2)(hN:m2<=N)(hR:∀i∈R2,i<n->S i){Z:Bot}{fr:Frame}(XJ:FrR Z μ c fr)(cs:List Frame):
 ∃fr' w' μ',Sofar B S n N (W++W2) μ0 μ' H0 H2 m2 w0 w'/\FrR Z μ' c' fr'/\fr'.roundOf=fr.roundOf/\fr'.fn=fr.fn/\Steps P (lone fr cs w) (lone fr' cs w')/\Ext μ μ':=by
 have l1:=s.post.le;have l2:=h.shape.le;have hf:P4 μ m m2:=fun q a b=>s.free q a (by omega)
 obtain⟨fr',w',μ',hp,h1,h2,h3,h4⟩:=h.sem _ μ w fr cs Z s.post.ok s.has (fun i hi=>hi.elim (fun e=>by have:=hS i e;omega) (fun e=>e.2)) hf XJ
  (fun q hq Xp=>by
   rcases LJ q n with h1|h1
   ·exact .inl (hR q hq h1)
   ·exact .inr ⟨h1,Xp⟩)
 exact⟨fr',w',μ',⟨s.post.trans hp,s.has.post s.post.ok hp,fun q a b=>by rw[hp.ext q (by omega)];exact s.free q (by omega) b⟩,h1,h2,h3,h4,hp.mu hf⟩
theorem Sofar.seq(s:Sofar B S n N W μ0 μ H0 H m w0 w)(hS:∀i,S i->i<n){ops:Array Oper}{Qz:List Rec}{len:Nat}{T T2:Tm}(Sw:Yn Qz T H m T2 H2 m2)(hs:∀r∈Qz,dm len r)(hk:∀r∈Qz,Sl P B ops r)(i:Nat)
 (ho:∀(j:Nat) r,Qz[j]? =some r->ops[i+j]? =some r.o) (hl:T.len=len) (hN:m2<=N) (hR:∀i∈Y9 Qz,i<n->S i) {fr:Frame} {A:Array Value} (hm:fr.mode=.run) (hT:TR μ T A) (rest:List Nat) (k:List Item) (cs:List Frame):
 ∃A' w' μ',Sofar B S n N (W++Uc Qz) μ0 μ' H0 H2 m2 w0 w'/\TR μ' T2 A'/\Ext μ μ'/\Steps P (lone (Xu fr A ops (LK i Qz.length++rest) k) cs w) (lone (Xu fr A' ops rest k) cs w'):=by
 have l1:=s.post.le;have l2:=(Wb Qz _ _ _ _ _ _ Sw hs).le;have hf:P4 μ m m2:=fun q a b=>s.free q a (by omega)
 obtain⟨μ',A',w',hp,h1,h2⟩:=cv (fr:=fr) (cs:=cs) (k:=k) hm Qz i T H m T2 H2 m2 rest Sw hs hk ho hl _ μ w A s.post.ok s.has (fun i hi=>hi.elim (fun e=>by have:=hS i e;omega) (fun e=>e.2)) hf
  (fun q hq Xp=>by
   rcases LJ q n with h1|h1
   ·exact .inl (hR q hq h1)
   ·exact .inr ⟨h1,Xp⟩) hT
 exact⟨A',w',μ',⟨s.post.trans hp,s.has.post s.post.ok hp,fun q a b=>by rw[hp.ext q (by omega)];exact s.free q (by omega) b⟩,h1,hp.mu hf,h2⟩
theorem jx(hF:∀g,F g=true->Q1 P g=true)(Zl:P.follows .mixedOrders=true)(ZY:Wz P B Xr){fu:Nat}{ops:Array Oper}{c:CF}{H:Qq}{n:Nat}{s:SpR}(hu:Under H n)(h:v3 P F Xr fu ops c H n=some s):
 ∃pre,ops.toList=pre++s.o::s.post/\(∀r∈s.Qz,dm c.tmps.len r)/\(∀r∈s.Qz,Sl P B ops r)/\Yn s.Qz c.tmps H n s.T s.H s.n/\s.Qz.map (·.o)=pre/\Under s.H s.n/\Rp s.T s.o.dst=true/\Region.wanted s.o (XS ops s.T)=true:=by
 unfold v3 at h;have he:=m7 ops.toList;split at h
 ·rename_i pre o post hsp;rw[hsp]at he;split at h
  ·rename_i Qz T H' n' hr;cases hd:(Rp T o.dst && Region.wanted o (XS ops T))with
   |false=>rw[hd]at h;cases h
   |true=>
    rw[<-ZN h];simp only[YB]at hd;obtain⟨h1,h2,h3,h4,h5⟩:=K7 hF (ek hF Zl ZY fu) ZY (len:=c.tmps.len) pre c.tmps H n Qz _ rfl hu hr;exact⟨pre,he.symm,h1,h2,h3,h4,h5,hd.1,hd.2⟩
  ·cases h
 ·cases h
theorem je:∀(l:List Rec) (T:Tm) (H:Qq) (n:Nat) (T':Tm) (H':Qq) (n':Nat),Yn l T H n T' H' n'->T'.len=T.len
 |[],T,H,n,T',H',n',h=>by
  obtain⟨rfl,_,_⟩:=h;rfl
 |r::l,T,H,n,T',H',n',h=>by
  obtain⟨_,_,_,h4⟩:=h;rw[je l _ _ _ _ _ _ h4,UZ]
theorem vH{B:Lo}{S:Nat->Prop}{μ:Mu}{H:Qq}{n:Nat}{w:World}{T:Tm}{A:Array Value}{f:FuncId}{v:Value}{R:List Nat}(hu:Under H n)(QE:Ok B S μ (Qt H) w)(ht:TR μ T A)(hv:vI P f H T=some (v,R))(hR:∀i∈R,i<n->S i):
 ∃fn v',P.funcs[f]? =some fn/\(results fn A).run P w=.ok v' w/\VR μ v v':=by
 unfold vI at hv;rw[bR,Lr]at hv;split at hv
 ·rename_i fn hfn;split at hv
  ·rename_i vs R1 hvs;simp only[YO,YR]at hv;obtain⟨rfl,rfl⟩:=hv;obtain⟨vs',h1,h2⟩:=RB hu QE ht _ _ _ hvs hR;refine⟨fn,_,hfn, ?_,sb h2⟩;rw[fJ,Array.mapM_eq_mapM_toList];simp only[Sem.run_bind,Sem.run_map,h1,Result.andThen_ok,Sem.run_pure]
  ·cases hv
 ·cases hv
theorem range_split{a b:Nat}{m:Nat}(h:m=a+(b+1)):LK 0 m=LK 0 a++a::LK (a+1) b:=by
 subst h;have:=List.range'_append_1 (s:=0) (m:=a) (n:=b+1);rw[<-this,LB,List.range'_succ]
def Ej(μ:Mu)(pv:Value)(cal:Frame):Prop:=(pv=.nilIface/\cal.mode=.returning)\/∃v',VR μ pv v'/\cal.mode=.panicking [{v:=v',recovered:=false}]
theorem sL(hF:∀g,F g=true->Q1 P g=true)(Zl:P.follows .mixedOrders=true)(ZY:Wz P B Xr){fu b:Nat}{g:FuncId}{args:Array Value}{pv:Value}{R0 W0:List Nat}{m3:MS}(hu:Under H m)(h:mD P F Xr fu b g args pv H m R0 W0=some m3):
 ∃Rr Wr,Shape H m m3.H m3.n Rr Wr/\(∀i,i<b->(i∈m3.R<->i∈R0\/i∈Rr))/\(∀i,i<b->(i∈m3.W<->i∈W0\/i∈Wr))/\
  ∀(S:Nat->Prop) (n N:Nat) (W:List Nat) (μ0 μ:Mu) (H0:Qq) (w0 w:World),Sofar B S n N W μ0 μ H0 H m w0 w->(∀i,S i->i<n)->m3.n<=N->(∀i∈Rr,i<n->S i)->∀(args':Array Value) (cal:Frame) (cs:List Frame),VRs μ args args'->Ej μ pv cal->
   ∃w' μ',Sofar B S n N (W++Wr) μ0 μ' H0 m3.H m3.n w0 w'/\Ext μ μ'/\Steps P (lone (Frame.enter P g args' .deferred) (cal::cs) w) (lone {cal with mode:=.returning} cs w'):=by
 unfold mD at h;split at h
 ·rename_i cd hcd;split at h
  ·rename_i m1 hm1;obtain⟨R1,W1,g1,a1,b1⟩:=Rl hF Zl ZY 10000 ⟨cd,H,m,R0,W0⟩ m1 hu hm1;have hu1:Under m1.H m1.n:=hu.shape g1.shape;split at h
   ·rename_i id ops todo hmode1 htodo1;split at h
    ·rename_i s hs;obtain⟨pre,e1,e2,e3,e4,e5,e6,e7,e8⟩:=jx hF Zl ZY hu1 hs;split at h
     ·rename_i c Zi;split at h
      ·rename_i hcal;cases hca:c.args.isEmpty with
       |false=>rw[hca]at h;cases h
       |true=>
        rw[hca]at h;simp only[cond_true]at h;split at h
        ·rename_i recs2 T2 H2 n2 hr2;obtain⟨f1,f2,f3,f4,f5⟩:=K7 hF (ek hF Zl ZY fu) ZY (len:=m1.c.tmps.len) s.post (VG s.T s.o.dst pv) s.H s.n recs2 _ (by rw[UZ];exact je _ _ _ _ _ _ _ e4) e6 hr2;split at h
         ·rename_i m2 hm2;obtain⟨R7,W7,g7,a7,b7⟩:=Rl hF Zl ZY 10000 _ m2 f5 hm2;simp only at g7 a7 b7;have hu2:Under m2.H m2.n:=f5.shape g7.shape;split at h
          ·rename_i hmode2 hds2 hres;rename_i vres R3;simp only[YO]at h;subst h;have sh4:=Wb s.Qz _ _ _ _ _ _ e4 e2;have sh5:=Wb recs2 _ _ _ _ _ _ f3 f1;have shAll:=((g1.shape.trans sh4).trans sh5).trans g7.shape;have hca':c.args=#[]:=by simpa[Array.isEmpty]using hca
           refine⟨(((R1++Y9 s.Qz)++Y9 recs2)++R7)++R3,((W1++Uc s.Qz)++Uc recs2)++W7,⟨shAll.le,shAll.keep,shAll.top,fun i hi=>Lm _ (shAll.sub i hi),shAll.wlt⟩,fun i hi=> ?_,fun i hi=> ?_, ?_⟩
           ·simp only[List.mem_append];rw[Z9 hi,a7 i hi,Z9 hi,Z9 hi,a1 i hi];simp only[or_assoc]
           ·simp only[List.mem_append];rw[b7 i hi,Z9 hi,Z9 hi,b1 i hi];simp only[or_assoc]
           ·intro S n N W μ0 μ H0 w0 w hs0 hS hN hR args' cal cs hv hun;simp only at hN;have l1:=g1.shape.le;have l2:=sh4.le;have l3:=sh5.le;have l4:=g7.shape.le;simp only[List.mem_append]at hR;have hfr0:FrR ⟨[],.deferred⟩ μ cd (Frame.enter P g args' .deferred):=qi .deferred hcd hv;obtain⟨S1,w1,μ1,s1,Rz,hro1,_,st1,x1⟩:=hs0.goj hS g1 (by omega) (fun i hi=>hR i (.inl (.inl (.inl (.inl hi))))) hfr0 (cal::cs);have hro1:S1.roundOf=none:=hro1;obtain⟨ha,hb,hd⟩:=Rz.running hmode1;rw[htodo1]at hd;obtain⟨L',hL,hL'⟩:=hd.code;have hlen:ops.size=pre.length+(s.post.length+1):=by
             have:=congrArg Lc e1;simp at this;omega
            have hat:ops[pre.length]? =some s.o:=by
             rw[<-Lr,e1,Ll (LH _)];simp
            have hplen:s.Qz.length=pre.length:=by have:=congrArg Lc e5;simpa using this
            have hown1:∀(j:Nat) r,s.Qz[j]? =some r->ops[0+j]? =some r.o:=by
             intro j r hj;rw[LB];exact KC (l:=ops.toList) (l2:=s.o::s.post) (by rw[e5];exact e1.symm) rfl j r hj
            obtain⟨A1,w2,μ2,s2,hT2,x2,st2⟩:=s1.seq hS e4 e2 e3 0 hown1 rfl (by omega) (fun i hi=>hR i (.inl (.inl (.inl (.inr hi))))) ha hb (pre.length::LK (pre.length+1) s.post.length) L' (cal::cs);have YF:step P (lone S1 (cal::cs) w1)=.next (lone (Xu S1 S1.tmps ops (LK 0 ops.size) L') (cal::cs) w1):=Ww ha hL;rw[range_split hlen]at YF;rw[hplen]at st2;have Yh:Region.wanted s.o (yielded ops A1)=true:=by rw[YH hT2];exact e8
            have hk1:S1.kind=.deferred:=Rz.kind
            -- the operation itself
            have Vv:∃v' cal1,VR μ2 pv v'/\(cal1.mode=.returning\/∃v,cal1.mode=.panicking [{v,recovered:=true}])/\{cal1 with mode:=.returning}={cal with mode:=FrameMode.returning}/\
             step P (lone (Xu S1 A1 ops (pre.length::LK (pre.length+1) s.post.length) L') (cal::cs) w2)=.next (lone ((Xu S1 A1 ops (pre.length::LK (pre.length+1) s.post.length) L').finish v') (cal1::cs) w2):=by
             rcases hun with ⟨rfl,hret⟩|⟨v',VX,hpan⟩
             ·exact⟨.nilIface,cal,.nilIface,.inl hret,rfl,iv ha hro1 hat Yh Zi hcal hca' hk1 hret⟩
             ·exact⟨v',{cal with mode:=.panicking [{v:=v',recovered:=true}]},(VX.mono x1).mono x2,.inr ⟨v',rfl⟩,rfl,sD ha hk1 hro1 hat Yh Zi hcal hca' hpan⟩
            obtain⟨v',cal1,VX,hcal1,hcalr,st3⟩:=Vv;rw[Sc hat]at st3;have hdst:=Ro e7;have hT3:TR μ2 (VG s.T s.o.dst pv) (putA A1 v' s.o.dst):=hT2.putA hdst VX;have hown2:∀(j:Nat) r,recs2[j]? =some r->ops[pre.length+1+j]? =some r.o:=by
             intro j r hj;have e:(recs2.map (·.o))[j]? =some r.o:=by rw[LC,hj];rfl
             rw[f4]at e;rw[<-Lr,e1,Ll (by omega),show pre.length+1+j-pre.length=j+1 by omega];simpa using e
            have hplen2:recs2.length=s.post.length:=by have:=congrArg Lc f4;simpa using this
            obtain⟨A2,w3,μ3,s3,hT4,x3,st4⟩:=s2.seq hS f3 f1 f2 (pre.length+1) hown2 (by rw[UZ];exact je _ _ _ _ _ _ _ e4) (by omega) (fun i hi=>hR i (.inl (.inl (.inr hi)))) ha hT3 [] L' (cal1::cs);rw[List.append_nil,hplen2]at st4;have st5:Steps P (lone (Xu S1 A2 ops [] L') (cal1::cs) w3) (lone {S1 with tmps:=A2,todo:=L'} (cal1::cs) w3):=.one (Uf ha);have hfr2:FrR ⟨[],.deferred⟩ μ3 {m1.c with tmps:=T2,todo:=todo} {S1 with tmps:=A2,todo:=L'}:=
             ⟨Rz.fn,hT4,fun _=>(hL'.mono x2).mono x3,(Rz.defers.mono x2).mono x3,(Rz.mode.mono x2).mono x3,Rz.kind,(Rz.round.mono x2).mono x3⟩
            obtain⟨fr3,w4,μ4,s4,hfr3,hro3,_,st6,x4⟩:=s3.goj hS g7 (by omega) (fun i hi=>hR i (.inl (.inr hi))) hfr2 (cal1::cs);have hmode3:fr3.mode=.returning:=by
             have:=hfr3.mode;rw[hmode2]at this;generalize fr3.mode=q at this;cases this;rfl
            have hd3:fr3.defers=[]:=by
             have:=hfr3.defers;rw[hds2]at this;exact this.empty
            obtain⟨fn,vr,hfn,hresr,_⟩:=vH hu2 s4.post.ok hfr3.tmps hres (fun i hi Xp=>by
             rcases LJ i n with h1|h1
             ·exact .inl (hR i (.inr hi) h1)
             ·exact .inr ⟨h1,Xp⟩)
            have st7:=fy (cs:=cs) hmode3 hd3 hfr3.kind (by rw[hfr3.fn];exact hfn) hresr hcal1;rw[hcalr]at st7;refine⟨w4,μ4,by simpa[LY]using s4,((x1.trans x2).trans x3).trans x4, ?_⟩;exact st1.trans (.head YF (st2.trans (.head st3 (st4.trans (st5.trans (st6.trans (.one st7)))))))
          ·cases h
         ·cases h
        ·cases h
      ·cases h
     ·cases h
    ·cases h
   ·cases h
  ·cases h
 ·cases h
theorem hO{fu b:Nat}:∀(k:Nat) (m m':MS),o4 P F Xr fu b k m=some m'->(∀i∈m.W,i<b)->∀i∈m'.W,i<b
 |0,m,m',h,hw=>by simp[o4]at h
 |k+1,m,m',h,hw=>by
  simp only[o4]at h;cases hq:(match m.c.mode with| .run=>Qa4 m.c|_=>m.c.defers.isEmpty)with
  |true=>
   rw[hq]at h;simp only[cond_true,YO]at h;subst h;exact hw
  |false=>
   rw[hq]at h;simp only[cond_false]at h;split at h
   ·exact hO k _ m' h (Sk hw)
   ·cases h
theorem Ew{fu b:Nat}{g:FuncId}{args:Array Value}{pv:Value}{H:Qq}{m:Nat}{R0 W0:List Nat}{m3:MS}(h:mD P F Xr fu b g args pv H m R0 W0=some m3)(hw:∀i∈W0,i<b):∀i∈m3.W,i<b:=by
 unfold mD at h;split at h
 ·split at h
  ·rename_i m1 hm1;have w1:=hO 10000 _ m1 hm1 hw;split at h
   ·split at h
    ·split at h
     ·split at h
      ·have h:=Jj h;split at h
       ·split at h
        ·rename_i m2 hm2;have w2:=hO 10000 _ m2 hm2 (Sk (Sk w1));split at h
         ·simp only[YO]at h;subst h;exact w2
         ·cases h
        ·cases h
       ·cases h
      ·cases h
     ·cases h
    ·cases h
   ·cases h
  ·cases h
 ·cases h
theorem Ak(hF:∀g,F g=true->Q1 P g=true)(Zl:P.follows .mixedOrders=true)(ZY:Wz P B Xr){fu:Nat}{f:FuncId}{args:Array Value}{H:Qq}{n:Nat}{s0:Rs}(hu:Under H n)(h:MD P F Xr fu f args H n=some s0):
 Shape H n s0.H s0.n s0.R s0.W/\∀(S:Nat->Prop) (μ:Mu) (w:World) (args':Array Value) (cs:List Frame),Ok B S μ (Qt H) w->B.has w->(∀i,S i->i<n)->P4 μ n s0.n->VRs μ args args'->(∀i∈s0.R,i<n->S i)->
  ∃Zh w' μ',Post B S n s0.n s0.W μ μ' H s0.H w w'/\OR2 μ' s0.out Zh/\EndsAs P (Frame.enter P f args' .normal) cs w Zh w':=by
 unfold MD at h;split at h
 ·rename_i c0 hc0;split at h
  ·rename_i m1 hm1;obtain⟨R1,W1,g1,a1,b1⟩:=Rl hF Zl ZY 10000 ⟨c0,H,n,[],[]⟩ m1 hu hm1;have hu1:Under m1.H m1.n:=hu.shape g1.shape;split at h
   ·rename_i id ops todo hmode1 htodo1 hds1;split at h
    ·rename_i s hs;obtain⟨pre,e1,e2,e3,e4,e5,e6,e7,e8⟩:=jx hF Zl ZY hu1 hs;split at h
     ·rename_i c Zi Zw;split at h
      ·rename_i x hcal;split at h
       ·rename_i g xs ys hx;cases hca:(c.args.isEmpty && F g)with
        |false=>rw[hca]at h;cases h
        |true=>
         rw[hca]at h;simp only[cond_true]at h;simp only[YB]at hca;split at h
         ·rename_i m2 hm2;obtain⟨R3,W3,g3,a3,b3⟩:=Rl hF Zl ZY 100000 _ m2 e6 hm2;simp only at g3 a3 b3;have hu2:Under m2.H m2.n:=e6.shape g3.shape;split at h
          ·rename_i pv hpv hds2;split at h
           ·rename_i m3 hm3;obtain⟨Rr,Wr,sh3,ar,br,hsem⟩:=sL (B:=B) hF Zl ZY hu2 hm3;have hu3:Under m3.H m3.n:=hu2.shape sh3;split at h
            ·rename_i v R4 hres;simp only[YO]at h;subst h;have sh2:=Wb s.Qz _ _ _ _ _ _ e4 e2;have shAll:=((g1.shape.trans sh2).trans g3.shape).trans sh3;have hRiff:∀i,i<n->(i∈ZT n R4 m3.R<->i∈((R1++Y9 s.Qz)++R3)++Rr\/i∈R4):=fun i hi=>by
              rw[Z9 hi,ar i hi,a3 i hi,Z9 hi,a1 i hi];simp only[List.mem_append,List.not_mem_nil,false_or]
             have hWiff:∀i,i<n->(i∈m3.W<->i∈((W1++Uc s.Qz)++W3)++Wr):=fun i hi=>by
              rw[br i hi,b3 i hi,Z9 hi,b1 i hi];simp only[List.mem_append,List.not_mem_nil,false_or]
             have hWlt:∀i∈m3.W,i<n:=Ew hm3 (hO 100000 _ m2 hm2 (Sk (hO 10000 _ m1 hm1 (fun i hi=>by simp at hi))));refine⟨⟨shAll.le,fun i hi hw=>shAll.keep i hi fun e=>hw ((hWiff i hi).2 e),shAll.top,fun i hi=>(hRiff i (hWlt i hi)).2 (.inl (shAll.sub i ((hWiff i (hWlt i hi)).1 hi))),fun i hi=>by have:=hWlt i hi;have:=shAll.le;simp only at *;omega⟩,fun S μ w args' cs QE hB hS hf hv hR=> ?_⟩;simp only at hf hR ⊢;have hR':∀i,i<n->i∈((R1++Y9 s.Qz)++R3)++Rr\/i∈R4->S i:=fun i hi h=>hR i ((hRiff i hi).2 h) hi
             have l1:=g1.shape.le;have l2:=sh2.le;have l3:=g3.shape.le;have l4:=sh3.le;have sf0:Sofar B S n m3.n [] μ μ H H n w w:=⟨Post.refl QE,hB,hf⟩
             have hfr0:FrR Bot.no μ c0 (Frame.enter P f args' .normal):=UL hc0 hv;obtain⟨S1,w1,μ1,s1,Rz,hro1,hfn1,st1,x1⟩:=sf0.goj hS g1 (by omega) (fun i hi Xp=>hR' i Xp (.inl (Lm _ (Lm _ (Lm _ hi))))) hfr0 cs;have hro1:S1.roundOf=none:=hro1;obtain⟨ha,hb,hd⟩:=Rz.running hmode1;rw[htodo1]at hd;obtain⟨L',hL,hL'⟩:=hd.code;have hd1:S1.defers=[]:=by
              have:=Rz.defers;rw[hds1]at this;exact this.empty
             rw[Zw]at e1;have hlen:ops.size=pre.length+(0+1):=by
              have:=congrArg Lc e1;simp at this;omega
             have hat:ops[pre.length]? =some s.o:=by
              rw[<-Lr,e1,Ll (LH _)];simp
             have hplen:s.Qz.length=pre.length:=by have:=congrArg Lc e5;simpa using this
             have hown1:∀(j:Nat) r,s.Qz[j]? =some r->ops[0+j]? =some r.o:=by
              intro j r hj;rw[LB];exact KC (l:=ops.toList) (l2:=[s.o]) (by rw[e5];exact e1.symm) rfl j r hj
             obtain⟨A1,w2,μ2,s2,hT2,x2,st2⟩:=s1.seq hS e4 e2 e3 0 hown1 rfl (by omega) (fun i hi Xp=>hR' i Xp (.inl (Lm _ (Lm _ (Lx _ hi))))) ha hb (pre.length::LK (pre.length+1) 0) L' cs;have YF:step P (lone S1 cs w1)=.next (lone (Xu S1 S1.tmps ops (LK 0 ops.size) L') cs w1):=Ww ha hL;rw[range_split hlen]at YF;rw[hplen]at st2;have Yh:Region.wanted s.o (yielded ops A1)=true:=by rw[YH hT2];exact e8
             have hvx:=so (fr:=Xu S1 A1 ops (pre.length::LK (pre.length+1) 0) L') hT2 x _ hx;have hca':c.args=#[]:=by simpa[Array.isEmpty]using hca.1
             generalize hgx:(Xu S1 A1 ops (pre.length::LK (pre.length+1) 0) L').eval x=ux at hvx;cases hvx with
             |func q1 q2 q3 q4=>
              rename_i xs' ys';have hdv:(Deferred.ofValue ((Xu S1 A1 ops (pre.length::LK (pre.length+1) 0) L').eval x) (c.args.map (Xu S1 A1 ops (pre.length::LK (pre.length+1) 0) L').eval)).run P w2=.ok {target:=.fn (.func g) ys',args:=xs'} w2:=by
               rw[hgx,hca'];simp[Deferred.ofValue]
              have st3:=step_defer (cs:=cs) (w:=w2) ha hro1 hat Yh Zi hcal hdv;rw[Sc hat]at st3;have hdst:=Ro e7;have hT3:TR μ2 (VG s.T s.o.dst undef) (putA A1 undef s.o.dst):=hT2.putA hdst VR.undef
              -- the frame behind the region
              have st4:step P (lone {Xu S1 (putA A1 undef s.o.dst) ops (LK (pre.length+1) 0) L' with defers:={target:=.fn (.func g) ys',args:=xs'}::S1.defers} cs w2)=
               .next (lone {S1 with tmps:=putA A1 undef s.o.dst,todo:=L',defers:={target:=.fn (.func g) ys',args:=xs'}::S1.defers} cs w2):=
               Uf (fr:={S1 with defers:={target:=.fn (.func g) ys',args:=xs'}::S1.defers}) (A:=putA A1 undef s.o.dst) (ops:=ops) (k:=L') ha
              have hfr2:FrR ⟨[{target:=.fn (.func g) ys',args:=xs'}],.normal⟩ μ2 {m1.c with tmps:=VG s.T s.o.dst undef,todo:=todo} {S1 with tmps:=putA A1 undef s.o.dst,todo:=L',defers:={target:=.fn (.func g) ys',args:=xs'}::S1.defers}:=
               ⟨Rz.fn,hT3,fun _=>hL'.mono x2,by rw[show({m1.c with tmps:=VG s.T s.o.dst undef,todo:=todo}:CF).defers=[]from hds1];exact .of_empty (by simp[hd1]),Rz.mode.mono x2,Rz.kind,Rz.round.mono x2⟩
              obtain⟨fr3,w3,μ3,s3,hfr3,hro3,hfn3,st5,x3⟩:=s2.goj hS g3 (by omega) (fun i hi Xp=>hR' i Xp (.inl (Lm _ (Lx _ hi)))) hfr2 cs;have hd3:fr3.defers=[{target:=.fn (.func g) ys',args:=xs'}]:=by
               have:=hfr3.defers;rw[hds2]at this;exact this.empty
              have hun:Ej μ3 pv {fr3 with defers:=[]}/\fr3.mode≠.run:=by
               have hm:=hfr3.mode;generalize fr3.mode=q at hm ⊢;cases hcm:m2.c.mode with
               |run=>rw[hcm]at hpv;cases hpv
               |ret=>
                rw[hcm]at hpv hm;cases hm;simp only[IF,YO]at hpv;exact⟨.inl ⟨hpv.symm,rfl⟩,fun e=>by cases e⟩
               |Wn v0=>
                rw[hcm]at hpv hm;cases hm with
                |Wn VX=>
                 simp only[IF,YO]at hpv;subst hpv;exact⟨.inr ⟨_,VX,rfl⟩,fun e=>by cases e⟩
              have st6:step P (lone fr3 cs w3)=.next (lone (Frame.enter P g (xs'++ys') .deferred) ({fr3 with defers:=[]}::cs) w3):=
               ei hun.2 hd3 rfl (ij (hF g hca.2) _ w3)
              have hvargs:VRs μ3 (xs++ys) (xs'++ys'):=by
               have k1:VRs μ3 xs xs':=(VRs.mono x3 ⟨q1,q3⟩)
               have k2:VRs μ3 ys ys':=(VRs.mono x3 ⟨q2,q4⟩)
               exact k1.append k2
              obtain⟨w4,μ4,s4,x4,st7⟩:=hsem S n m3.n _ μ μ3 H w w3 s3 hS (LH _) (fun i hi Xp=>hR' i Xp (.inl (Lx _ hi))) _ {fr3 with defers:=[]} cs hvargs hun.1
              obtain⟨fn,v',hfn,hresr,VX⟩:=vH hu3 s4.post.ok (hfr3.tmps.mono x4) hres (fun i hi Xp=>by
               rcases LJ i n with h1|h1
               ·exact .inl (hR' i h1 (.inr hi))
               ·exact .inr ⟨h1,Xp⟩)
              have hfnE:fr3.fn=f:=by
               have:(Frame.enter P f args' .normal).fn=f:=rfl;rw[hfn3];show S1.fn=f;rw[hfn1,this]
              have hleave:({fr3 with defers:=[],mode:=.returning}:Frame).leaving P w4 (.returned v'):=⟨rfl,rfl,hfr3.kind,fn,by rw[<-hfn,hfr3.fn],hresr⟩
              have ZB:Steps P (lone (Frame.enter P f args' .normal) cs w) (lone {fr3 with defers:=[],mode:=.returning} cs w4):=
               st1.trans (.head YF (st2.trans (.head st3 (.head st4 (st5.trans (.head st6 st7))))))
              refine⟨.ret v',w4,μ4,s4.post.lists (fun i hi=>by rw[hWiff i hi];simp[LY]),.ret VX,fun _=>⟨_,ZB,hfnE,hleave⟩,fun c1 cs' e=> ?_⟩;subst e;exact ZB.trans (.one (step_leave_returned hleave))
            ·cases h
           ·cases h
          ·cases h
         ·cases h
       ·cases h
      ·cases h
     ·cases h
    ·cases h
   ·cases h
  ·cases h
 ·cases h
end
def Memo.drun(P:Program)(F:FuncId->Bool)(Xr:WZ)(fuel:Nat)(m:Memo):Option Rs:=MD P F Xr fuel m.g m.args m.H0 m.n
theorem QS{P:Program}{F:FuncId->Bool}{Xr:WZ}{B:Lo}(hF:∀g,F g=true->Q1 P g=true)(Zl:P.follows .mixedOrders=true)(ZY:Wz P B Xr){fuel:Nat}{m:Memo}{l:List Memo}(hm:QM m (m.drun P F Xr fuel)=true)(hl:Wz P B (XX l)):Wz P B (XX (m::l)):=by
 intro g args H n s hu h;simp only[XX]at h;cases hq:(Lf m.n n && Lf m.g g && M5 (Gk 1) args.toList m.args.toList && hasAll H m.H0)with
 |false=>
  rw[hq]at h;exact hl g args H n s hu h
 |true=>
  rw[hq]at h;simp only[cond_true,YO]at h;simp only[YB]at hq;obtain⟨⟨⟨q1,q2⟩,q3⟩,q4⟩:=hq;obtain rfl:=YE q1;obtain rfl:=YE q2;obtain rfl:=Array.ext' (Yk (UT 1) _ _ q3);have hH:=Pz q4;subst h;obtain⟨Hs,R,VU,hnews,hw,hw0,hR0⟩:=ki hm;have hu0:Under m.H0 m.n:=fun i hi=>WX hw0 (.inr hi)
  have hsem:=Ak (B:=B) hF Zl ZY hu0 VU;have hle:m.n<=m.n':=hsem.1.le;have a8:∀i,i<m.n\/m.n'<=i->Qt (m.news++H) i=Qt H i:=fun i hi=>by
   rw[ZI,WX hw hi]
  have Jb:∀i o,m.n<=i->Qt (m.news++H) i=some o->Qt Hs i=some o:=by
   intro i o h1 h2;rw[ZI]at h2;cases hg:Qt m.news i with
   |some x=>
    rw[hg]at h2;rw[hnews i x hg];exact h2
   |none=>
    rw[hg,hu i h1]at h2;cases h2
  refine⟨⟨hle,fun i hi _=>a8 i (.inl hi),fun i hi=>a8 i (.inr hi),fun _ h=>by simp at h,fun _ h=>by simp at h⟩,fun S μ w args' cs QE hB hS hf hv hR=> ?_⟩;simp only at hf hR ⊢;have hok0:Ok B (fun i=>S i/\∃o,Qt m.H0 i=some o) μ (Qt m.H0) w:=by
   refine⟨fun i o hi ho hl=>QE.rel i o hi.1 (hH i o ho) hl,fun i o im hi ho hl=>QE.low i o im hi.1 (hH i o ho) hl,fun i j oi oj a b hi hj ay Wl Wk=>QE.inj i j oi oj a b hi.1 hj.1 ay (hH i oi Wl) (hH j oj Wk),
    fun i o hi ho=>QE.Pj i o hi.1 (hH i o ho),fun i j oi oj a b x hi hj Wl Wk=>QE.sep i j oi oj a b x hi.1 hj.1 (hH i oi Wl) (hH j oj Wk)⟩
  obtain⟨Zh,w',μ',hp,ho,he⟩:=hsem.2 _ μ w args' cs hok0 hB (fun i hi=>hS i hi.1) hf hv (fun i hi hl=>by
   obtain⟨o,ho⟩:=hR0 i hi hl;exact⟨hR i (hY ho) hl,o,ho⟩)
  simp only at hp ho;have hold:∀i im,S i->μ i=some im->μ' i=some im:=fun i im hi h=>by
   have:=hS i hi;rw[hp.ext i (by omega)];exact h
  have hext:Ext μ μ':=hp.mu hf;have XJ:∀i im o,m.n<=i->i<m.n'->Qt (m.news++H) i=some o->live o->μ' i=some im->im.rw=true/\w.heap.size<=im.Zu:=by
   intro i im o h1 h2 h3 h4 h5;obtain⟨x,y⟩:=hp.fresh i im o h1 h2 (Jb i o h1 h3) h4 h5;exact⟨x,y.elim id fun⟨k,hk,_⟩=>by simp at hk⟩
  have hOld:∀i o,S i->Qt (m.news++H) i=some o->live o->∃im,μ i=some im/\μ' i=some im/\Qt H i=some o/\im.Zu<w.heap.size:=by
   intro i o hi ho hl;have:=hS i hi;rw[a8 i (.inl this)]at ho;obtain⟨im,QJ,_⟩:=QE.rel i o hi ho hl;exact⟨im,QJ,hold i im hi QJ,ho,(QE.low i o im hi ho hl QJ).1⟩
  refine⟨Zh,w',μ',⟨⟨fun i o hi ho hl=> ?_,fun i o im hi ho hl QJ=> ?_,fun i j oi oj a b hi hj ay Wl Wk S0 Ud ha hb hra Yr=> ?_,fun i o hi ho hr=> ?_,fun i j oi oj a b x hi hj Wl Wk Pe Ud ha hb Yr hx=> ?_⟩,hle,hp.ext,fun i hi _=>a8 i (.inl hi),hp.grow,fun b hb _=>hp.frame b hb fun i hi=>by simp at hi,fun i hi=>by simp at hi,
   fun i im o h1 h2 h3 h4 h5=>⟨(XJ i im o h1 h2 h3 h4 h5).1,.inl (XJ i im o h1 h2 h3 h4 h5).2⟩,fun i im o hi ho hr hm b x hx=> ?_,hp.os,hp.tape,hp.output⟩,ho,he⟩
  ·rcases hi with hi|hi
   ·obtain⟨im,QJ,QN,Kt,Xp⟩:=hOld i o hi ho hl;obtain⟨im2,WV,hr2⟩:=QE.rel i o hi Kt hl;rw[QJ]at WV;cases WV;exact⟨im,QN,hr2.keep hext (hp.frame _ Xp fun i hi=>by simp at hi)⟩
   ·exact hp.ok.rel i o (.inr hi) (Jb i o hi.1 ho) hl
  ·rcases hi with hi|hi
   ·obtain⟨im2,WV,QN,Kt,Xp⟩:=hOld i o hi ho hl;rw[QJ]at QN;cases QN;exact⟨Nat.lt_of_lt_of_le Xp hp.grow,(QE.low i o im hi Kt hl WV).2⟩
   ·exact hp.ok.low i o im (.inr hi) (Jb i o hi.1 ho) hl QJ
  ·rcases hi with hi|hi <;> rcases hj with hj|hj
   ·obtain⟨im,h1,h2,h3,_⟩:=hOld i oi hi Wl S0;obtain⟨jm,k1,k2,k3,_⟩:=hOld j oj hj Wk Ud;rw[ha]at h2;cases h2;rw[hb]at k2;cases k2;exact QE.inj i j oi oj a b hi hj ay h3 k3 S0 Ud h1 k1 hra Yr
   ·obtain⟨im,h1,h2,h3,h4⟩:=hOld i oi hi Wl S0;rw[ha]at h2;cases h2;have:=(XJ j b oj hj.1 hj.2 Wk Ud hb).2;omega
   ·obtain⟨im,h1,h2,h3,h4⟩:=hOld j oj hj Wk Ud;rw[hb]at h2;cases h2;have:=(XJ i a oi hi.1 hi.2 Wl S0 ha).2;omega
   ·exact hp.ok.inj i j oi oj a b (.inr hi) (.inr hj) ay (Jb i oi hi.1 Wl) (Jb j oj hj.1 Wk) S0 Ud ha hb hra Yr
  ·rcases hi with hi|hi
   ·have:=hS i hi;rw[a8 i (.inl this)]at ho;obtain⟨im,QJ,hf⟩:=QE.Pj i o hi ho hr;exact⟨im,hold i im hi QJ,fun b x hx=>by rw[hp.frame b (PU QE hi ho hr QJ hx) fun i hi=>by simp at hi];exact hf b x hx⟩
   ·exact hp.ok.Pj i o (.inr hi) (Jb i o hi.1 ho) hr
  ·have oldR:∀i oi a,S i->Qt (m.news++H) i=some oi->μ' i=some a->Wd oi->Qt H i=some oi/\μ i=some a:=by
    intro i oi a hi Wl ha hr;have:=hS i hi;rw[a8 i (.inl this)]at Wl;rw[hp.ext i (by omega)]at ha;exact⟨Wl,ha⟩
   rcases hi with hi|hi <;> rcases hj with hj|hj
   ·obtain⟨h1,h2⟩:=oldR i oi a hi Wl ha Pe;obtain⟨jm,k1,k2,k3,_⟩:=hOld j oj hj Wk Ud;rw[hb]at k2;cases k2;exact QE.sep i j oi oj a b x hi hj h1 k3 Pe Ud h2 k1 Yr hx
   ·obtain⟨h1,h2⟩:=oldR i oi a hi Wl ha Pe;have:=(XJ j b oj hj.1 hj.2 Wk Ud hb).2;have:=PU QE hi h1 Pe h2 hx;omega
   ·obtain⟨jm,k1,k2,k3,k4⟩:=hOld j oj hj Wk Ud;rw[hb]at k2;cases k2;rcases hp.rf i a oi (.inl hi) (Jb i oi hi.1 Wl) Pe ha b.Zu x hx with e|⟨k,US,ko,hSk,_,hko,hkr,hkm,hkb⟩|⟨k,hk,_⟩
    ·omega
    ·exact QE.sep k j ko oj US b x hSk.1 hj (hH k ko hko) k3 hkr Ud hkm k1 Yr hkb
    ·simp at hk
   ·exact hp.ok.sep i j oi oj a b x (.inr hi) (.inr hj) (Jb i oi hi.1 Wl) (Jb j oj hj.1 Wk) Pe Ud ha hb Yr hx
  ·have YF:m.n<=i/\i<m.n':=hi.elim id fun h=>by simp at h
   rcases hp.rf i im o (.inl YF) (Jb i o YF.1 ho) hr hm b x hx with e|⟨k,US,ko,hSk,hkn,hko,c⟩|⟨k,hk,_⟩
   ·exact .inl e
   ·exact .inr (.inl ⟨k,US,ko,hSk.1,hkn,hH k ko hko,c⟩)
   ·simp at hk
end
end Go.CE

namespace Go.CE
open Go Go.RowKit

section
variable {μ μ1:Mu} {ρ:Nat->Nat} {m:Nat}
end

def Xi(v:Value):Prop:=∀μ μ1 v',VR μ v v'->VR μ1 v v'
theorem Tp{v:Value}(h:af v=true):Xi v:=fun _ _ _ hv=>by rw[T0 h hv];exact PL h
theorem CH:Xi (.chan none):=fun _ _ _ h=>by
 cases h with
 |Y5 a b c=>exact .Y5 a b c
theorem FZ{xs:Array Value}(h:∀x∈xs,Xi x):Xi (.agg xs):=fun μ μ1 v' hv=>by
 cases hv with
 |agg h1 h2=>exact .agg h1 fun i v v' a b=>h v (LL a) μ μ1 v' (h2 i v v' a b)
theorem zV{xs:Array Value}(h:∀x∈xs,Xi x):Xi (.tuple xs):=fun μ μ1 v' hv=>by
 cases hv with
 |tuple h1 h2=>exact .tuple h1 fun i v v' a b=>h v (LL a) μ μ1 v' (h2 i v v' a b)
theorem CI{g:FuncId}{xs ys:Array Value}(h:∀x∈xs,Xi x)(k:∀x∈ys,Xi x):Xi (.func (.func g) xs ys):=fun μ μ1 v' hv=>by
 cases hv with
 |func h1 h2 h3 h4=>exact .func h1 h2 (fun i v v' a b=>h v (LL a) μ μ1 v' (h3 i v v' a b)) (fun i v v' a b=>k v (LL a) μ μ1 v' (h4 i v v' a b))
theorem zW{t:TypeId}{v:Value}(h:Xi v):Xi (.iface t v):=fun μ μ1 v' hv=>by
 cases hv with
 |iface hv=>exact .iface (h μ μ1 _ hv)
theorem uE{xs:Array Value}(h:∀x∈xs,∃d,Xi d/\∀μ v',VR μ x v'->VR μ d v'):∃ds:Array Value,ds.size=xs.size/\(∀d∈ds,Xi d)/\∀μ (xs':Array Value),(∀(i:Nat) v v',xs[i]? =some v->xs'[i]? =some v'->VR μ v v')->∀(i:Nat) v v',ds[i]? =some v->xs'[i]? =some v'->VR μ v v':=by
 have h':∀i:Fin xs.size,∃d,Xi d/\∀μ v',VR μ xs[i] v'->VR μ d v':=fun i=>h xs[i] (Array.getElem_mem i.2)
 refine⟨Array.ofFn fun i=>Classical.choose (h' i),by simp,fun d hd=> ?_,fun μ xs' hx i v v' hv ZX=> ?_⟩
 ·obtain⟨i,hi⟩:=Array.mem_ofFn.1 hd;rw[<-hi];exact(Classical.choose_spec (h' i)).1
 ·rw[Array.getElem?_ofFn]at hv;split at hv
  ·rename_i hi;simp only[YO]at hv;subst hv;exact(Classical.choose_spec (h' ⟨i,hi⟩)).2 μ v' (hx i _ v' (by simp[hi]) ZX)
  ·cases hv
theorem Jf(v:Value):∃d,Xi d/\∀μ v',VR μ v v'->VR μ d v':=by
 have Y5:∀{v:Value},(∀μ v',VR μ v v'->(∀b,v'≠.bool b)/\v'.cells=#[v']/\v'.oneCell'=true)->∃d,Xi d/\∀μ v',VR μ v v'->VR μ d v':=
  fun h=>⟨.chan none,CH,fun μ v' hv=>.Y5 (h μ v' hv).1 (h μ v' hv).2.1 (h μ v' hv).2.2⟩
 match v with
 | .agg xs=>
   obtain⟨ds,e,hl,hd⟩:=uE (xs:=xs) fun x _=>Jf x
   refine⟨.agg ds,FZ hl,fun μ v' hv=> ?_⟩;cases hv with
   |agg h1 h2=>exact .agg (e.trans h1) (hd μ _ h2)
 | .tuple xs=>
   obtain⟨ds,e,hl,hd⟩:=uE (xs:=xs) fun x _=>Jf x
   refine⟨.tuple ds,zV hl,fun μ v' hv=> ?_⟩;cases hv with
   |tuple h1 h2=>exact .tuple (e.trans h1) (hd μ _ h2)
 | .func (.func g) xs ys=>
   obtain⟨ds,e,hl,hd⟩:=uE (xs:=xs) fun x _=>Jf x
   obtain⟨es,e',hl',hd'⟩:=uE (xs:=ys) fun x _=>Jf x
   refine⟨.func (.func g) ds es,CI hl hl',fun μ v' hv=> ?_⟩;cases hv with
   |func h1 h2 h3 h4=>exact .func (e.trans h1) (e'.trans h2) (hd μ _ h3) (hd' μ _ h4)
 | .iface t x=>
   obtain⟨d,hl,hd⟩:=Jf x;refine⟨.iface t d,zW hl,fun μ v' hv=> ?_⟩;cases hv with
   |iface hv=>exact .iface (hd μ _ hv)
 | .bool b=>exact⟨_,Tp rfl,fun _ _ h=>h⟩
 | .int k n=>exact⟨_,Tp rfl,fun _ _ h=>h⟩
 | .string s=>exact⟨_,Tp rfl,fun _ _ h=>h⟩
 | .nilFunc=>exact⟨_,Tp rfl,fun _ _ h=>h⟩
 | .nilIface=>exact⟨_,Tp rfl,fun _ _ h=>h⟩
 | .chan r=>exact Y5 fun μ v' h=>by cases h with
   |Y5 a b c=>exact⟨a,b,c⟩
   |noCap=>exact⟨(fun b e=>by cases e),rfl,rfl⟩
 | .pointer a=>exact Y5 fun μ v' h=>by cases h <;> exact⟨(fun b e=>by cases e),rfl,rfl⟩
 | .slice a n c=>exact Y5 fun μ v' h=>by cases h <;> exact⟨(fun b e=>by cases e),rfl,rfl⟩
 | .map r=>exact Y5 fun μ v' h=>by cases h <;> exact⟨(fun b e=>by cases e),rfl,rfl⟩
 | .func (.yield l) xs ys=>exact Y5 fun μ v' h=>by cases h <;> exact⟨(fun b e=>by cases e),rfl,rfl⟩
 | .func (.method s) xs ys=>exact Y5 fun μ v' h=>by cases h
 | .func (.methodOf t s) xs ys=>exact Y5 fun μ v' h=>by cases h
 | .func (.via t p f q) xs ys=>exact Y5 fun μ v' h=>by cases h with|top a b c=>exact⟨c.nobool a,c.one a⟩
 | .float k b=>exact Y5 fun μ v' h=>by cases h
 | .complex k a b=>exact Y5 fun μ v' h=>by cases h
termination_by SizeOf.sizeOf v
decreasing_by
 all_goals simp_wf
 all_goals first
  |(have:=Array.sizeOf_lt_of_mem ‹_∈_›;omega)
  |omega
end Go.CE
namespace Go.CE
open Go Go.RowKit
end Go.CE

namespace Go.CE
open Go Go.RowKit

structure GoE (P:Program) (B:Lo) (c0:CF) (H0:Qq) (n:Nat) (c':CF) (H':Qq) (n':Nat) (W:List Nat):Prop where
 under:Under H' n'
 le:n<=n'
 sem:∀(Z:Bot) (μ:Mu) (w:World) (fr:Frame) (cs:List Frame),Ok B (fun i=>i<n) μ (Qt H0) w->B.has w->(∀i,n<=i->μ i=none)->FrR Z μ c0 fr->
  ∃fr' w' μ',Post B (fun i=>i<n) n n' W μ μ' H0 H' w w'/\FrR Z μ' c' fr'/\fr'.roundOf=fr.roundOf/\fr'.fn=fr.fn/\Steps P (lone fr cs w) (lone fr' cs w')
section
variable {P:Program} {B:Lo} {c0 c1 c2:CF} {H0 H1 H2:Qq} {n n1 n2:Nat} {W W1 W2 R2:List Nat}
theorem GoE.refl(hu:Under H0 n):GoE P B c0 H0 n c0 H0 n []:=
 ⟨hu,LH _,fun _ μ w fr _ QE _ _ XJ=>⟨fr,w,μ,Post.refl QE,XJ,rfl,rfl,Steps.refl _ _⟩⟩
theorem GoE.lists(h:GoE P B c0 H0 n c1 H1 n1 W)(hW:∀i,i<n->(i∈W1<->i∈W)):GoE P B c0 H0 n c1 H1 n1 W1:=
 ⟨h.under,h.le,fun Z μ w fr cs QE hB hf XJ=>let⟨fr',w',μ',hp,a⟩:=h.sem Z μ w fr cs QE hB hf XJ;⟨fr',w',μ',hp.lists hW,a⟩⟩
theorem GoE.step(h:GoE P B c0 H0 n c1 H1 n1 W1)(k:GoJ P B c1 H1 n1 c2 H2 n2 R2 W2):GoE P B c0 H0 n c2 H2 n2 (W1++W2):=by
 refine⟨h.under.shape k.shape,Nat.le_trans h.le k.shape.le,fun Z μ w fr cs QE hB hf XJ=> ?_⟩;have le1:=h.le;obtain⟨S1,w1,μ1,hp,Rz,hr,hfn,ZB⟩:=h.sem Z μ w fr cs QE hB hf XJ;obtain⟨fr2,w2,μ2,Pb,hfr2,hr2,hfn2,hst2⟩:=k.sem _ μ1 w1 S1 cs Z hp.ok (hB.post QE hp) (fun i hi=>hi.elim (fun e=>by omega) (fun e=>e.2)) (fun q a b=>by rw[hp.ext q (by omega)];exact hf q (by omega)) Rz
  (fun q _ Xp=>by
   rcases LJ q n with h1|h1
   ·exact .inl h1
   ·exact .inr ⟨h1,Xp⟩)
 exact⟨fr2,w2,μ2,hp.trans Pb,hfr2,hr2.trans hr,hfn2.trans hfn,ZB.trans hst2⟩
theorem GoE.fj{out:OO}(h:GoE P B c0 H0 n c1 H1 n1 W1)(k:FJ P B c1 H1 n1 out H2 n2 R2 W2)(μ:Mu)(w:World)(fr:Frame)(cs:List Frame)(QE:Ok B (fun i=>i<n) μ (Qt H0) w)(hB:B.has w)(hf:∀i,n<=i->μ i=none)(XJ:FrR Bot.no μ c0 fr):
 ∃Zh w' μ',Post B (fun i=>i<n) n n2 (W1++W2) μ μ' H0 H2 w w'/\OR2 μ' out Zh/\EndsAs P fr cs w Zh w':=by
 have le1:=h.le;obtain⟨S1,w1,μ1,hp,Rz,hr,hfn,ZB⟩:=h.sem Bot.no μ w fr cs QE hB hf XJ;obtain⟨Zh,w2,μ2,Pb,ho,he⟩:=k.sem _ μ1 w1 S1 cs hp.ok (hB.post QE hp) (fun i hi=>hi.elim (fun e=>by omega) (fun e=>e.2)) (fun q a b=>by rw[hp.ext q (by omega)];exact hf q (by omega)) Rz
  (fun q _ Xp=>by
   rcases LJ q n with h1|h1
   ·exact .inl h1
   ·exact .inr ⟨h1,Xp⟩)
 exact⟨Zh,w2,μ2,hp.trans Pb,ho,he.of_steps ZB hr hfn⟩
end

def look:List (Nat×Value)->Nat->Value->Value
 |[],_,d=>d
 |(a,v)::l,t,d=>bif Lf a t then v else look l t d
theorem CK(l:List (Nat×Value))(t:Nat)(d:Value):look l t d=d\/∃v,(t,v)∈l/\look l t d=v:=by
 induction l with
 |nil=>exact .inl rfl
 |cons p l ih=>
  obtain⟨a,v⟩:=p;cases hb:Lf a t with
  |true=>
   have:=YE hb;subst this;exact .inr ⟨v,by simp,by simp[look]⟩
  |false=>
   simp only[look,hb,cond_false];exact ih.imp id fun⟨v,h1,h2⟩=>⟨v,Lw _ h1,h2⟩
def mkL(live:List (Nat×Value))(d:Nat->Value):Nat->Nat->List Value
 |0,_=>[]
 |k+1,t=>look live t (d t)::mkL live d k (t+1)
theorem eS(live:List (Nat×Value))(d:Nat->Value):∀(k t:Nat),(mkL live d k t).length=k
 |0,_=>rfl
 |k+1,t=>by simp[mkL,eS live d k]
theorem DP(live:List (Nat×Value))(d:Nat->Value):∀(k t i:Nat),i<k->(mkL live d k t).getD i undef=look live (t+i) (d (t+i))
 |0,_,i,h=>by omega
 |k+1,t,0,_=>rfl
 |k+1,t,i+1,h=>by
  have:=DP live d k (t+1) i (by omega);rw[show t+(i+1)=t+1+i by omega,<-this];rfl
def mkT(len:Nat)(live:List (Nat×Value))(d:Nat->Value):Tm:=ofList len (mkL live d len 0)
theorem NQ{len:Nat}{live:List (Nat×Value)}{d:Nat->Value}(hl:len<=16000)(t:Nat):Zc (mkT len live d) t=if t<len then look live t (d t)else undef:=by
 have h:=l7 (mkL live d len 0) 0 .lf t (by rw[eS];omega);have e:Zc (mkT len live d) t=(ofL (mkL live d len 0) 0 .lf).get t:=rfl;rw[e,h];simp only[Nat.zero_le,true_and,LB,eS,Nat.sub_zero,Tri.get_lf];split
 ·rename_i ht;rw[DP live d len 0 t ht,LB]
 ·rfl
def PF:Item->Bool
 | .endRangeFunc _=>false
 | .inRangeFunc _=>false
 |_=>true
theorem TodoR.plain{μ μ1:Mu}{l L:List Item}(h:TodoR μ l L)(hp:l.all PF=true):TodoR μ1 l L:=by
 induction h with
 |nil=>exact .nil
 |cons hi _ ih=>
  simp only[List.all_cons,YB]at hp;refine .cons ?_ (ih hp.2);cases hi with
  |code c=>exact .code c
  |inBlock id=>exact .inBlock id
  |inLoop c=>exact .inLoop c
  |inScope c=>exact .inScope c
  |beginRound=>exact .beginRound
  |endRF h=>cases hp.1
def QA(f:FuncId)(len:Nat)(live:List (Nat×Value))(d:Nat->Value)(todo:List Item):CF:=⟨f,mkT len live d,todo,[],.run,none⟩
end Go.CE

namespace Go.CE
open Go Go.RowKit

inductive Hint where
 |val (v:Value)
 |idx (k:Nat)
 |ld (v:Value)
 |raw (v:Value)
 |len (n:Nat)
 |eq (b:Bool)
 |app (cs:Array Value)
 |mk (m:Nat) (cs:Array Value)
 |st (cs:Array Value)
 |call (keys:List Nat) (out:Value) (Yp:Qq) (n':Nat) (W:List Nat)
 |look (v:Value)
 |upd (es:Array MapEntry) (Se:Nat)
 |nil
def veq:Value->Value->Prop
 | .int k a,.int k' b=>bif decide (k=k')then a=b else False
 | .bool a,.bool b=>a=b
 |u,v=>u=v
theorem OI{u v:Value}(h:veq u v):u=v:=by
 unfold veq at h;split at h
 ·rename_i k a k' b;by_cases e:k=k'
  ·simp only[e,decide_true,cond_true]at h;rw[e,h]
  ·simp[e]at h
 ·rw[h]
 ·exact h
def KM:Option Nat->Bool
 |none=>true
 |some 0=>true
 |_=>false
def MZ(v:Value)(m:Nat):Prop:=∀μ v',VR μ v v'->∃a c,v'=.slice a m c
theorem qq{P:Program}{t:TypeId}{cs:Array Value}{off:Nat}{v:Value}(h:Y8 P t cs off=some v)(w:World):(part t cs off).run P w=.ok v w:=by
 unfold Y8 at h;cases ha:qy P t with
 |none=>rw[ha]at h;cases h
 |some b=>
  rw[ha]at h;cases b with
  |true=>
   cases hs:W6 P t with
   |none=>rw[hs]at h;cases h
   |some s=>
    rw[hs]at h;dsimp only at h;cases hb:LP (off+s) cs.size with
    |false=>rw[hb]at h;cases h
    |true=>
     rw[hb]at h;simp only[cond_true,YO]at h;subst h;simp only[part,Sem.run_bind,Kp ha,Result.andThen_ok,if_true,Zo hs,Sem.run_pure]
  |false=>
   simp only at h;simp only[part,Sem.run_bind,Kp ha,Result.andThen_ok,h];rfl
def VQ(v:Value):Bool:=af v
def Gl(P:Program)(rec:TypeId->Value->Value->Option Bool):List Field->Array Value->Array Value->Option Bool
 |[],_,_=>some true
 |f::fs,xs,ys=>bif decide (f.name= "_")then Gl P rec fs xs ys else
  match Y8 P f.type xs f.offset,Y8 P f.type ys f.offset with
  |some a,some b=>match rec f.type a b,Gl P rec fs xs ys with
   |some r,some q=>some (r && q)
   |_,_=>none
  |_,_=>none
def eqT(P:Program):Nat->TypeId->Value->Value->Option Bool
 |0,_,_,_=>none
 |d+1,t,x,y=>match Rx P t,x,y with
  |some (.int _),.int k a,.int k' b=>bif decide (k=k')then some (Yo a b)else none
  |some .bool,.bool a,.bool b=>some (bif a then b else !b)
  |some (.struct fs),.agg xs,.agg ys=>bif P.stoodInHeld t then none else Gl P (eqT P d) fs.toList xs ys
  |_,_,_=>none
theorem qg{P:Program}{rec:TypeId->Value->Value->Option Bool}(d:Nat)(Vv:∀t x y r,rec t x y=some r->∀(D:Nat) (w:World),d<=D->(Op.equalIn D t x y).run P w=.ok r w):∀(fs:List Field) (xs ys:Array Value) (r:Bool),Gl P rec fs xs ys=some r->∀(D:Nat) (w:World),d<=D->(Op.eqFields D xs ys fs).run P w=.ok r w
 |[],xs,ys,r,h,D,w,hD=>by
  simp only[Gl,YO]at h;subst h;simp[Op.eqFields]
 |f::fs,xs,ys,r,h,D,w,hD=>by
  unfold Gl at h;by_cases e:f.name= "_"
  ·simp only[e,decide_true,cond_true]at h;simp only[Op.eqFields,e,ne_eq,not_true_eq_false,if_false];exact qg d Vv fs xs ys r h D w hD
  ·simp only[e,decide_false,cond_false]at h;split at h
   ·rename_i a b ha hb;split at h
    ·rename_i r1 q h1 h2;simp only[YO]at h;subst h;have pa:(part f.type xs f.offset).run P w=.ok a w:=qq ha w;have pb:(part f.type ys f.offset).run P w=.ok b w:=qq hb w;simp only[Op.eqFields,e,ne_eq,not_false_eq_true,if_true,Sem.run_bind,pa,Result.andThen_ok,pb,Vv f.type a b r1 h1 D w hD];cases r1 with
     |true=>simpa using qg d Vv fs xs ys q h2 D w hD
     |false=>simp
    ·cases h
   ·cases h
theorem uo{P:Program}:∀(d:Nat) (t:TypeId) (x y:Value) (r:Bool),eqT P d t x y=some r->∀(D:Nat) (w:World),d<=D->(Op.equalIn D t x y).run P w=.ok r w
 |0,t,x,y,r,h,D,w,hD=>by simp[eqT]at h
 |d+1,t,x,y,r,h,D,w,hD=>by
  obtain⟨D,rfl⟩:∃e,D=e+1:=⟨D-1,by omega⟩
  unfold eqT at h;simp only[Z1]at h;split at h
  ·rename_i k0 k a k' b hu;by_cases e:k=k'
   ·subst e;simp only[decide_true,cond_true,YO]at h;rw[run_equalIn_int w D t k k0 a b hu,<-h,iY]
   ·simp[e]at h
  ·rename_i a b hu;simp only[YO]at h;rw[run_equalIn_bool' w D t a b hu,<-h];cases a <;> cases b <;> rfl
  ·rename_i fs xs ys hu;cases hs:P.stoodInHeld t with
   |true=>rw[hs]at h;cases h
   |false=>
    rw[hs]at h;simp only[cond_false]at h;have hf:P.fieldsOf t=fs:=by simp[Program.fieldsOf,hu]
    rw[run_equalIn_struct w D t xs ys (by rw[hf];exact hu) hs,hf];exact qg d (uo d) fs.toList xs ys r h D w (by omega)
  ·cases h
def Ek(B:Lo)(b off:Nat)(v:Value):Prop:=∀w,B.has w->∃v',w.cell? ⟨b,off,none⟩=some v'/\∀μ,VR μ v v'
def qC(P:Program)(B:Lo)(g:FuncId)(args:Array Value)(H:Qq)(n:Nat)(out:OO)(H':Qq)(n':Nat)(R W:List Nat):Prop:=
 Shape H n H' n' R W/\∀(S:Nat->Prop) (μ:Mu) (w:World) (args':Array Value) (cs:List Frame),Ok B S μ (Qt H) w->B.has w->(∀i,S i->i<n)->P4 μ n n'->VRs μ args args'->(∀i∈R,i<n->S i)->
  ∃Zh w' μ',Post B S n n' W μ μ' H H' w w'/\OR2 μ' out Zh/\EndsAs P (Frame.enter P g args' .normal) cs w Zh w'
def CJ(P:Program)(B:Lo)(g:FuncId)(args:Array Value)(Hs:List (Nat×Option Obj))(n:Nat)(out:Value)(Yp:Qq)(n':Nat)(W:List Nat):Prop:=
 ∀H,Under H n->(∀p∈Hs,Qt H p.1=p.2)->qC P B g args H n (.ret out) (Yp++H) n' (Hs.map (·.1)) W
def RJ(P:Program)(B:Lo)(c:CF)(Hs:List (Nat×Option Obj))(n:Nat)(out:Value)(Yp:Qq)(n':Nat)(W:List Nat):Prop:=
 ∀H,Under H n->(∀p∈Hs,Qt H p.1=p.2)->FJ P B c H n (.ret out) (Yp++H) n' (Hs.map (·.1)) W
open Classical in
noncomputable def TM(c:CF)(H1:Qq)(n:Nat)(s:Rs):CF->Qq->Nat->Option Rs:=fun c' H' m'=>if c'=c/\H'=H1/\m'=n then some s else none
theorem S7(c:CF)(H1:Qq)(n:Nat)(s:Rs):TM c H1 n s c H1 n=some s:=by simp[TM]
theorem RJ.recS{P:Program}{B:Lo}{c:CF}{H1:Qq}{n:Nat}{out:Value}{Yp:Qq}{n':Nat}{W keys:List Nat}(hu:Under H1 n)(h:RJ P B c (keys.map fun k=>(k,Qt H1 k)) n out Yp n' W):jg P B (TM c H1 n ⟨.ret out,Yp++H1,n',keys,W⟩):=by
 intro c' H' m' s _ hs;unfold TM at hs;split at hs
 ·rename_i q;obtain⟨rfl,rfl,rfl⟩:=q;simp only[YO]at hs;subst hs;have:=h H' hu (fun p hp=>by
   obtain⟨k,_,rfl⟩:=List.mem_map.1 hp;rfl)
  rw[List.map_map]at this;have e:keys.map ((fun p:Nat×Option Obj=>p.1) ∘ fun k=>(k,Qt H' k))=keys:=List.map_id' _;rw[e]at this;exact this
 ·cases hs
structure Told where
 s:Rs
 p:Option Prop
def Qa5(P:Program)(t:TypeId)(H:Qq)(n:Nat)(s x:Value)(cs':Array Value):Option (CR×Prop):=
 match Rx P t with
 |some (.slice e)=>match inf P e with
  |some i=>match i.zero,i.size with
   |some zv,z+1=>match s with
    | .slice (some ⟨b,0,none⟩) k s'=>match Qt H b with
      |some (.cells cs te (0,0))=>match oz H (z+1) x with
       |some (ns,m,bx)=>bif Lf te e && Lf s' (z+1) && ones ns && Lf zv.cells.size (z+1) && Ls 0 m then
        some (⟨.val (.slice (some ⟨n,0,none⟩) (k+m) (z+1)),(n,.cells cs' e (0,0))::aE H (some b),n+1,[bx,b],[b]⟩,cs.size=k*(z+1)/\k+m<=maxLen/\(k+m)*i.bytes<=140737488355328/\cs++ns=cs')
         else none
       |none=>none
      |_=>none
    |_=>none
   |_,_=>none
  |none=>none
 |_=>none

def QaC(P:Program)(t:TypeId)(es:Array MapEntry)(ok:Bool)(k v:Value):Prop:=∀H r Se,Qt H r=some (.map es Se)->ik P t H ok (.map (some r)) k=some (v,[r])
def QaB(P:Program)(t:TypeId)(es:Array MapEntry)(Se:Nat)(k v:Value)(KG:Array MapEntry)(clk':Nat):Prop:=∀H r,Qt H r=some (.map es Se)->Jh P t H (.map (some r)) k v=some (VE H r (.map KG clk'),r)
def opH(P:Program)(F:FuncId->Bool)(B:Lo)(T:Tm)(o:Oper)(H:Qq)(n:Nat):Option Hint->Option Told
 |none=>match o.op with
  | .fieldAddr s x f=>match Zd T x with
    |some (.pointer (some ⟨b,off,some 0⟩))=>match Wm P s f (.pointer (some ⟨b,off,none⟩))with
     |some (.pointer (some ⟨b',off',none⟩))=>some ⟨⟨.ret (.pointer (some ⟨b',off',some 0⟩)),H,n,[],[]⟩,none⟩
     |_=>none
    |_=>match di P F Xy (fun _ _ _=>none) T o H n with|some s=>some ⟨s,none⟩|none=>none
  |_=>match di P F Xy (fun _ _ _=>none) T o H n with|some s=>some ⟨s,none⟩|none=>none
 |some (.val v)=>match di P F Xy (fun _ _ _=>none) T o H n with
  |some ⟨.ret u,H1,n1,R,W⟩=>some ⟨⟨.ret v,H1,n1,R,W⟩,some (veq u v)⟩
  |_=>none
 |some (.idx k)=>match o.op with
  | .indexAddr t x i=>match Zd T x,Zd T i with
    |some (.slice (some ⟨b,off,sp⟩) len _),some (.int _ q)=>match Rx P t with
     |some (.slice e)=>match W6 P e with
      |some z=>bif KM sp then some ⟨⟨.ret (.pointer (some ⟨b,off+k*z,sp⟩)),H,n,[],[]⟩,some (q=(k:Int)/\k<len)⟩else none
      |none=>none
     |_=>none
    |some (.pointer (some ⟨b,off,sp⟩)),some (.int _ q)=>match Rx P t with
     |some (.array len e)=>match W6 P e with
      |some z=>bif KM sp then some ⟨⟨.ret (.pointer (some ⟨b,off+k*z,sp⟩)),H,n,[],[]⟩,some (q=(k:Int)/\k<len)⟩else none
      |none=>none
     |_=>none
    |_,_=>none
  |_=>none
 |some (.ld v)=>match o.op with
  | .load t a=>match Zd T a with
    |some (.pointer (some ⟨b,off,none⟩))=>match Qt H b with
     |some (.cells cs _ _)=>bif Ls b n then match qy P t with
      |some true=>match W6 P t,v with
       |some z,.agg xs=>some ⟨⟨.ret v,H,n,[b],[]⟩,some (off+z<=cs.size/\cs.extract off (off+z)=xs)⟩
       |_,_=>none
      |some false=>some ⟨⟨.ret v,H,n,[b],[]⟩,some (cs[off]? =some v)⟩
      |none=>none
      else none
     |_=>none
    |_=>none
  |_=>none
 |some (.raw v)=>match o.op with
  | .load t a=>match Zd T a with
    |some (.pointer (some ⟨b,off,some 0⟩))=>match qy P t with
     |some true=>match W6 P t,v with
      |some z,.agg xs=>bif Lf xs.size z then some ⟨⟨.ret v,H,n,[],[]⟩,some (∀(j:Nat) u,xs[j]? =some u->Ek B b (off+j) u)⟩else none
      |_,_=>none
     |some false=>some ⟨⟨.ret v,H,n,[],[]⟩,some (Ek B b off v)⟩
     |none=>none
    |_=>none
  |_=>none
 |some (.eq b)=>match o.op with
  | .binOp op t x y _=>match Zd T x,Zd T y with
    |some (.agg xs),some (.agg ys)=>bif P.eqGuardType P.depth t then none else match op with
     | .eql=>match eqT P 100 t (.agg xs) (.agg ys)with
       |some r=>bif VQ (.agg xs) && VQ (.agg ys)then some ⟨⟨.ret (.bool b),H,n,[],[]⟩,some (r=b)⟩else none
       |none=>none
     | .neq=>match eqT P 100 t (.agg xs) (.agg ys)with
       |some r=>bif VQ (.agg xs) && VQ (.agg ys)then some ⟨⟨.ret (.bool b),H,n,[],[]⟩,some ((!r)=b)⟩else none
       |none=>none
     |_=>none
    |_,_=>none
  |_=>none
 |some (.len m)=>match o.op with
  | .call c=>match c.callee with
    | .builtin .len=>match c.args.toList,c.argTypes.toList with
      |[x],[t]=>match Zd T x,Rx P t with
       |some v,some (.slice _)=>some ⟨⟨.ret (.int .i64 m),H,n,[],[]⟩,some (MZ v m)⟩
       |_,_=>none
      |_,_=>none
    |_=>none
  |_=>none
 |some (.app cs')=>match o.op with
  | .call c=>match c.callee with
    | .builtin .append=>match c.args.toList,c.argTypes.toList with
      |[s,x],[t,t']=>bif Lf t t' then
       match Zd T s,Zd T x with
       |some sv,some xv=>match Qa5 P t H n sv xv cs' with
        |some (⟨.val v,H1,n1,R,W⟩,p)=>bif R.all (fun i=>Ls i n)then some ⟨⟨.ret v,H1,n1,R,W⟩,some p⟩else none
        |_=>none
       |_,_=>none
        else none
      |_,_=>none
    |_=>none
  |_=>none
 |some (.mk m cs)=>match o.op with
  | .makeSlice t l c=>match Zd T l,Zd T c with
    |some x,some y=>match Rx P t with
     |some (.slice e)=>match W6 P e with
      |some z=>some ⟨⟨.ret (.slice (some ⟨n,0,none⟩) m z),(n,.cells cs e (0,0))::H,n+1,[],[]⟩,some (Sg P t x y=some (e,cs,m,z))⟩
      |none=>none
     |_=>none
    |_,_=>none
  |_=>none
 |some (.st cs')=>match o.op with
  | .store t a x=>match Zd T a,Zd T x with
    |some (.pointer (some ⟨b,off,none⟩)),some v=>match Qt H b with
     |some (.cells cs te (0,0))=>match W6 P t with
      |some z=>bif Ls b n && Lf v.cells.size z && ones v.cells then some ⟨⟨.ret undef,VE H b (.cells cs' te (0,0)),n,[b],[b]⟩,some (off+z<=cs.size/\splice cs off v.cells=cs')⟩else none
      |none=>none
     |_=>none
    |_,_=>none
  |_=>none
 |some (.call keys out Yp n' W)=>match o.op with
  | .call _=>match Rq P F (Zd T) o H n with
    |some ⟨.enter g args,H1,n1,R,W1⟩=>bif Lf n1 n && W1.isEmpty then some ⟨⟨.ret out,Yp++H1,n',R++keys,W⟩,some (CJ P B g args (keys.map fun k=>(k,Qt H1 k)) n out Yp n' W)⟩else none
    |some ⟨.round l fn tm a b,H1,n1,R,W1⟩=>bif Lf n1 n && W1.isEmpty && LP tm.size 16000 then some ⟨⟨.ret out,Yp++H1,n',R++keys,W⟩,some (RJ P B ⟨fn,ofList tm.size tm.toList,[.code a,.beginRound,.code b],[],.run,some l⟩ (keys.map fun k=>(k,Qt H1 k)) n out Yp n' W)⟩else none
    |_=>none
  |_=>none
 |some (.look v)=>match o.op with
  | .lookup t x k ok=>match Zd T x,Zd T k with
    |some (.map (some r)),some kv=>match Qt H r with
     |some (.map es _)=>bif Ls r n then some ⟨⟨.ret v,H,n,[r],[]⟩,some (QaC P t es ok kv v)⟩else none
     |_=>none
    |_,_=>none
  |_=>none
 |some (.upd KG clk')=>match o.op with
  | .mapUpdate t m k x=>match Zd T m,Zd T k,Zd T x with
    |some (.map (some r)),some kv,some v=>match Qt H r with
     |some (.map es Se)=>bif Ls r n then some ⟨⟨.ret undef,VE H r (.map KG clk'),n,[r],[r]⟩,some (QaB P t es Se kv v KG clk')⟩else none
     |_=>none
    |_,_,_=>none
  |_=>none
 |some .nil=>match o.op with
  | .call c=>match c.callee with
    | .builtin .append=>match c.args.toList,c.argTypes.toList with
      |[s,x],[t,t']=>bif Lf t t' then match Zd T s,Zd T x with
       |some (.slice none 0 0),some (.slice none 0 0)=>match Rx P t with
        |some (.slice e)=>match W6 P e with
         |some _=>some ⟨⟨.ret (.slice none 0 0),H,n,[],[]⟩,none⟩
         |none=>none
        |_=>none
       |_,_=>none
        else none
      |_,_=>none
    |_=>none
  |_=>none
section
variable {P:Program} {F:FuncId->Bool} {B:Lo} {T:Tm} {o:Oper} {H:Qq} {n:Nat}
theorem P5:jg P B (fun _ _ _=>none):=fun _ _ _ _ _ h=>by cases h
theorem Km{v:Value}{ev:Operand->Option Value}(hd:∀c,o.op≠.defer c)(h:∀(μ:Mu) (w:World) (ρ:Operand->Value),B.has w->(∀x∈o.op.operands,∀v,ev x=some v->VR μ v (ρ x))->∃v',(execOp ρ o).run P w=.ok (.value v') w/\VR μ v v'):
 T3 P B o ev H n (.ret v) H n [] []:=fun _ μ w fr _ _ _ _ _ QE hB _ _ XT _ hm ht ho hw=>
 let⟨v',h1,h2⟩:=h μ w fr.eval hB XT
 ⟨.ret v',w,μ,Post.refl QE,.ret h2,Rj hm ht ho hw hd h1⟩
theorem cf{s:TypeId}{f b off:Nat}{b' off':Nat}(h:Wm P s f (.pointer (some ⟨b,off,none⟩))=some (.pointer (some ⟨b',off',none⟩)))(w:World):b'=b/\(Instr.fieldAt s (.pointer (some ⟨b,off,none⟩)) f).run P w=.ok (.pointer (some ⟨b',off',none⟩)) w:=by
 unfold Wm at h;simp only[Z1]at h;split at h
 ·rename_i fields hu;cases hfd:fields[f]? with
  |none=>rw[hfd]at h;cases h
  |some fd=>
   rw[hfd]at h;dsimp only at h;split at h
   ·rename_i z hz;simp only[YO,Value.pointer.injEq,Addr.mk.injEq,and_true]at h;obtain⟨rfl,rfl⟩:=h;refine⟨rfl, ?_⟩;simp only[Instr.fieldAt,Sem.run_bind,run_underlying hu,Result.andThen_ok,hfd,Instr.sureAddr,Sem.run_pure,fieldPlace,Zo hz,WA];simp
   ·cases h
 ·cases h
theorem sk{t e:TypeId}{b off len c z k:Nat}{q:Int}{kk:IntKind}(hu:Rx P t=some (.slice e))(hz:W6 P e=some z)(hq:q=(k:Int))(hk:k<len)(w:World):
 (Instr.indexAt t (.slice (some ⟨b,off,none⟩) len c) (.int kk q)).run P w=.ok (.pointer (some ⟨b,off+k*z,none⟩)) w:=by
 rw[Z1]at hu;subst hq;have hc:0<=(k:Int)/\(k:Int)<len:=by omega
 simp only[Instr.indexAt,Sem.run_bind,asIntOf,Sem.run_pure,Result.andThen_ok,run_underlying hu,hc,and_self,if_true,Zo hz,WA,Int.toNat_natCast]
theorem hU{t e:TypeId}{b off len z k:Nat}{q:Int}{kk:IntKind}(hu:Rx P t=some (.array len e))(hz:W6 P e=some z)(hq:q=(k:Int))(hk:k<len)(w:World):
 (Instr.indexAt t (.pointer (some ⟨b,off,none⟩)) (.int kk q)).run P w=.ok (.pointer (some ⟨b,off+k*z,none⟩)) w:=by
 rw[Z1]at hu;subst hq;have hc:0<=(k:Int)/\(k:Int)<len:=by omega
 simp only[Instr.indexAt,Sem.run_bind,asIntOf,Sem.run_pure,Result.andThen_ok,run_underlying hu,Instr.sureAddr,hc,and_self,if_true,Zo hz,WA,Int.toNat_natCast]
theorem Ou{μ:Mu}{b off k z:Nat}{sp:Option Nat}{v':Value}(hsp:KM sp=true)(h:VR μ (.pointer (some ⟨b,off,sp⟩)) v'):∃b' off',v'=.pointer (some ⟨b',off',none⟩)/\VR μ (.pointer (some ⟨b,off+k*z,sp⟩)) (.pointer (some ⟨b',off'+k*z,none⟩)):=by
 cases h with
 |ptr har=>
  obtain⟨im,h1,h2,rfl⟩:=har;simp only at h2;subst h2;exact⟨_,_,rfl,.ptr ⟨im,h1,rfl,by simp[Nat.add_assoc]⟩⟩
 |YM _ _ q=>
  cases q with
  |zero=>exact⟨_,_,rfl,.YM _ _ 0⟩
  |succ q=>cases hsp
theorem GB{μ:Mu}{b off len s k z:Nat}{sp:Option Nat}{v':Value}(hsp:KM sp=true)(h:VR μ (.slice (some ⟨b,off,sp⟩) len s) v'):∃b' off' c',v'=.slice (some ⟨b',off',none⟩) len c'/\VR μ (.pointer (some ⟨b,off+k*z,sp⟩)) (.pointer (some ⟨b',off'+k*z,none⟩)):=by
 cases h with
 |slice har=>
  obtain⟨im,h1,h2,rfl⟩:=har;simp only at h2;subst h2;exact⟨_,_,_,rfl,.ptr ⟨im,h1,rfl,by simp[Nat.add_assoc]⟩⟩
 |rawSlice _ _ q=>
  cases q with
  |zero=>exact⟨_,_,_,rfl,.YM _ _ 0⟩
  |succ q=>cases hsp
theorem pY{μ:Mu}{k:IntKind}{q:Int}{v':Value}(h:VR μ (.int k q) v'):v'=.int k q:=by cases h;rfl
theorem qO{t e ty:TypeId}{z:Nat}(hu:Rx P t=some (.slice e))(hz:W6 P e=some z)(w:World):(Builtin.append_ #[t,t] ty #[.slice none 0 0,.slice none 0 0]).run P w=.ok (.slice none 0 0) w:=by
 rw[Z1]at hu;simp[Builtin.append_,Sem.run_bind,run_underlying hu,Result.andThen_ok,Zo hz,Builtin.lenOf,Builtin.firstCells,Sem.run_pure]
theorem rZ(hF:∀g,F g=true->Q1 P g=true)(hu:Under H n){h:Option Hint}{a:Told}(e:opH P F B T o H n h=some a)(hp:∀p,a.p=some p->p):
 T3 P B o (Zd T) H n a.s.out a.s.H a.s.n a.s.R a.s.W/\Shape H n a.s.H a.s.n a.s.R a.s.W:=by
 have plain:∀{s:Rs},di P F Xy (fun _ _ _=>none) T o H n=some s->T3 P B o (Zd T) H n s.out s.H s.n s.R s.W/\Shape H n s.H s.n s.R s.W:=fun h=>YY hF P5 (QI P B) hu h
 have plain':(match di P F Xy (fun _ _ _=>none) T o H n with|some s=>some (⟨s,none⟩:Told)|none=>none)=some a->T3 P B o (Zd T) H n a.s.out a.s.H a.s.n a.s.R a.s.W/\Shape H n a.s.H a.s.n a.s.R a.s.W:=by
  intro h;split at h
  ·rename_i s hs;simp only[YO]at h;subst h;exact plain hs
  ·cases h
 unfold opH at e;split at e
 ·-- nothing is told
  split at e
  ·rename_i s x f Zi;split at e
   ·rename_i b off hx;split at e
    ·rename_i b' off' hc;simp only[YO]at e;subst e;refine⟨Km (fun c h=>by rw[Zi]at h;cases h) fun μ w ρ _ XT=> ?_,Shape.same _ _ _⟩;have hv:=XT x (by simp[Zi,Op.operands]) _ hx;obtain⟨rfl,hr⟩:=cf (P:=P) hc w;generalize hg:ρ x=u at hv;cases hv with
     |ptr har=>obtain⟨im,_,h2,_⟩:=har;cases h2
     |YM=>exact⟨_,by simp[execOp,Zi,hg,hr,mw],.YM _ _ 0⟩
    ·cases e
   ·exact plain' e
  ·exact plain' e
 ·-- a value
  rename_i v;split at e
  ·rename_i u H1 n1 R W hs;simp only[YO]at e;subst e;have:=OI (hp _ rfl);subst this;exact plain hs
  ·cases e
 ·-- an element's address
  rename_i k;split at e
  ·rename_i t x i Zi;split at e
   ·rename_i b off sp len c kk q hx hi;split at e
    ·rename_i el hue;split at e
     ·rename_i z hz;have hsp:KM sp=true:=by
       cases h:KM sp with
       |true=>rfl
       |false=>rw[h]at e;cases e
      rw[hsp]at e;simp only[cond_true,YO]at e;subst e;obtain⟨hq,hk⟩:=hp _ rfl;refine⟨Km (fun c h=>by rw[Zi]at h;cases h) fun μ w ρ _ XT=> ?_,Shape.same _ _ _⟩;obtain⟨b',off',c',h1,h2⟩:=GB (k:=k) (z:=z) hsp (XT x (by simp[Zi,Op.operands]) _ hx);have h3:=pY (XT i (by simp[Zi,Op.operands]) _ hi);exact⟨_,by simp[execOp,Zi,h1,h3,sk hue hz hq hk],h2⟩
     ·cases e
    ·cases e
   ·rename_i b off sp kk q hx hi;split at e
    ·rename_i len el hue;split at e
     ·rename_i z hz;have hsp:KM sp=true:=by
       cases h:KM sp with
       |true=>rfl
       |false=>rw[h]at e;cases e
      rw[hsp]at e;simp only[cond_true,YO]at e;subst e;obtain⟨hq,hk⟩:=hp _ rfl;refine⟨Km (fun c h=>by rw[Zi]at h;cases h) fun μ w ρ _ XT=> ?_,Shape.same _ _ _⟩;obtain⟨b',off',h1,h2⟩:=Ou (k:=k) (z:=z) hsp (XT x (by simp[Zi,Op.operands]) _ hx);have h3:=pY (XT i (by simp[Zi,Op.operands]) _ hi);exact⟨_,by simp[execOp,Zi,h1,h3,hU hue hz hq hk],h2⟩
     ·cases e
    ·cases e
   ·cases e
  ·cases e
 ·-- a load of one's own
  rename_i v;split at e
  ·rename_i t x Zi;split at e
   ·rename_i b off hx;split at e
    ·rename_i cs te fz hg;have key:Ls b n=true->Y8 P t cs off=some v->T3 P B o (Zd T) H n (.ret v) H n [b] []/\Shape H n H n [b] []:=by
      intro hb hc;refine plain (s:=⟨.ret v,H,n,[b],[]⟩) ?_;have hcop:uu P F (Zd T) o H n=some ⟨.val v,H,n,[b],[]⟩:=by simp[uu,Zi,hx,Ty,hg,hc]
      have hcr:Rq P F (Zd T) o H n=some ⟨.val v,H,n,[b],[]⟩:=by simp[Rq,hcop,hb]
      simp[di,Zi,hcr]
     have e:=Jj (q:=Ls b n) e;have hb:Ls b n=true:=by
      have:=hu.lt hg;exact LD this
     split at e
     ·rename_i hag;split at e
      ·rename_i z xs hz _;simp only[YO]at e;subst e;obtain⟨h1,h2⟩:=hp _ rfl;refine key hb ?_;simp only[Y8,hag,hz,LD h1,cond_true,h2]
      ·cases e
     ·rename_i hag;simp only[YO]at e;subst e;refine key hb ?_;simp only[Y8,hag];exact hp _ rfl
     ·cases e
    ·cases e
   ·cases e
  ·cases e
 ·-- a load of memory PN nobody writes
  rename_i v;split at e
  ·rename_i t x Zi;split at e
   ·rename_i b off hx;split at e
    ·rename_i hag;split at e
     ·rename_i z xs hz;cases ZA:Lf xs.size z with
      |false=>rw[ZA]at e;cases e
      |true=>
       rw[ZA]at e;simp only[cond_true,YO]at e;subst e;have ZA:=YE ZA;have hc:=hp _ rfl;refine⟨Km (fun c h=>by rw[Zi]at h;cases h) fun μ w ρ hB XT=> ?_,Shape.same _ _ _⟩;have hv:=XT x (by simp[Zi,Op.operands]) _ hx;have hf:∀j,j<z->∃v,xs[j]? =some v/\w.cell? ⟨b,off+j,none⟩=some ((w.cell? ⟨b,off+j,none⟩).getD undef)/\VR μ v ((w.cell? ⟨b,off+j,none⟩).getD undef):=by
        intro j hj;have Xp:j<xs.size:=by omega
        obtain⟨v',a,b⟩:=hc j xs[j] (by simp[Xp]) w hB;exact⟨xs[j],by simp[Xp],by simp[a],by simpa[a]using b μ⟩
       have hr:=run_loadCells (P:=P) w ⟨b,off,none⟩ z (fun j=>(w.cell? ⟨b,off+j,none⟩).getD undef) (fun j hj=>by
        obtain⟨_,_,hc,_⟩:=hf j hj;rw[WA];exact hc)
       generalize hg:ρ x=u at hv;cases hv with
       |ptr har=>obtain⟨im,_,h2,_⟩:=har;cases h2
       |YM=>
        refine⟨.agg _,by simp[execOp,Zi,hg,Instr.loadAt,Instr.sureAddr,loadVar,Kp hag,Zo hz,mw,hr];rfl,.agg (by simp[ZA]) fun i v v' hv ZX=> ?_⟩;have hi:i<z:=by
         have:=(Array.getElem?_eq_some_iff.1 hv).1;omega
        obtain⟨u,h1,_,h2⟩:=hf i hi;rw[hv]at h1;cases h1;simp[hi]at ZX;rw[<-ZX];exact h2
     ·cases e
    ·rename_i hag;simp only[YO]at e;subst e;have hc:=hp _ rfl;refine⟨Km (fun c h=>by rw[Zi]at h;cases h) fun μ w ρ hB XT=> ?_,Shape.same _ _ _⟩;have hv:=XT x (by simp[Zi,Op.operands]) _ hx;obtain⟨v',h1,h2⟩:=hc w hB;generalize hg:ρ x=u at hv;cases hv with
     |ptr har=>obtain⟨im,_,h2,_⟩:=har;cases h2
     |YM=>exact⟨v',by simp[execOp,Zi,hg,Instr.loadAt,Instr.sureAddr,loadVar,Kp hag,run_load,mw,h1],h2 μ⟩
    ·cases e
   ·cases e
  ·cases e
 ·-- a comparison of structs
  rename_i b;split at e
  ·rename_i op t x y ty Zi;split at e
   ·rename_i xs ys hx hy;cases hgt:P.eqGuardType P.depth t with
    |true=>rw[hgt]at e;cases e
    |false=>
     rw[hgt]at e;simp only[cond_false]at e;have vals:VQ (.agg xs)=true->VQ (.agg ys)=true->∀(μ:Mu) (ρ:Operand->Value),(∀x∈o.op.operands,∀v,Zd T x=some v->VR μ v (ρ x))->ρ x=.agg xs/\ρ y=.agg ys:=fun h1 h2 μ ρ XT=>
      ⟨T0 h1 (XT x (by simp[Zi,Op.operands]) _ hx),T0 h2 (XT y (by simp[Zi,Op.operands]) _ hy)⟩
     split at e
     ·split at e
      ·rename_i r hr;cases hl:(VQ (.agg xs) && VQ (.agg ys))with
       |false=>simp only[hl]at e;cases e
       |true=>
        simp only[hl,cond_true,YO]at e;subst e;have Yr:r=b:=hp _ rfl;subst Yr;simp only[YB]at hl;refine⟨Km (fun c h=>by rw[Zi]at h;cases h) fun μ w ρ _ XT=> ?_,Shape.same _ _ _⟩;obtain⟨e1,e2⟩:=vals hl.1 hl.2 μ ρ XT;refine⟨.bool r, ?_,.bool _⟩;simp[execOp,Zi,e1,e2,run_eqGuard_agg w _ t x y xs ys hgt,run_eql_struct,uo 100 t _ _ r hr 10000 w (by omega)]
      ·cases e
     ·split at e
      ·rename_i r hr;cases hl:(VQ (.agg xs) && VQ (.agg ys))with
       |false=>simp only[hl]at e;cases e
       |true=>
        simp only[hl,cond_true,YO]at e;subst e;have Yr:(!r)=b:=hp _ rfl;subst Yr;simp only[YB]at hl;refine⟨Km (fun c h=>by rw[Zi]at h;cases h) fun μ w ρ _ XT=> ?_,Shape.same _ _ _⟩;obtain⟨e1,e2⟩:=vals hl.1 hl.2 μ ρ XT;refine⟨.bool (!r), ?_,.bool _⟩;simp[execOp,Zi,e1,e2,run_eqGuard_agg w _ t x y xs ys hgt,binOp,Op.equal,Op.maxDepth,uo 100 t _ _ r hr 10000 w (by omega)]
      ·cases e
     ·cases e
   ·cases e
  ·cases e
 ·-- a slice's length
  rename_i m;split at e
  ·rename_i c Zi;split at e
   ·rename_i hc;split at e
    ·rename_i x t ha ht;split at e
     ·rename_i v el hx hu;rw[Z1]at hu;simp only[YO]at e;subst e;refine⟨Km (fun c h=>by rw[Zi]at h;cases h) fun μ w ρ hB XT=> ?_,Shape.same _ _ _⟩;have ea:c.args=#[x]:=by rw[<-ha]
      have et:c.argTypes=#[t]:=by rw[<-ht]
      obtain⟨a,cp,hv⟩:=hp _ rfl μ _ (XT x (by simp[Zi,Op.operands,Call.operands,hc,ea]) _ hx);refine⟨.int .i64 m, ?_,.int _ _⟩;simp[execOp,Zi,resolve,hc,invoke,builtin,ea,et,hv,Builtin.len_,run_underlying hu,goInt]
     ·cases e
    ·cases e
   ·cases e
  ·cases e
 ·-- append
  rename_i cs';split at e
  ·rename_i c Zi;split at e
   ·rename_i hcal;split at e
    ·rename_i s x t t' ha ht;cases htt:Lf t t' with
     |false=>rw[htt]at e;cases e
     |true=>
      rw[htt]at e;simp only[cond_true]at e;split at e
      ·rename_i sv xv hs hx;split at e
       ·rename_i v H1 n1 R W p hap;cases hR:R.all (fun i=>Ls i n)with
        |false=>rw[hR]at e;cases e
        |true=>
         rw[hR]at e;simp only[cond_true,YO]at e;subst e;have hpp:p:=hp _ rfl;refine plain (s:=⟨.ret v,H1,n1,R,W⟩) ?_;have hca:VY P t H n sv xv=some ⟨.val v,H1,n1,R,W⟩:=by
          unfold Qa5 at hap;unfold VY;split at hap
          ·rename_i e1 hue;rw[hue];simp only;split at hap
           ·rename_i inf1 hinf;rw[hinf];simp only;split at hap
            ·rename_i zv z hzv ZA;rw[hzv,ZA];simp only;split at hap
             ·rename_i b k s';split at hap
              ·rename_i cs te hg;split at hap
               ·rename_i ns m bx hns;cases hq:(Lf te e1 && Lf s' (z+1) && ones ns && Lf zv.cells.size (z+1) && Ls 0 m)with
                |false=>rw[hq]at hap;cases hap
                |true=>
                 rw[hq]at hap;simp only[cond_true,YO,YR,CR.mk.injEq,CN.val.injEq]at hap;obtain⟨⟨rfl,rfl,rfl,rfl,rfl⟩,rfl⟩:=hap;obtain⟨p1,p2,p3,p4⟩:=hpp;simp only[YB]at hq;obtain⟨⟨⟨⟨q1,q2⟩,q3⟩,q4⟩,q5⟩:=hq;have hh:Sv H e1 (z+1) (.slice (some ⟨b,0,none⟩) k s')=some (cs,k,some b):=by
                  simp[Sv,hg,YE q1,YE q2,p1]
                 rw[hh,hns];simp only[q3,q4,q5,LD p2,LD p3,Bool.and_self,cond_true,p4];rfl
               ·cases hap
              ·cases hap
             ·cases hap
            ·cases hap
           ·cases hap
          ·cases hap
         have hbr:bare sv=sv:=by
          unfold bare;split
          ·exfalso;unfold Qa5 at hap;repeat' (first|(cases hap;done)|split at hap)
          ·rfl
         have hcop:uu P F (Zd T) o H n=some ⟨.val v,H1,n1,R,W⟩:=by simp[uu,Zi,hcal,ha,ht,hs,hx,At,htt,hbr,hca]
         have hcr:Rq P F (Zd T) o H n=some ⟨.val v,H1,n1,R,W⟩:=by
          simp only[Rq,hcop,hR,cond_true]
         simp[di,Zi,hcr]
       ·cases e
      ·cases e
    ·cases e
   ·cases e
  ·cases e
 ·-- make
  rename_i m cs;split at e
  ·rename_i t l c Zi;split at e
   ·rename_i x y hx hy;split at e
    ·rename_i el hu1;split at e
     ·rename_i z hz;simp only[YO]at e;subst e;have hc:=hp _ rfl;exact plain (s:=⟨.ret (.slice (some ⟨n,0,none⟩) m z),(n,.cells cs el (0,0))::H,n+1,[],[]⟩) (by simp[di,Zi,Rq,uu,hx,hy,hc])
     ·cases e
    ·cases e
   ·cases e
  ·cases e
 ·-- a store
  rename_i cs';split at e
  ·rename_i t ad x Zi;split at e
   ·rename_i b off v hx hy;split at e
    ·rename_i cs te hg;split at e
     ·rename_i z hz;cases hq:(Ls b n && Lf v.cells.size z && ones v.cells)with
      |false=>rw[hq]at e;cases e
      |true=>
       rw[hq]at e;simp only[cond_true,YO]at e;subst e;obtain⟨h1,h2⟩:=hp _ rfl;simp only[YB]at hq;have ZB:Sy P t H v (.pointer (some ⟨b,off,none⟩))=some (VE H b (.cells cs' te (0,0)),b):=by
        simp only[Sy,hg,hz,hq.1.2,hq.2,LD h1,Bool.and_self,cond_true,h2]
       exact plain (s:=⟨.ret undef,VE H b (.cells cs' te (0,0)),n,[b],[b]⟩) (by simp[di,Zi,Rq,uu,hx,hy,ZB,hq.1.1])
     ·cases e
    ·cases e
   ·cases e
  ·cases e
 ·-- a call
  rename_i keys out Yp n' W;split at e
  ·rename_i c Zi;split at e
   ·rename_i g args H1 n1 R W1 hcr;cases hn:(Lf n1 n && W1.isEmpty)with
    |false=>rw[hn]at e;cases e
    |true=>
     rw[hn]at e;simp only[cond_true,YO]at e;subst e;simp only[YB,List.isEmpty_iff]at hn;obtain⟨JZ,rfl⟩:=hn;have JZ:=YE JZ;subst JZ;have hu1:Under H1 n1:=hu.shape (jc hu (qk hcr).1);have hcj:=hp _ rfl H1 hu1 (fun p hp=>by
      obtain⟨k,_,rfl⟩:=List.mem_map.1 hp;rfl)
     have hk:(keys.map fun k=>(k,Qt H1 k)).map (·.1)=keys:=by
      rw[List.map_map];exact List.map_id' _
     rw[hk]at hcj;have ZY:Wz P B (fun g' a' H' m'=>open Classical in if g'=g/\a'=args/\H'=H1/\m'=n1 then some ⟨.ret out,Yp++H1,n',keys,W⟩else none):=by
      intro g' a' H' m' s _ h;simp only at h;split at h
      ·rename_i q;obtain⟨rfl,rfl,rfl,rfl⟩:=q;simp only[YO]at h;subst h;exact hcj
      ·cases h
     have:=YY hF P5 ZY hu (T:=T) (o:=o) (s:=⟨.ret out,Yp++H1,n',R++keys,W⟩) (by
      simp[di,Zi,hcr])
     exact this
   ·rename_i l fn tm cda cdb H1 n1 R W1 hcr;cases hn:(Lf n1 n && W1.isEmpty && LP tm.size 16000)with
    |false=>rw[hn]at e;cases e
    |true=>
     rw[hn]at e;simp only[cond_true,YO]at e;subst e;simp only[YB,List.isEmpty_iff]at hn;obtain⟨⟨JZ,rfl⟩,ZA⟩:=hn;have JZ:=YE JZ;subst JZ;have hu1:Under H1 n1:=hu.shape (jc hu (qk hcr).1);have hrj:=hp _ rfl;have Vv:=RJ.recS hu1 hrj;have:=YY hF Vv (QI P B) hu (T:=T) (o:=o) (s:=⟨.ret out,Yp++H1,n',R++keys,W⟩) (by
      simp[di,Zi,hcr,ZA,S7])
     exact this
   ·cases e
  ·cases e
 ·-- what is found in a map
  rename_i v;split at e
  ·rename_i t x k ok Zi;split at e
   ·rename_i r kv hx hk;split at e
    ·rename_i es Se hg;cases hq:Ls r n with
     |false=>rw[hq]at e;cases e
     |true=>
      rw[hq]at e;simp only[cond_true,YO]at e;subst e;have hl:=hp _ rfl H r Se hg;exact plain (s:=⟨.ret v,H,n,[r],[]⟩) (by simp[di,Zi,Rq,uu,hx,hk,hl,hq])
    ·cases e
   ·cases e
  ·cases e
 ·-- what a map becomes
  rename_i KG clk';split at e
  ·rename_i t m k x Zi;split at e
   ·rename_i r kv v hm hk hx;split at e
    ·rename_i es Se hg;cases hq:Ls r n with
     |false=>rw[hq]at e;cases e
     |true=>
      rw[hq]at e;simp only[cond_true,YO]at e;subst e;have hl:=hp _ rfl H r hg;exact plain (s:=⟨.ret undef,VE H r (.map KG clk'),n,[r],[r]⟩) (by simp[di,Zi,Rq,uu,hm,hk,hx,hl,hq])
    ·cases e
   ·cases e
  ·cases e
 ·-- nothing behind nothing
  split at e
  ·rename_i c Zi;split at e
   ·rename_i hcal;split at e
    ·rename_i s x t t' ha ht;cases htt:Lf t t' with
     |false=>rw[htt]at e;cases e
     |true=>
      rw[htt]at e;simp only[cond_true]at e;have htt:=YE htt;subst htt;split at e
      ·rename_i hs hx;split at e
       ·rename_i el hue;split at e
        ·rename_i z hz;simp only[YO]at e;subst e;have ea:c.args=#[s,x]:=by rw[<-ha]
         have et:c.argTypes=#[t,t]:=by rw[<-ht]
         refine⟨Km (fun c h=>by rw[Zi]at h;cases h) fun μ w ρ _ XT=> ?_,Shape.same _ _ _⟩;have h1:=T0 (v:=.slice none 0 0) rfl (XT s (by simp[Zi,Op.operands,Call.operands,hcal,ea]) _ hs);have h2:=T0 (v:=.slice none 0 0) rfl (XT x (by simp[Zi,Op.operands,Call.operands,hcal,ea]) _ hx);refine⟨.slice none 0 0, ?_,.Rk 0 0⟩;have hr:=qO (ty:=o.type) hue hz w;simp[execOp,Zi,resolve,hcal,invoke,builtin,ea,et,hr,h1,h2]
        ·cases e
       ·cases e
      ·cases e
    ·cases e
   ·cases e
  ·cases e
end
end Go.CE

namespace Go.CE
open Go Go.RowKit

def Qr:List Prop->Prop
 |[]=>True
 |p::l=>p/\Qr l
abbrev uJ:=List (Nat×Hint)
def told(sc:uJ)(q:Nat):Option Hint×uJ:=match sc with
 |(k,h)::l=>bif Lf k q then(some h,l)else(none,sc)
 |[]=>(none,[])
structure RR where
 Qz:List Rec
 T:Tm
 H:Qq
 n:Nat
 sc:uJ
 q:Nat
 L:List Prop
def more(p:Option Prop)(L:List Prop):List Prop:=match p with|some p=>p::L|none=>L
def O2(P:Program)(F:FuncId->Bool)(B:Lo)(ops:Array Oper):List Oper->Tm->Qq->Nat->uJ->Nat->List Prop->Option RR
 |[],T,H,n,sc,q,L=>some ⟨[],T,H,n,sc,q,L⟩
 |o::l,T,H,n,sc,q,L=>
  bif Rp T o.dst then
   bif Region.wanted o (XS ops T)then
    match told sc q with
    |(h,sc')=>match opH P F B T o H n h with
     |some ⟨⟨.ret v,H1,n1,R,W⟩,p⟩=>match O2 P F B ops l (VG T o.dst v) H1 n1 sc' (q+1) (more p L)with
      |some r=>some {r with Qz:=⟨o,true,v,T,H,H1,n,n1,R,W⟩::r.Qz}
      |none=>none
     |_=>none
   else match O2 P F B ops l (VG T o.dst undef) H n sc (q+1) L with
    |some r=>some {r with Qz:=⟨o,false,undef,T,H,H,n,n,[],[]⟩::r.Qz}
    |none=>none
  else none
inductive SR where
 |at (c:CF) (H:Qq) (n:Nat)
 |fin (out:OO) (H:Qq) (n:Nat)
structure ST where
 r:SR
 W:List Nat
 L:List Prop
def Mm(P:Program)(F:FuncId->Bool)(B:Lo)(c:CF)(H:Qq)(n:Nat)(f:Operand)(params:Array Tmp)(assign body:Code)(k:List Item)(keys:List Nat)(out:Value)(Yp:Qq)(n':Nat)(W:List Nat):Option (CF×Qq×Prop):=
 match Zd c.tmps f with
 |some fv=>match Ki c H n params assign body with
  |some (H1,l,ds,_)=>match Si F H1 fv #[.func (.yield l) #[] #[]]with
   |some (.enter g args,_)=>match Wa P g args with
    |some c1=>some ({c with todo:=.endRangeFunc l::k,defers:=ds++c.defers},Yp++H1,RJ P B c1 (keys.map fun k=>(k,Qt H1 k)) (l+1) out Yp n' W)
    |none=>none
   |_=>none
  |none=>none
 |none=>none
section
variable {P:Program} {F:FuncId->Bool} {B:Lo}
theorem hP{p:Option Prop}{L:List Prop}(h:Qr (more p L)):(∀x,p=some x->x)/\Qr L:=by
 cases p with
 |none=>exact⟨(fun x h=>by cases h),h⟩
 |some p=>exact⟨(fun x e=>by cases e;exact h.1),h.2⟩
theorem uj{c:CF}{H:Qq}{n:Nat}(Zl:P.follows .mixedOrders=true){id:Nat}{ops:Array Oper}{draw:Bool}{k:List Item}{Qz:List Rec}{T':Tm}{H':Qq}{n':Nat}(hm:c.mode=.run)
 (ht:c.todo=.code (.region id ops draw)::k) (hs:∀x∈Qz,dm c.tmps.len x) (hk:∀x∈Qz,Sl P B ops x) (Sw:Yn Qz c.tmps H n T' H' n') (hmap:Qz.map (·.o)=ops.toList) (hd:(!draw || (WY 0 ops.toList && indep ops 0 Qz (P3 ops.toList [])))=true):
 GoJ P B c H n {c with tmps:=T',todo:=k} H' n' (Y9 Qz) (Uc Qz):=by
 have hown:=KC (l:=ops.toList) (l2:=[]) (by rw[List.append_nil];exact hmap) rfl;have hlen:Qz.length=ops.size:=by have:=congrArg Lc hmap;simpa using this
 refine⟨Wb Qz _ _ _ _ _ _ Sw hs,fun S μ w fr cs Z QE hB hS hf XJ hR=> ?_⟩;obtain⟨a,b,d⟩:=XJ.running hm;rw[ht]at d;obtain⟨L',e,hL⟩:=d.code;cases draw with
 |false=>
  obtain⟨μ',A',w',hp,hT,ZB⟩:=cv (fr:=fr) (cs:=cs) (k:=L') a Qz 0 c.tmps H n T' H' n' [] Sw hs hk (fun j r hj=>by rw[LB];exact hown j r hj) rfl S μ w fr.tmps QE hB hS hf hR b;rw[List.append_nil,hlen]at ZB;exact⟨{fr with tmps:=A',todo:=L'},w',μ',hp,⟨XJ.fn,hT,fun _=>hL.mono (hp.mu hf),XJ.defers.mono (hp.mu hf),XJ.mode.mono (hp.mu hf),XJ.kind,XJ.round.mono (hp.mu hf)⟩,rfl,rfl,
   .head (Ww a e) (ZB.trans (.one (Uf a)))⟩
 |true=>
  simp only[Bool.not_true,Bool.false_or,YB]at hd;have hedge:∀(q:Nat) o,ops[q]? =some o->∀e∈o.after,Region.binds .any e=true->e.on<q:=by
   intro q o ho e he hb;have:=P0 ops.toList 0 hd.1 q o (by rw[Lr];exact ho) e he hb;omega
  have hbef:=uB ops.toList (fun q o ho=>hedge q o (by simpa using ho));have VE:Setup P B ops Qz (P3 ops.toList []) c.tmps H n T' H' n':=⟨Sw,hs,hown,hlen,by simpa using hbef.1,aw Qz _ 0 hd.2,hedge⟩
  obtain⟨μ',A',w',hp,hT,ZB⟩:=jz Zl VE hk QE hS hR hf hB (fr:=fr) (cs:=cs) (id:=id) (k:=L') a b e;exact⟨{fr with tmps:=A',todo:=L'},w',μ',hp,⟨XJ.fn,hT,fun _=>hL.mono (hp.mu hf),XJ.defers.mono (hp.mu hf),XJ.mode.mono (hp.mu hf),XJ.kind,XJ.round.mono (hp.mu hf)⟩,rfl,rfl,ZB⟩
def SRJ(P:Program)(B:Lo)(c:CF)(H:Qq)(n:Nat)(R W:List Nat):SR->Prop
 | .at c' H' n'=>GoJ P B c H n c' H' n' R W
 | .fin out H' n'=>FJ P B c H n out H' n' R W
theorem GoJ.srj{c c':CF}{H H':Qq}{n n':Nat}{R R' W W':List Nat}{r:SR}(h:GoJ P B c H n c' H' n' R W)(k:SRJ P B c' H' n' R' W' r):SRJ P B c H n (R++R') (W++W') r:=by
 cases r with
 | «at»=>exact h.trans k
 |fin=>exact h.fj k
theorem Aa(hF:∀g,F g=true->Q1 P g=true)(Zl:P.follows .mixedOrders=true){c c':CF}{H H':Qq}{n n':Nat}{f:Operand}{params:Array Tmp}{assign body:Code}{k:List Item}{keys W:List Nat}{out:Value}{Yp:Qq}{p:Prop}(hu:Under H n)(hm:c.mode=.run)(ht:c.todo=.code (.rangeFunc f params assign body)::k)
 (h:Mm P F B c H n f params assign body k keys out Yp n' W=some (c',H',p)) (hp:p):∃R,GoJ P B c H n c' H' n' R W:=by
 unfold Mm at h;split at h
 ·rename_i fv hfv;split at h
  ·rename_i H1 l ds R1 ho;split at h
   ·rename_i g args R2 hc;split at h
    ·rename_i c1 he;simp only[YO,YR]at h;obtain⟨rfl,rfl,rfl⟩:=h;have hu1:Under H1 (l+1):=hu.shape (bQ (P:=P) (B:=B) hu ho).1;have Vv:=RJ.recS hu1 hp;refine⟨R1++R2++keys, ?_⟩;have:Sb P F Xy (TM c1 H1 (l+1) ⟨.ret out,Yp++H1,n',keys,W⟩) c H n=some (.go {c with todo:=.endRangeFunc l::k,defers:=ds++c.defers} (Yp++H1) n' (R1++R2++keys) W):=by
      unfold Sb;simp only[hm,ht,hfv,ho,hc,he,S7]
     exact V0 hF Zl (QI P B) Vv hu this
    ·cases h
   ·cases h
  ·cases h
 ·cases h
end
end Go.CE
