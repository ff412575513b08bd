/- CE: calls whose arguments are known, at the level of worlds. -/
import Derived.Test.YtncjjangllkokaaZRR06
import Derived.Laws.StructEq
set_option linter.all false
open Nat renaming le_refl->Lr,beq->Le,ble->LC,blt->Lk,lt_or_ge->Ly,zero_add->Lv,ble_eq_true_of_le->Lx
open Option renaming map_some->Lz
open Array renaming mem_of_getElem? ->LB,getElem?_toList->Lj
open List renaming getElem?_eq_none->Lw,mem_cons_of_mem->Lh,mem_append_left->Lg,mem_append_right->Lp,mem_append->LP,range'->Ls,length->Lf,getElem?_append_right->Lm,getElem?_map->Lu
open Int renaming toNat_natCast->LK
namespace Go.CE
open Go Go.RowKit

def Xh:Wl:=fun _ _ _ _=>none
theorem Q7(P:Program)(B:Lo):ZK P B Xh:=fun _ _ _ _ _ _ h=>by cases h
noncomputable def kR(P:Program)(F:FuncId->Bool)(Xc:Wl)(fuel:Nat)(f:FuncId)(args:Array Value)(H:Qj)(n:Nat):Option Rs:=
 Option.rec none (fun c=>CF.rec (fun fn T todo ds mode ro=>CM.rec (Tm.rec (fun len tr=>Se P F Xc fuel n fn len tr todo ds ro H n [] []) T) none (fun _=>none) mode) c) (Z6 P f args)
theorem aa{P:Program}{F:FuncId->Bool}{Xc:Wl}{fuel:Nat}{f:FuncId}{args:Array Value}{H:Qj}{n:Nat}{s:Rs}(h:kR P F Xc fuel f args H n=some s):∃c,Z6 P f args=some c/\l8 P F Xc fuel n c H n [] []=some s:=by
 unfold kR at h;cases hc:Z6 P f args with
 |none=>rw[hc]at h;cases h
 |some c=>
  rw[hc]at h;obtain⟨fn,⟨len,tr⟩,todo,ds,mode,ro⟩:=c;cases mode with
  |run=>
   refine⟨_,rfl, ?_⟩;rw[<-kE,<-kF];exact h
  |ret=>cases h
  |Zj v=>cases h
theorem tW{P:Program}{F:FuncId->Bool}{Xc:Wl}{B:Lo}(Z5:ZK P B Xc)(hF:∀g,F g=true->Q0 P g=true)(X2:P.follows .mixedOrders=true){fuel:Nat}{f:FuncId}{args:Array Value}{H:Qj}{n:Nat}{s:Rs}(h:kR P F Xc fuel f args H n=some s)(hu:Under H n):Under s.H s.n:=by
 obtain⟨c,_,hr⟩:=aa h;obtain⟨Rr,Wr,hfj,_,_,_,_⟩:=Kn (B:=B) hF X2 Z5 fuel n c H n [] [] s hu (fun i hi=>by simp at hi) (fun i hi=>by simp at hi) hr;exact hu.shape hfj.shape
theorem oM{P:Program}{F:FuncId->Bool}{Xc:Wl}(hF:∀g,F g=true->Q0 P g=true)(X2:P.follows .mixedOrders=true){fuel:Nat}{f:FuncId}{args args':Array Value}{H:Qj}{n:Nat}{s:Rs}(h:kR P F Xc fuel f args H n=some s)(hu:Under H n){w:World}{μ:Mu}
 {I:World->Prop} {hI:∀w1 w2:World,(∀b,b<w.heap.size->w2.heap[b]? =w1.heap[b]?)->I w1->I w2} (Z5:ZK P ⟨w.heap.size,I,hI⟩ Xc) (hi:I w) (Q5:Ok w.heap.size (fun i=>i<n) μ (Qo H) w) (hv:VRs μ args args') (hf:∀i,n<=i->μ i=none):
 Calls P f args' w fun e w'=> ∃XB μ',Post w.heap.size (fun i=>i<n) n s.n s.W μ μ' H s.H w w'/\OR2 μ' s.out XB/\e=XB.ending:=by
 obtain⟨c,hc,hr⟩:=aa h;obtain⟨Rr,Wr,hfj,a1,a2,a3,a4⟩:=Kn (B:=⟨w.heap.size,I,hI⟩) hF X2 Z5 fuel n c H n [] [] s hu (fun i hi=>by simp at hi) (fun i hi=>by simp at hi) hr;have hfj:=hfj.lists (fun i hi=>by simpa using a1 i hi) (fun i hi=>by simpa using a2 i hi) a4;intro cs;obtain⟨XB,w',μ',hp,ho,he⟩:=hfj.sem _ μ w _ cs Q5 ⟨Lr _,hi⟩ (fun _ hi=>hi) (fun i hi _=>hf i hi) (VD hc hv) (fun i _ hi=>hi);obtain⟨frE,h1,h2,h3⟩:=he.1 rfl;refine⟨XB.ending,w',frE,⟨XB,μ',hp,ho,rfl⟩, ?_,h2,h3⟩;cases XB with
 |ret v=>exact h1
 |Zj v=>exact h1
def H7(w:World)(XM off:Nat)(cs:Array Value):Prop:=XM<w.heap.size/\∀(i:Nat) v,cs[i]? =some v->w.cell? ⟨XM,off+i,none⟩=some v
def r9(l:List (Nat×Nat)):Mu:=fun i=>(l[i]?).map fun x=>⟨x.1,x.2,0,false,Rg⟩
def Jr(i:Nat):List (Array Value×TypeId)->Qj
 |[]=>[]
 |(cs,t)::l=>(i,.cells cs t (1,1))::Jr (i+1) l
theorem Sd:∀(l:List (Array Value×TypeId)) (i k:Nat),Qo (Jr i l) k=if i<=k then(l[k-i]?).map fun x=>.cells x.1 x.2 (1,1)else none
 |[],i,k=>by simp[Jr,Qo]
 |(cs,t)::l,i,k=>by
  simp only[Jr];rw[QL,Sd l (i+1) k];by_cases e:k=i
  ·subst e;simp
  ·rw[if_neg e];by_cases h:i<=k
   ·rw[if_pos h,if_pos (by omega),show k-i=(k-(i+1))+1 by omega];simp
   ·rw[if_neg h,if_neg (by omega)]
theorem Er{w:World}{l:List (Array Value×TypeId)}{at':List (Nat×Nat)}(hl:at'.length=l.length)(h:∀(i:Nat) x a,l[i]? =some x->at'[i]? =some a->H7 w a.1 a.2 x.1/\x.1.all af=true):Ok w.heap.size (fun i=>i<l.length) (r9 at') (Qo (Jr 0 l)) w:=by
 have key:∀i o,i<l.length->Qo (Jr 0 l) i=some o->∃x a,l[i]? =some x/\at'[i]? =some a/\o=.cells x.1 x.2 (1,1):=by
  intro i o hi ho;rw[Sd,if_pos (Nat.zero_le _),Nat.sub_zero]at ho;have h1:l[i]? =some l[i]:=by simp[hi]
  have h2:at'[i]? =some (at'[i]'(by omega)):=by simp[hl ▸ hi]
  rw[h1]at ho;simp only[Lz,YO]at ho;exact⟨_,_,h1,h2,ho.symm⟩
 refine⟨fun i o hi ho _=> ?_,fun i o im hi ho _ Q3=> ?_,fun i j oi oj a b hi hj _ Z0 _ _ _ ha _ hra _=> ?_,fun i o hi ho hr=> ?_,fun i j oi oj a b x hi hj Z0 Zz hr=> ?_⟩
 ·obtain⟨x,a,h1,h2,rfl⟩:=key i o hi ho;obtain⟨⟨_,hc⟩,haf⟩:=h i x a h1 h2;refine⟨⟨a.1,a.2,0,false,Rg⟩,by simp[r9,h2],.inr ⟨by simp,fun k v hv=>⟨v,hc k v hv,Yn (Array.all_eq_true'.1 haf v (LB hv))⟩⟩⟩
 ·obtain⟨x,a,h1,h2,rfl⟩:=key i o hi ho;simp only[r9,h2,Lz,YO]at Q3;subst Q3;exact⟨(h i x a h1 h2).1.1,(fun h=>by cases h),fun _=>(h i x a h1 h2).1.1⟩
 ·obtain⟨x,q,h1,h2,_⟩:=key i oi hi Z0;simp only[r9,h2,Lz,YO]at ha;subst ha;cases hra
 ·obtain⟨x,a,_,_,rfl⟩:=key i o hi ho;exact hr.elim
 ·obtain⟨x,a,_,_,rfl⟩:=key i oi hi Z0;exact hr.elim
theorem ai(l:List (Array Value×TypeId)):Under (Jr 0 l) l.length:=by
 intro i hi;rw[Sd,if_pos (Nat.zero_le _),Nat.sub_zero,Lw (by omega)];rfl
theorem zo{at':List (Nat×Nat)}:∀i,at'.length<=i->r9 at' i=none:=fun i hi=>by simp[r9,Lw hi]
end Go.CE

namespace Go.CE
open Go Go.RowKit

def CV(p:Value->Value->Bool):List Value->List Value->Bool
 |[],[]=>true
 |x::l,y::m=>p x y && CV p l m
 |_,_=>false
theorem UE{p:Value->Value->Bool}(hp:∀x y,p x y=true->x=y):∀(l m:List Value),CV p l m=true->l=m
 |[],[],_=>rfl
 |x::l,y::m,h=>by
  simp only[CV,YB]at h;rw[hp x y h.1,UE hp l m h.2]
 |[],_::_,h=>by cases h
 |_::_,[],h=>by cases h
def ES:List UInt8->List UInt8->Bool
 |[],[]=>true
 |x::l,y::m=>Le x.toNat y.toNat && ES l m
 |_,_=>false
theorem kL:∀(l m:List UInt8),ES l m=true->l=m
 |[],[],_=>rfl
 |x::l,y::m,h=>by
  simp only[ES,YB]at h;rw[UInt8.toNat_inj.1 (YE h.1),kL l m h.2]
 |[],_::_,h=>by cases h
 |_::_,[],h=>by cases h
def G5:Value->Value->Bool
 | .bool a,.bool b=>a==b
 | .int k a,.int l b=>decide (k=l) && Jv a b
 | .slice (some ⟨a,o,none⟩) n s,.slice (some ⟨b,p,none⟩) m t=>Le a b && Le o p && Le n m && Le s t
 | .slice none n s,.slice none m t=>Le n m && Le s t
 | .string a,.string b=>ES a.data.toList b.data.toList
 | .pointer (some ⟨a,o,none⟩),.pointer (some ⟨b,p,none⟩)=>Le a b && Le o p
 | .func (.func g) x y,.func (.func g') x' y'=>Le g g' && (Le x.toList.length 0 && (Le y.toList.length 0 && (Le x'.toList.length 0 && Le y'.toList.length 0)))
 |_,_=>false
theorem CT{a b:Int}(h:Jv a b=true):a=b:=by
 rw[cD]at h;simpa using h
theorem kJ(x y:Value)(h:G5 x y=true):x=y:=by
 unfold G5 at h;split at h
 ·simp only[beq_iff_eq]at h;rw[h]
 ·simp only[YB,decide_eq_true_eq]at h;rw[h.1,CT h.2]
 ·simp only[YB]at h;obtain⟨⟨⟨h1,h2⟩,h3⟩,h4⟩:=h;rw[YE h1,YE h2,YE h3,YE h4]
 ·simp only[YB]at h;rw[YE h.1,YE h.2]
 ·rename_i a b;obtain⟨a⟩:=a;obtain⟨b⟩:=b;simp only at h;rw[Array.ext' (kL _ _ h)]
 ·simp only[YB]at h;rw[YE h.1,YE h.2]
 ·rename_i x y _ x' y';simp only[YB,Nat.beq_eq]at h;obtain⟨h1,h2,h3,h4,h5⟩:=h;have e:∀z:Array Value,z.toList.length=0->z=#[]:=fun z hz=>by
   have:=List.eq_nil_of_length_eq_zero hz;exact Array.ext' this
  rw[h1,e x h2,e y h3,e x' h4,e y' h5]
 ·cases h
def z6:Nat->Value->Value->Bool
 |f+1,.agg x,.agg y=>CV (z6 f) x.toList y.toList
 |f+1,.tuple x,.tuple y=>CV (z6 f) x.toList y.toList
 |_,x,y=>G5 x y
theorem VO:∀(f:Nat) (x y:Value),z6 f x y=true->x=y
 |0,x,y,h=>kJ x y (by simpa[z6]using h)
 |f+1,x,y,h=>by
  unfold z6 at h;split at h
  ·rename_i f' a b e;cases e;rw[Array.ext' (UE (VO f) _ _ h)]
  ·rename_i f' a b e;cases e;rw[Array.ext' (UE (VO f) _ _ h)]
  ·exact kJ _ _ h
def tC(H:Qj)(x:Nat×Array Value×TypeId):Bool:=match Qo H x.1 with
 |some (.cells ds t (0,0))=>CV (z6 1) ds.toList x.2.1.toList && Le t x.2.2
 |_=>false
def xd(x:Option Rs)(out:Value)(bs:List (Nat×Array Value×TypeId)):Bool:=match x with
 |some ⟨.ret v,H,_,_,[]⟩=>z6 3 v out && bs.all (tC H)
 |_=>false
theorem vZ{x:Option Rs}{out:Value}{bs:List (Nat×Array Value×TypeId)}(h:xd x out bs=true):∃s,x=some s/\s.out=.ret out/\s.W=[]/\∀y∈bs,Qo s.H y.1=some (.cells y.2.1 y.2.2 (0,0)):=by
 unfold xd at h;split at h
 ·rename_i v H n R;simp only[YB]at h;refine⟨_,rfl,by rw[VO 3 _ _ h.1],rfl,fun y hy=> ?_⟩;have:=List.all_eq_true.1 h.2 y hy;unfold tC at this;split at this
  ·rename_i ds t hg;simp only[YB]at this;have e1:=Array.ext' (UE (VO 1) _ _ this.1);have e2:=YE this.2;simp only;rw[hg,e1,e2]
  ·cases this
 ·cases h
theorem zA{P:Program}{F:FuncId->Bool}{Xc:Wl}(hF:∀g,F g=true->Q0 P g=true)(X2:P.follows .mixedOrders=true){fuel:Nat}{f:FuncId}{args args':Array Value}{l:List (Array Value×TypeId)}{at':List (Nat×Nat)}{out:Value}{bs:List (Nat×Array Value×TypeId)}
 (h:xd (kR P F Xc fuel f args (Jr 0 l) l.length) out bs=true) {w:World} {I:World->Prop} {hI:∀w1 w2:World,(∀b,b<w.heap.size->w2.heap[b]? =w1.heap[b]?)->I w1->I w2} (Z5:ZK P ⟨w.heap.size,I,hI⟩ Xc) (hi:I w) (hl:at'.length=l.length) (hlies:∀(i:Nat) x a,l[i]? =some x->at'[i]? =some a->H7 w a.1 a.2 x.1/\x.1.all af=true) (hv:VRs (r9 at') args args'):
 Calls P f args' w fun e w'=> ∃v' n' H' μ',e=.returned v'/\Post w.heap.size (fun i=>i<l.length) l.length n' [] (r9 at') μ' (Jr 0 l) H' w w'/\VR μ' out v'/\(∀y∈bs,Qo H' y.1=some (.cells y.2.1 y.2.2 (0,0)))/\Under H' n'/\Below w.heap.size w w':=by
 obtain⟨s,hs,ho,hW,hb⟩:=vZ h;obtain hc:=oM hF X2 hs (ai l) Z5 hi (Er hl hlies) hv (fun i hi=>zo i (by omega));intro cs;obtain⟨e,w',fr,⟨XB,μ',hp,Zu,he⟩,h1,h2,h3⟩:=hc cs;refine⟨e,w',fr, ?_,h1,h2,h3⟩;rw[ho]at Zu;rw[hW]at hp;cases Zu with
 |ret Wt=>exact⟨_,s.n,s.H,μ',he,hp,Wt,hb,tW Z5 hF X2 hs (ai l),⟨hp.os,hp.tape,hp.output,hp.grow,fun b hb=>hp.frame b hb fun i hi=>by simp at hi⟩⟩
end Go.CE

namespace Go.CE
open Go Go.RowKit

def CU:Obj->Obj->Bool
 | .cells a t (x,y),.cells b u (z,v)=>CV (z6 1) a.toList b.toList && Le t u && Le x z && Le y v
 |_,_=>false
theorem tL{a b:Obj}(h:CU a b=true):a=b:=by
 unfold CU at h;split at h
 ·simp only[YB]at h;obtain⟨⟨⟨h1,h2⟩,h3⟩,h4⟩:=h;rw[Array.ext' (UE (VO 1) _ _ h1),YE h2,YE h3,YE h4]
 ·cases h
def hasAll(H:Qj):Qj->Bool
 |[]=>true
 |(i,o)::l=>(match Qo H i with|some x=>CU x o|none=>false) && hasAll H l
theorem KU{H:Qj}:∀{l:Qj},hasAll H l=true->∀i o,Qo l i=some o->Qo H i=some o
 |[],_,i,o,ho=>by cases ho
 |(k,x)::l,h,i,o,ho=>by
  simp only[hasAll,YB]at h;rw[QL]at ho;by_cases e:i=k
  ·subst e;rw[if_pos rfl]at ho;simp only[YO]at ho;subst ho;have h1:=h.1;split at h1
   ·rename_i y hy;rw[hy,tL h1]
   ·cases h1
  ·rw[if_neg e]at ho;exact KU h.2 i o ho
structure Memo where
 g:FuncId
 args:Array Value
 H0:Qj
 n:Nat
 out:Value
 news:Qj
 n':Nat
def within(n n':Nat)(l:Qj):Bool:=l.all fun x=>LC n x.1 && Lk x.1 n'
def QF(m:Memo)(x:Option Rs):Bool:=match x with
 |some ⟨.ret v,H,n',R,[]⟩=>z6 3 v m.out && Le n' m.n' && hasAll H m.news && within m.n m.n' m.news && within 0 m.n m.H0 && R.all (fun i=>LC m.n i || (Qo m.H0 i).isSome)
 |_=>false
noncomputable def Memo.run(P:Program)(F:FuncId->Bool)(Xc:Wl)(fuel:Nat)(m:Memo):Option Rs:=kR P F Xc fuel m.g m.args m.H0 m.n
def X1:List Memo->Wl
 |[],_,_,_,_=>none
 |m::l,g,args,H,n=>bif Le m.n n && Le m.g g && CV (z6 1) args.toList m.args.toList && hasAll H m.H0 then some ⟨.ret m.out,m.news++H,m.n',m.H0.map (·.1),[]⟩else X1 l g args H n
theorem Zo:∀(l H:Qj) (i:Nat),Qo (l++H) i=match Qo l i with|some o=>some o|none=>Qo H i
 |[],H,i=>rfl
 |(k,o)::l,H,i=>by
  rw[List.cons_append,QL,QL];by_cases e:i=k
  ·rw[if_pos e,if_pos e]
  ·rw[if_neg e,if_neg e];exact Zo l H i
theorem ab{n n':Nat}:∀{l:Qj},within n n' l=true->∀i o,Qo l i=some o->n<=i/\i<n'
 |[],_,i,o,ho=>by cases ho
 |(k,x)::l,h,i,o,ho=>by
  simp only[within,List.all_cons,YB]at h;rw[QL]at ho;by_cases e:i=k
  ·subst e;exact⟨YL h.1.1,YL h.1.2⟩
  ·rw[if_neg e]at ho;exact ab h.2 i o ho
theorem Wi{n n':Nat}{l:Qj}(h:within n n' l=true){i:Nat}(hi:i<n\/n'<=i):Qo l i=none:=by
 cases hg:Qo l i with
 |none=>rfl
 |some o=>have:=ab h i o hg;omega
theorem bG{l:Qj}{i:Nat}{o:Obj}(h:Qo l i=some o):i∈l.map (·.1):=by
 induction l with
 |nil=>cases h
 |cons p l ih=>
  obtain⟨k,x⟩:=p;rw[QL]at h;by_cases e:i=k
  ·subst e;simp
  ·rw[if_neg e]at h;exact Lh _ (ih h)
theorem dH{m:Memo}{x:Option Rs}(h:QF m x=true):∃H R,x=some ⟨.ret m.out,H,m.n',R,[]⟩/\(∀i o,Qo m.news i=some o->Qo H i=some o)/\within m.n m.n' m.news=true/\within 0 m.n m.H0=true/\∀i∈R,i<m.n->∃o,Qo m.H0 i=some o:=by
 unfold QF at h;split at h
 ·rename_i v H n' R;simp only[YB]at h;obtain⟨⟨⟨⟨⟨h1,h2⟩,h3⟩,h4⟩,h5⟩,h6⟩:=h;refine⟨H,R,by rw[VO 3 _ _ h1,YE h2],KU h3,h4,h5,fun i hi hl=> ?_⟩;have:=List.all_eq_true.1 h6 i hi;simp only[Bool.or_eq_true]at this;rcases this with h|h
  ·have:=YL h;omega
  ·exact Option.isSome_iff_exists.1 h
 ·cases h
theorem QI{P:Program}{F:FuncId->Bool}{Xc:Wl}{B:Lo}(hF:∀g,F g=true->Q0 P g=true)(X2:P.follows .mixedOrders=true)(Z5:ZK P B Xc){fuel:Nat}{m:Memo}{l:List Memo}(hm:QF m (m.run P F Xc fuel)=true)(hl:ZK P B (X1 l)):ZK P B (X1 (m::l)):=by
 intro g args H n s hu h;simp only[X1]at h;cases hq:(Le m.n n && Le m.g g && CV (z6 1) args.toList m.args.toList && hasAll H m.H0)with
 |false=>
  rw[hq]at h;exact hl g args H n s hu h
 |true=>
  rw[hq]at h;simp only[cond_true,YO]at h;simp only[YB]at hq;obtain⟨⟨⟨q1,q2⟩,q3⟩,q4⟩:=hq;obtain rfl:=YE q1;obtain rfl:=YE q2;obtain rfl:=Array.ext' (UE (VO 1) _ _ q3);have hH:=KU q4;subst h;obtain⟨Hs,R,Vc,hnews,hw,hw0,hR0⟩:=dH hm;obtain⟨c,hc,hr⟩:=aa Vc;have hu0:Under m.H0 m.n:=fun i hi=>Wi hw0 (.inr hi)
  obtain⟨Rr,Wr,hfj,a1,a2,a3,a4⟩:=Kn (B:=B) hF X2 Z5 fuel m.n c m.H0 m.n [] [] _ hu0 (fun i hi=>by simp at hi) (fun i hi=>by simp at hi) hr;have hfj:=hfj.lists (fun i hi=>by simpa using a1 i hi) (fun i hi=>by simpa using a2 i hi) a4;have hle:m.n<=m.n':=hfj.shape.le;have J2:∀i,i<m.n\/m.n'<=i->Qo (m.news++H) i=Qo H i:=fun i hi=>by
   rw[Zo,Wi hw hi]
  have Kw:∀i o,m.n<=i->Qo (m.news++H) i=some o->Qo Hs i=some o:=by
   intro i o h1 h2;rw[Zo]at h2;cases hg:Qo m.news i with
   |some x=>
    rw[hg]at h2;rw[hnews i x hg];exact h2
   |none=>
    rw[hg,hu i h1]at h2;cases h2
  refine⟨⟨hle,fun i hi _=>J2 i (.inl hi),fun i hi=>J2 i (.inr hi),fun _ h=>by simp at h,fun _ h=>by simp at h⟩,fun S μ w args' cs Q5 hB hS hf hv hR=> ?_⟩;simp only at hf hR ⊢;have hok0:Ok B (fun i=>S i/\∃o,Qo m.H0 i=some o) μ (Qo m.H0) w:=by
   refine⟨fun i o hi ho hl=>Q5.rel i o hi.1 (hH i o ho) hl,fun i o im hi ho hl=>Q5.low i o im hi.1 (hH i o ho) hl,fun i j oi oj a b hi hj Jd Z0 Zz=>Q5.inj i j oi oj a b hi.1 hj.1 Jd (hH i oi Z0) (hH j oj Zz),
    fun i o hi ho=>Q5.KI i o hi.1 (hH i o ho),fun i j oi oj a b x hi hj Z0 Zz=>Q5.sep i j oi oj a b x hi.1 hj.1 (hH i oi Z0) (hH j oj Zz)⟩
  obtain⟨XB,w',μ',hp,ho,he⟩:=hfj.sem _ μ w _ cs hok0 hB (fun i hi=>hS i hi.1) hf (VD hc hv) (fun i hi hl=>by
   obtain⟨o,ho⟩:=hR0 i hi hl;exact⟨hR i (bG ho) hl,o,ho⟩)
  simp only at hp ho;have hold:∀i im,S i->μ i=some im->μ' i=some im:=fun i im hi h=>by
   have:=hS i hi;rw[hp.ext i (by omega)];exact h
  have hext:Ext μ μ':=hp.mu hf;have Xr:∀i im o,m.n<=i->i<m.n'->Qo (m.news++H) i=some o->live o->μ' i=some im->im.rw=true/\w.heap.size<=im.XM:=by
   intro i im o h1 h2 h3 h4 h5;obtain⟨x,y⟩:=hp.fresh i im o h1 h2 (Kw i o h1 h3) h4 h5;exact⟨x,y.elim id fun⟨k,hk,_⟩=>by simp at hk⟩
  have hOld:∀i o,S i->Qo (m.news++H) i=some o->live o->∃im,μ i=some im/\μ' i=some im/\Qo H i=some o/\im.XM<w.heap.size:=by
   intro i o hi ho hl;have:=hS i hi;rw[J2 i (.inl this)]at ho;obtain⟨im,Q3,_⟩:=Q5.rel i o hi ho hl;exact⟨im,Q3,hold i im hi Q3,ho,(Q5.low i o im hi ho hl Q3).1⟩
  refine⟨XB,w',μ',⟨⟨fun i o hi ho hl=> ?_,fun i o im hi ho hl Q3=> ?_,fun i j oi oj a b hi hj Jd Z0 Zz PT Vl ha hb hra WX=> ?_,fun i o hi ho hr=> ?_,fun i j oi oj a b x hi hj Z0 Zz KL Vl ha hb WX hx=> ?_⟩,hle,hp.ext,fun i hi _=>J2 i (.inl hi),hp.grow,fun b hb _=>hp.frame b hb fun i hi=>by simp at hi,fun i hi=>by simp at hi,
   fun i im o h1 h2 h3 h4 h5=>⟨(Xr i im o h1 h2 h3 h4 h5).1,.inl (Xr i im o h1 h2 h3 h4 h5).2⟩,fun i im o hi ho hr hm b x hx=> ?_,hp.os,hp.tape,hp.output⟩,ho,he⟩
  ·rcases hi with hi|hi
   ·obtain⟨im,Q3,QG,Un,QX⟩:=hOld i o hi ho hl;obtain⟨im2,ZJ,hr2⟩:=Q5.rel i o hi Un hl;rw[Q3]at ZJ;cases ZJ;exact⟨im,QG,hr2.keep hext (hp.frame _ QX fun i hi=>by simp at hi)⟩
   ·exact hp.ok.rel i o (.inr hi) (Kw i o hi.1 ho) hl
  ·rcases hi with hi|hi
   ·obtain⟨im2,ZJ,QG,Un,QX⟩:=hOld i o hi ho hl;rw[Q3]at QG;cases QG;exact⟨Nat.lt_of_lt_of_le QX hp.grow,(Q5.low i o im hi Un hl ZJ).2⟩
   ·exact hp.ok.low i o im (.inr hi) (Kw i o hi.1 ho) hl Q3
  ·rcases hi with hi|hi <;> rcases hj with hj|hj
   ·obtain⟨im,h1,h2,h3,_⟩:=hOld i oi hi Z0 PT;obtain⟨jm,k1,k2,k3,_⟩:=hOld j oj hj Zz Vl;rw[ha]at h2;cases h2;rw[hb]at k2;cases k2;exact Q5.inj i j oi oj a b hi hj Jd h3 k3 PT Vl h1 k1 hra WX
   ·obtain⟨im,h1,h2,h3,h4⟩:=hOld i oi hi Z0 PT;rw[ha]at h2;cases h2;have:=(Xr j b oj hj.1 hj.2 Zz Vl hb).2;omega
   ·obtain⟨im,h1,h2,h3,h4⟩:=hOld j oj hj Zz Vl;rw[hb]at h2;cases h2;have:=(Xr i a oi hi.1 hi.2 Z0 PT ha).2;omega
   ·exact hp.ok.inj i j oi oj a b (.inr hi) (.inr hj) Jd (Kw i oi hi.1 Z0) (Kw j oj hj.1 Zz) PT Vl ha hb hra WX
  ·rcases hi with hi|hi
   ·have:=hS i hi;rw[J2 i (.inl this)]at ho;obtain⟨im,Q3,hf⟩:=Q5.KI i o hi ho hr;exact⟨im,hold i im hi Q3,fun b x hx=>by rw[hp.frame b (KH Q5 hi ho hr Q3 hx) fun i hi=>by simp at hi];exact hf b x hx⟩
   ·exact hp.ok.KI i o (.inr hi) (Kw i o hi.1 ho) hr
  ·have oldR:∀i oi a,S i->Qo (m.news++H) i=some oi->μ' i=some a->Z9 oi->Qo H i=some oi/\μ i=some a:=by
    intro i oi a hi Z0 ha hr;have:=hS i hi;rw[J2 i (.inl this)]at Z0;rw[hp.ext i (by omega)]at ha;exact⟨Z0,ha⟩
   rcases hi with hi|hi <;> rcases hj with hj|hj
   ·obtain⟨h1,h2⟩:=oldR i oi a hi Z0 ha KL;obtain⟨jm,k1,k2,k3,_⟩:=hOld j oj hj Zz Vl;rw[hb]at k2;cases k2;exact Q5.sep i j oi oj a b x hi hj h1 k3 KL Vl h2 k1 WX hx
   ·obtain⟨h1,h2⟩:=oldR i oi a hi Z0 ha KL;have:=(Xr j b oj hj.1 hj.2 Zz Vl hb).2;have:=KH Q5 hi h1 KL h2 hx;omega
   ·obtain⟨jm,k1,k2,k3,k4⟩:=hOld j oj hj Zz Vl;rw[hb]at k2;cases k2;rcases hp.rf i a oi (.inl hi) (Kw i oi hi.1 Z0) KL ha b.XM x hx with e|⟨k,Vk,ko,hSk,_,hko,hkr,hkm,hkb⟩|⟨k,hk,_⟩
    ·omega
    ·exact Q5.sep k j ko oj Vk b x hSk.1 hj (hH k ko hko) k3 hkr Vl hkm k1 WX hkb
    ·simp at hk
   ·exact hp.ok.sep i j oi oj a b x (.inr hi) (.inr hj) (Kw i oi hi.1 Z0) (Kw j oj hj.1 Zz) KL Vl ha hb WX hx
  ·have Jc:m.n<=i/\i<m.n':=hi.elim id fun h=>by simp at h
   rcases hp.rf i im o (.inl Jc) (Kw i o Jc.1 ho) hr hm b x hx with e|⟨k,Vk,ko,hSk,hkn,hko,c⟩|⟨k,hk,_⟩
   ·exact .inl e
   ·exact .inr (.inl ⟨k,Vk,ko,hSk.1,hkn,hH k ko hko,c⟩)
   ·simp at hk
theorem XC(P:Program)(B:Lo):ZK P B (X1 []):=fun _ _ _ _ _ _ h=>by cases h
end Go.CE

namespace Go.CE
open Go Go.RowKit
noncomputable section

section
variable {P:Program} {fr:Frame} {cs:List Frame} {w:World} {A:Array Value} {ops:Array Oper} {i:Nat} {l:List Nat} {k:List Item} {o:Oper}
theorem step_defer{c:Call}{f:Operand}{d:Deferred}(hm:fr.mode=.run)(hr:fr.roundOf=none)(ho:ops[i]? =some o)(hw:Region.wanted o (yielded ops A)=true)(XF:o.op=.defer c)(hc:c.callee=.value f)
 (hd:(Deferred.ofValue ((QU fr A ops (i::l) k).eval f) (c.args.map (QU fr A ops (i::l) k).eval)).run P w=.ok d w):
 step P (lone (QU fr A ops (i::l) k) cs w)=.next (lone {(QU fr A ops (i::l) k).finish undef with defers:=d::fr.defers} cs w):=by
 refine step_lone_go ?_;have he:(QU fr A ops (i::l) k).oper? =some o:=by simp[Frame.oper?,QU,ho]
 simp only[stepG,show(QU fr A ops (i::l) k).mode=.run from hm];unfold stepG.exec;simp only[QU,ho,Lz,hw,Option.getD_some,if_true];unfold stepG.oper;simp only[Frame.oper?,ho,hr];unfold stepG.apply;simp only[QU,hr]at hd;simp[execOp,XF,resolve,hc,hd,Sem.runT_eq,Frame.finish,ho]
theorem nb{cal:Frame}{c:Call}{v:Value}(hm:fr.mode=.run)(hk:fr.kind=.deferred)(hr:fr.roundOf=none)(ho:ops[i]? =some o)(hw:Region.wanted o (yielded ops A)=true)(XF:o.op=.call c)(hc:c.callee=.builtin .recover)(ha:c.args=#[])
 (hcal:cal.mode=.panicking [{v,recovered:=false}]):
 step P (lone (QU fr A ops (i::l) k) (cal::cs) w)=.next (lone ((QU fr A ops (i::l) k).finish v) ({cal with mode:=.panicking [{v,recovered:=true}]}::cs) w):=by
 refine step_lone_go ?_;simp only[stepG,show(QU fr A ops (i::l) k).mode=.run from hm];unfold stepG.exec;simp only[QU,ho,Lz,hw,Option.getD_some,if_true];unfold stepG.oper;simp only[Frame.oper?,ho,hr];unfold stepG.apply;simp[execOp,XF,resolve,hc,ha,invoke,builtin,Sem.runT_eq,tryRecover,hk,hcal,Frame.finish,ho]
theorem bR{cal:Frame}{c:Call}(hm:fr.mode=.run)(hr:fr.roundOf=none)(ho:ops[i]? =some o)(hw:Region.wanted o (yielded ops A)=true)(XF:o.op=.call c)(hc:c.callee=.builtin .recover)(ha:c.args=#[])(hk:fr.kind=.deferred)
 (hcal:cal.mode=.returning):
 step P (lone (QU fr A ops (i::l) k) (cal::cs) w)=.next (lone ((QU fr A ops (i::l) k).finish .nilIface) (cal::cs) w):=by
 refine step_lone_go ?_;simp only[stepG,show(QU fr A ops (i::l) k).mode=.run from hm];unfold stepG.exec;simp only[QU,ho,Lz,hw,Option.getD_some,if_true];unfold stepG.oper;simp only[Frame.oper?,ho,hr];unfold stepG.apply;simp[execOp,XF,resolve,hc,ha,invoke,builtin,Sem.runT_eq,tryRecover,hk,hcal,Frame.finish,ho]
theorem Yr{g:FuncId}{args:Array Value}{d:Deferred}{ds:List Deferred}{fn:Fn}{ys:Array Value}(hm:fr.mode≠.run)(hd:fr.defers=d::ds)(ht:d.target=.fn fn ys)(hi:(invoke d.target d.args).run P w=.ok (.enter g args) w):
 step P (lone fr cs w)=.next (lone (Frame.enter P g args .deferred) ({fr with defers:=ds}::cs) w):=by
 obtain⟨t,a⟩:=d;simp only at ht;subst ht;refine step_lone_go ?_;cases hmode:fr.mode with
 |run=>exact absurd hmode hm
 |returning=>simp[stepG,unwind,hd,callDeferred,hmode,Sem.runT_eq,hi]
 |panicking ch=>simp[stepG,unwind,hd,callDeferred,hmode,Sem.runT_eq,hi]
def D0(cal:Frame):Frame:=match cal.mode with
 | .panicking [{recovered:=true,..}]=>{cal with mode:=.returning}
 |_=>cal
theorem ao{cal:Frame}{fn:Func}{v:Value}(hm:fr.mode=.returning)(hd:fr.defers=[])(hk:fr.kind=.deferred)(hf:P.funcs[fr.fn]? =some fn)(hr:(results fn fr.tmps).run P w=.ok v w)
 (hcal:cal.mode=.returning\/∃v,cal.mode=.panicking [{v,recovered:=true}]):
 step P (lone fr (cal::cs) w)=.next (lone {cal with mode:=.returning} cs w):=by
 refine step_lone_go ?_;rcases hcal with h|⟨v,h⟩
 ·have:cal={cal with mode:=.returning}:=by cases cal;simp_all
  rw[<-this];simp[stepG,unwind,doReturn,hm,hd,hk,hf,Sem.runT_eq,hr,h]
 ·simp[stepG,unwind,doReturn,hm,hd,hk,hf,Sem.runT_eq,hr,h]
end

def Gw(o:Oper):Bool:=match o.op with
 | .defer _=>true
 | .call c=>match c.callee with
   | .builtin .recover=>true
   |_=>false
 |_=>false
def Ss:List Oper->List Oper×List Oper
 |[]=>([],[])
 |o::l=>bif Gw o then([],o::l)else(o::(Ss l).1,(Ss l).2)
theorem fS:∀l:List Oper,(Ss l).1++(Ss l).2=l
 |[]=>rfl
 |o::l=>by
  simp only[Ss];cases Gw o with
  |true=>rfl
  |false=>simp[fS l]
def Af(P:Program)(F:FuncId->Bool)(Xc:Wl)(fuel:Nat):CF->Qj->Nat->Option Rs:=fun c H n=>
 CF.rec (fun fn T todo ds mode ro=>CM.rec (Tm.rec (fun len tr=>Se P F Xc fuel n fn len tr todo ds ro H n [] []) T) none (fun _=>none) mode) c
theorem T5{P:Program}{F:FuncId->Bool}{Xc:Wl}{B:Lo}(hF:∀g,F g=true->Q0 P g=true)(X2:P.follows .mixedOrders=true)(Z5:ZK P B Xc)(fuel:Nat):cP P B (Af P F Xc fuel):=by
 intro c H n s hu h;have hr:l8 P F Xc fuel n c H n [] []=some s:=by
  unfold Af at h;obtain⟨fn,⟨len,tr⟩,todo,ds,mode,ro⟩:=c;cases mode with
  |run=>
   rw[<-kE,<-kF];exact h
  |ret=>cases h
  |Zj v=>cases h
 obtain⟨Rr,Wr,hfj,a1,a2,a3,a4⟩:=Kn hF X2 Z5 fuel n c H n [] [] s hu (fun i hi=>by simp at hi) (fun i hi=>by simp at hi) hr;exact hfj.lists (fun i hi=>by simpa using a1 i hi) (fun i hi=>by simpa using a2 i hi) a4
structure MS where
 c:CF
 H:Qj
 n:Nat
 R:List Nat
 W:List Nat
def G9(c:CF):Bool:=match c.todo with
 | .code (.region _ ops false)::_=>ops.toList.any Gw
 |_=>false
def iW(P:Program)(F:FuncId->Bool)(Xc:Wl)(fu:Nat)(b:Nat):Nat->MS->Option MS
 |0,_=>none
 |k+1,m=>
  bif (match m.c.mode with| .run=>G9 m.c|_=>m.c.defers.isEmpty)then some m else
  match Je P F Xc (Af P F Xc fu) m.c m.H m.n with
  |some (.go c' H' n' R' W')=>iW P F Xc fu b k ⟨c',H',n',Zt b R' m.R,Zt b W' m.W⟩
  |_=>none
structure HX where
 T:Tm
 H:Qj
 n:Nat
 o:Oper
 post:List Oper
 Qq:List Rec
def pL(P:Program)(F:FuncId->Bool)(Xc:Wl)(fu:Nat)(ops:Array Oper)(c:CF)(H:Qj)(n:Nat):Option HX:=
 match Ss ops.toList with
 |(pre,o::post)=>match bU P F Xc (Af P F Xc fu) ops pre c.tmps H n with
  |some (Qq,.ok T H' n')=>bif YH T o.dst && Region.wanted o (Xw ops T)then some ⟨T,H',n',o,post,Qq⟩else none
  |_=>none
 |_=>none
def BI:CM->Option Value
 | .run=>none
 | .ret=>some .nilIface
 | .Zj v=>some v
def bV(P:Program)(F:FuncId->Bool)(Xc:Wl)(fu:Nat)(b:Nat)(g:FuncId)(args:Array Value)(pv:Value)(H:Qj)(n:Nat)(R W:List Nat):Option MS:=
 match Z6 P g args with
 |some cd=>match iW P F Xc fu b 10000 ⟨cd,H,n,R,W⟩with
  |some m1=>match m1.c.mode,m1.c.todo with
   | .run,.code (.region _ ops false)::todo=>match pL P F Xc fu ops m1.c m1.H m1.n with
     |some s=>match s.o.op with
      | .call c=>match c.callee with
        | .builtin .recover=>bif c.args.isEmpty then
         match bU P F Xc (Af P F Xc fu) ops s.post (W6 s.T s.o.dst pv) s.H s.n with
         |some (recs2,.ok T2 H2 n2)=>match iW P F Xc fu b 10000 ⟨{m1.c with tmps:=T2,todo:=todo},H2,n2,Zt b (Kc recs2) (Zt b (Kc s.Qq) m1.R),Zt b (Vj recs2) (Zt b (Vj s.Qq) m1.W)⟩with
          |some m2=>match m2.c.mode,m2.c.defers,ga P m2.c.fn m2.H m2.c.tmps with
           | .ret,[],some (_,R3)=>some ⟨m2.c,m2.H,m2.n,Zt b R3 m2.R,m2.W⟩
           |_,_,_=>none
          |none=>none
         |_=>none
          else none
        |_=>none
      |_=>none
     |none=>none
   |_,_=>none
  |none=>none
 |none=>none
def Dd(P:Program)(F:FuncId->Bool)(Xc:Wl)(fu:Nat)(f:FuncId)(args:Array Value)(H:Qj)(n:Nat):Option Rs:=
 match Z6 P f args with
 |some c0=>match iW P F Xc fu n 10000 ⟨c0,H,n,[],[]⟩with
  |some m1=>match m1.c.mode,m1.c.todo,m1.c.defers with
   | .run,.code (.region _ ops false)::todo,[]=>match pL P F Xc fu ops m1.c m1.H m1.n with
     |some s=>match s.o.op,s.post with
      | .defer c,[]=>match c.callee with
        | .value x=>match X8 s.T x with
          |some (.func (.func g) xs ys)=>bif c.args.isEmpty && F g then
           match iW P F Xc fu n 100000 ⟨{m1.c with tmps:=W6 s.T s.o.dst undef,todo:=todo},s.H,s.n,Zt n (Kc s.Qq) m1.R,Zt n (Vj s.Qq) m1.W⟩with
           |some m2=>match BI m2.c.mode,m2.c.defers with
            |some pv,[]=>match bV P F Xc fu n g (xs++ys) pv m2.H m2.n m2.R m2.W with
             |some m3=>match ga P m2.c.fn m3.H m2.c.tmps with
              |some (v,R4)=>some ⟨.ret v,m3.H,m3.n,Zt n R4 m3.R,m3.W⟩
              |none=>none
             |none=>none
            |_,_=>none
           |none=>none
            else none
          |_=>none
        |_=>none
      |_,_=>none
     |none=>none
   |_,_,_=>none
  |none=>none
 |none=>none

section
variable {P:Program} {F:FuncId->Bool} {Xc:Wl} {B:Lo}
theorem GoJ.refl(c:CF)(H:Qj)(n:Nat):GoJ P B c H n c H n [] []:=⟨Shape.same _ _ _,fun _ μ w fr _ _ Q5 _ _ _ Xr _=>⟨fr,w,μ,Post.refl Q5,Xr,rfl,rfl,Steps.refl _ _⟩⟩
theorem GoJ.trans{c c' c'':CF}{H H' H'':Qj}{n n' n'':Nat}{R R' W W':List Nat}(h:GoJ P B c H n c' H' n' R W)(k:GoJ P B c' H' n' c'' H'' n'' R' W'):GoJ P B c H n c'' H'' n'' (R++R') (W++W'):=by
 refine⟨h.shape.trans k.shape,fun S μ w fr cs Z Q5 hB hS hf Xr hR=> ?_⟩;have l1:=h.shape.le;have l2:=k.shape.le;obtain⟨VN,w1,μ1,hp,Uh,hr,hfn,ZS⟩:=h.sem S μ w fr cs Z Q5 hB hS (fun q a b=>hf q a (by omega)) Xr (fun q hq QX=>hR q (Lg _ hq) QX);obtain⟨fr2,w2,μ2,KT,hfr2,hr2,hfn2,hst2⟩:=k.sem _ μ1 w1 VN cs Z hp.ok (hB.post Q5 hp) (fun q hq=>hq.elim (fun e=>by have:=hS q e;omega) (fun e=>e.2))
  (fun q a b=>by rw[hp.ext q (by omega)];exact hf q (by omega) b) Uh (fun q hq QX=>by
   rcases Ly q n with h1|h1
   ·exact .inl (hR q (Lp _ hq) h1)
   ·exact .inr ⟨h1,QX⟩)
 exact⟨fr2,w2,μ2,hp.trans KT,hfr2,hr2.trans hr,hfn2.trans hfn,ZS.trans hst2⟩
theorem Y9(hF:∀g,F g=true->Q0 P g=true)(X2:P.follows .mixedOrders=true)(Z5:ZK P B Xc){fu b:Nat}:∀(k:Nat) (m m':MS),Under m.H m.n->iW P F Xc fu b k m=some m'->
 ∃R W,GoJ P B m.c m.H m.n m'.c m'.H m'.n R W/\(∀i,i<b->(i∈m'.R<->i∈m.R\/i∈R))/\(∀i,i<b->(i∈m'.W<->i∈m.W\/i∈W))
 |0,m,m',hu,h=>by simp[iW]at h
 |k+1,m,m',hu,h=>by
  simp only[iW]at h;cases hq:(match m.c.mode with| .run=>G9 m.c|_=>m.c.defers.isEmpty)with
  |true=>
   rw[hq]at h;simp only[cond_true,YO]at h;subst h;exact⟨[],[],GoJ.refl _ _ _,fun i _=>by simp,fun i _=>by simp⟩
  |false=>
   rw[hq]at h;simp only[cond_false]at h;split at h
   ·rename_i c' H' n' R' W' hs;have J2:GoJ P B m.c m.H m.n c' H' n' R' W':=W5 hF X2 Z5 (T5 hF X2 Z5 fu) hu hs;obtain⟨R,W,h1,h2,h3⟩:=Y9 hF X2 Z5 k ⟨c',H',n',Zt b R' m.R,Zt b W' m.W⟩ m' (hu.shape J2.shape) h;refine⟨_,_,J2.trans h1,fun i hi=> ?_,fun i hi=> ?_⟩
    ·rw[h2 i hi,XI hi,LP,or_assoc]
    ·rw[h3 i hi,XI hi,LP,or_assoc]
   ·cases h
structure Sofar (B:Lo) (S:Nat->Prop) (n N:Nat) (W:List Nat) (μ0 μ:Mu) (H0 H:Qj) (m:Nat) (w0 w:World):Prop where
 post:Post B S n m W μ0 μ H0 H w0 w
 has:B.has w
 free:Ya μ m N
variable {S:Nat->Prop} {n N m m2:Nat} {W W2 R2:List Nat} {μ0 μ:Mu} {H0 H H2:Qj} {w0 w:World}
theorem Sofar.goj(s:Sofar B S n N W μ0 μ H0 H m w0 w)(hS:∀i,S i->i<n){c c':CF}(h:GoJ P B c H m c' H2 m2 R2 W2)(hN:m2<=N)(hR:∀i∈R2,i<n->S i){Z:Bot}{fr:Frame}(Xr:FrR Z μ c fr)(cs:List Frame):
 ∃fr' w' μ',Sofar B S n N (W++W2) μ0 μ' H0 H2 m2 w0 w'/\FrR Z μ' c' fr'/\fr'.roundOf=fr.roundOf/\fr'.fn=fr.fn/\Steps P (lone fr cs w) (lone fr' cs w')/\Ext μ μ':=by
 have l1:=s.post.le;have l2:=h.shape.le;have hf:Ya μ m m2:=fun q a b=>s.free q a (by omega)
 obtain⟨fr',w',μ',hp,h1,h2,h3,h4⟩:=h.sem _ μ w fr cs Z s.post.ok s.has (fun i hi=>hi.elim (fun e=>by have:=hS i e;omega) (fun e=>e.2)) hf Xr
  (fun q hq QX=>by
   rcases Ly q n with h1|h1
   ·exact .inl (hR q hq h1)
   ·exact .inr ⟨h1,QX⟩)
 exact⟨fr',w',μ',⟨s.post.trans hp,s.has.post s.post.ok hp,fun q a b=>by rw[hp.ext q (by omega)];exact s.free q (by omega) b⟩,h1,h2,h3,h4,hp.mu hf⟩
theorem Sofar.seq(s:Sofar B S n N W μ0 μ H0 H m w0 w)(hS:∀i,S i->i<n){ops:Array Oper}{Qq:List Rec}{len:Nat}{T T2:Tm}(Jt:UG Qq T H m T2 H2 m2)(hs:∀r∈Qq,Tg len r)(hk:∀r∈Qq,Jm P B ops r)(i:Nat)
 (ho:∀(j:Nat) r,Qq[j]? =some r->ops[i+j]? =some r.o) (hl:T.len=len) (hN:m2<=N) (hR:∀i∈Kc Qq,i<n->S i) {fr:Frame} {A:Array Value} (hm:fr.mode=.run) (hT:TR μ T A) (rest:List Nat) (k:List Item) (cs:List Frame):
 ∃A' w' μ',Sofar B S n N (W++Vj Qq) μ0 μ' H0 H2 m2 w0 w'/\TR μ' T2 A'/\Ext μ μ'/\Steps P (lone (QU fr A ops (Ls i Qq.length++rest) k) cs w) (lone (QU fr A' ops rest k) cs w'):=by
 have l1:=s.post.le;have l2:=(Zp Qq _ _ _ _ _ _ Jt hs).le;have hf:Ya μ m m2:=fun q a b=>s.free q a (by omega)
 obtain⟨μ',A',w',hp,h1,h2⟩:=Su (fr:=fr) (cs:=cs) (k:=k) hm Qq i T H m T2 H2 m2 rest Jt hs hk ho hl _ μ w A s.post.ok s.has (fun i hi=>hi.elim (fun e=>by have:=hS i e;omega) (fun e=>e.2)) hf
  (fun q hq QX=>by
   rcases Ly q n with h1|h1
   ·exact .inl (hR q hq h1)
   ·exact .inr ⟨h1,QX⟩) hT
 exact⟨A',w',μ',⟨s.post.trans hp,s.has.post s.post.ok hp,fun q a b=>by rw[hp.ext q (by omega)];exact s.free q (by omega) b⟩,h1,hp.mu hf,h2⟩
theorem Rp(hF:∀g,F g=true->Q0 P g=true)(X2:P.follows .mixedOrders=true)(Z5:ZK P B Xc){fu:Nat}{ops:Array Oper}{c:CF}{H:Qj}{n:Nat}{s:HX}(hu:Under H n)(h:pL P F Xc fu ops c H n=some s):
 ∃pre,ops.toList=pre++s.o::s.post/\(∀r∈s.Qq,Tg c.tmps.len r)/\(∀r∈s.Qq,Jm P B ops r)/\UG s.Qq c.tmps H n s.T s.H s.n/\s.Qq.map (·.o)=pre/\Under s.H s.n/\YH s.T s.o.dst=true/\Region.wanted s.o (Xw ops s.T)=true:=by
 unfold pL at h;have he:=fS ops.toList;split at h
 ·rename_i pre o post hsp;rw[hsp]at he;split at h
  ·rename_i Qq T H' n' hr;cases hd:(YH T o.dst && Region.wanted o (Xw ops T))with
   |false=>rw[hd]at h;cases h
   |true=>
    rw[<-Zs h];simp only[YB]at hd;obtain⟨h1,h2,h3,h4,h5⟩:=Us hF (T5 hF X2 Z5 fu) Z5 (len:=c.tmps.len) pre c.tmps H n Qq _ rfl hu hr;exact⟨pre,he.symm,h1,h2,h3,h4,h5,hd.1,hd.2⟩
  ·cases h
 ·cases h
theorem cK:∀(l:List Rec) (T:Tm) (H:Qj) (n:Nat) (T':Tm) (H':Qj) (n':Nat),UG l T H n T' H' n'->T'.len=T.len
 |[],T,H,n,T',H',n',h=>by
  obtain⟨rfl,_,_⟩:=h;rfl
 |r::l,T,H,n,T',H',n',h=>by
  obtain⟨_,_,_,h4⟩:=h;rw[cK l _ _ _ _ _ _ h4,Vm]
theorem fZ{B:Lo}{S:Nat->Prop}{μ:Mu}{H:Qj}{n:Nat}{w:World}{T:Tm}{A:Array Value}{f:FuncId}{v:Value}{R:List Nat}(hu:Under H n)(Q5:Ok B S μ (Qo H) w)(ht:TR μ T A)(hv:ga P f H T=some (v,R))(hR:∀i∈R,i<n->S i):
 ∃fn v',P.funcs[f]? =some fn/\(results fn A).run P w=.ok v' w/\VR μ v v':=by
 unfold ga at hv;rw[RV,Lj]at hv;split at hv
 ·rename_i fn hfn;split at hv
  ·rename_i vs R1 hvs;simp only[YO,YR]at hv;obtain⟨rfl,rfl⟩:=hv;obtain⟨vs',h1,h2⟩:=YW hu Q5 ht _ _ _ hvs hR;refine⟨fn,_,hfn, ?_,m6 h2⟩;rw[av,Array.mapM_eq_mapM_toList];simp only[Sem.run_bind,Sem.run_map,h1,Result.andThen_ok,Sem.run_pure]
  ·cases hv
 ·cases hv
theorem range_split{a b:Nat}{m:Nat}(h:m=a+(b+1)):Ls 0 m=Ls 0 a++a::Ls (a+1) b:=by
 subst h;have:=List.range'_append_1 (s:=0) (m:=a) (n:=b+1);rw[<-this,Lv,List.range'_succ]
def pf(μ:Mu)(pv:Value)(cal:Frame):Prop:=(pv=.nilIface/\cal.mode=.returning)\/∃v',VR μ pv v'/\cal.mode=.panicking [{v:=v',recovered:=false}]
theorem ax(hF:∀g,F g=true->Q0 P g=true)(X2:P.follows .mixedOrders=true)(Z5:ZK P B Xc){fu b:Nat}{g:FuncId}{args:Array Value}{pv:Value}{R0 W0:List Nat}{m3:MS}(hu:Under H m)(h:bV P F Xc fu b g args pv H m R0 W0=some m3):
 ∃Rr Wr,Shape H m m3.H m3.n Rr Wr/\(∀i,i<b->(i∈m3.R<->i∈R0\/i∈Rr))/\(∀i,i<b->(i∈m3.W<->i∈W0\/i∈Wr))/\
  ∀(S:Nat->Prop) (n N:Nat) (W:List Nat) (μ0 μ:Mu) (H0:Qj) (w0 w:World),Sofar B S n N W μ0 μ H0 H m w0 w->(∀i,S i->i<n)->m3.n<=N->(∀i∈Rr,i<n->S i)->∀(args':Array Value) (cal:Frame) (cs:List Frame),VRs μ args args'->pf μ pv cal->
   ∃w' μ',Sofar B S n N (W++Wr) μ0 μ' H0 m3.H m3.n w0 w'/\Ext μ μ'/\Steps P (lone (Frame.enter P g args' .deferred) (cal::cs) w) (lone {cal with mode:=.returning} cs w'):=by
 unfold bV at h;split at h
 ·rename_i cd hcd;split at h
  ·rename_i m1 hm1;obtain⟨R1,W1,g1,a1,b1⟩:=Y9 hF X2 Z5 10000 ⟨cd,H,m,R0,W0⟩ m1 hu hm1;have PS:Under m1.H m1.n:=hu.shape g1.shape;split at h
   ·rename_i id ops todo hmode1 htodo1;split at h
    ·rename_i s hs;obtain⟨pre,e1,e2,e3,e4,e5,e6,e7,e8⟩:=Rp hF X2 Z5 PS hs;split at h
     ·rename_i c XF;split at h
      ·rename_i hcal;cases hca:c.args.isEmpty with
       |false=>rw[hca]at h;cases h
       |true=>
        rw[hca]at h;simp only[cond_true]at h;split at h
        ·rename_i recs2 T2 H2 n2 hr2;obtain⟨f1,f2,f3,f4,f5⟩:=Us hF (T5 hF X2 Z5 fu) Z5 (len:=m1.c.tmps.len) s.post (W6 s.T s.o.dst pv) s.H s.n recs2 _ (by rw[Vm];exact cK _ _ _ _ _ _ _ e4) e6 hr2;split at h
         ·rename_i m2 hm2;obtain⟨R7,W7,g7,a7,b7⟩:=Y9 hF X2 Z5 10000 _ m2 f5 hm2;simp only at g7 a7 b7;have hu2:Under m2.H m2.n:=f5.shape g7.shape;split at h
          ·rename_i hmode2 hds2 hres;rename_i vres R3;simp only[YO]at h;subst h;have sh4:=Zp s.Qq _ _ _ _ _ _ e4 e2;have sh5:=Zp recs2 _ _ _ _ _ _ f3 f1;have Kz:=((g1.shape.trans sh4).trans sh5).trans g7.shape;have hca':c.args=#[]:=by simpa[Array.isEmpty]using hca
           refine⟨(((R1++Kc s.Qq)++Kc recs2)++R7)++R3,((W1++Vj s.Qq)++Vj recs2)++W7,⟨Kz.le,Kz.keep,Kz.top,fun i hi=>Lg _ (Kz.sub i hi),Kz.wlt⟩,fun i hi=> ?_,fun i hi=> ?_, ?_⟩
           ·simp only[LP];rw[XI hi,a7 i hi,XI hi,XI hi,a1 i hi];simp only[or_assoc]
           ·simp only[LP];rw[b7 i hi,XI hi,XI hi,b1 i hi];simp only[or_assoc]
           ·intro S n N W μ0 μ H0 w0 w hs0 hS hN hR args' cal cs hv hun;simp only at hN;have l1:=g1.shape.le;have l2:=sh4.le;have l3:=sh5.le;have l4:=g7.shape.le;simp only[LP]at hR;have hfr0:FrR ⟨[],.deferred⟩ μ cd (Frame.enter P g args' .deferred):=kM .deferred hcd hv;obtain⟨VN,w1,μ1,s1,Uh,hro1,_,st1,x1⟩:=hs0.goj hS g1 (by omega) (fun i hi=>hR i (.inl (.inl (.inl (.inl hi))))) hfr0 (cal::cs);have hro1:VN.roundOf=none:=hro1;obtain⟨ha,hb,hd⟩:=Uh.running hmode1;rw[htodo1]at hd;obtain⟨L',hL,hL'⟩:=hd.code;have hlen:ops.size=pre.length+(s.post.length+1):=by
             have:=congrArg Lf e1;simp at this;omega
            have hat:ops[pre.length]? =some s.o:=by
             rw[<-Lj,e1,Lm (Lr _)];simp
            have hplen:s.Qq.length=pre.length:=by have:=congrArg Lf e5;simpa using this
            have hown1:∀(j:Nat) r,s.Qq[j]? =some r->ops[0+j]? =some r.o:=by
             intro j r hj;rw[Lv];exact V8 (l:=ops.toList) (l2:=s.o::s.post) (by rw[e5];exact e1.symm) rfl j r hj
            obtain⟨A1,w2,μ2,s2,hT2,x2,st2⟩:=s1.seq hS e4 e2 e3 0 hown1 rfl (by omega) (fun i hi=>hR i (.inl (.inl (.inl (.inr hi))))) ha hb (pre.length::Ls (pre.length+1) s.post.length) L' (cal::cs);have Jc:step P (lone VN (cal::cs) w1)=.next (lone (QU VN VN.tmps ops (Ls 0 ops.size) L') (cal::cs) w1):=Zw ha hL;rw[range_split hlen]at Jc;rw[hplen]at st2;have VS:Region.wanted s.o (yielded ops A1)=true:=by rw[Up hT2];exact e8
            have hk1:VN.kind=.deferred:=Uh.kind
            -- the operation itself
            have Wu:∃v' cal1,VR μ2 pv v'/\(cal1.mode=.returning\/∃v,cal1.mode=.panicking [{v,recovered:=true}])/\{cal1 with mode:=.returning}={cal with mode:=FrameMode.returning}/\
             step P (lone (QU VN A1 ops (pre.length::Ls (pre.length+1) s.post.length) L') (cal::cs) w2)=.next (lone ((QU VN A1 ops (pre.length::Ls (pre.length+1) s.post.length) L').finish v') (cal1::cs) w2):=by
             rcases hun with ⟨rfl,hret⟩|⟨v',Wt,hpan⟩
             ·exact⟨.nilIface,cal,.nilIface,.inl hret,rfl,bR ha hro1 hat VS XF hcal hca' hk1 hret⟩
             ·exact⟨v',{cal with mode:=.panicking [{v:=v',recovered:=true}]},(Wt.mono x1).mono x2,.inr ⟨v',rfl⟩,rfl,nb ha hk1 hro1 hat VS XF hcal hca' hpan⟩
            obtain⟨v',cal1,Wt,hcal1,hcalr,st3⟩:=Wu;rw[KG hat]at st3;have hdst:=Ko e7;have hT3:TR μ2 (W6 s.T s.o.dst pv) (putA A1 v' s.o.dst):=hT2.putA hdst Wt;have hown2:∀(j:Nat) r,recs2[j]? =some r->ops[pre.length+1+j]? =some r.o:=by
             intro j r hj;have e:(recs2.map (·.o))[j]? =some r.o:=by rw[Lu,hj];rfl
             rw[f4]at e;rw[<-Lj,e1,Lm (by omega),show pre.length+1+j-pre.length=j+1 by omega];simpa using e
            have hplen2:recs2.length=s.post.length:=by have:=congrArg Lf f4;simpa using this
            obtain⟨A2,w3,μ3,s3,hT4,x3,st4⟩:=s2.seq hS f3 f1 f2 (pre.length+1) hown2 (by rw[Vm];exact cK _ _ _ _ _ _ _ e4) (by omega) (fun i hi=>hR i (.inl (.inl (.inr hi)))) ha hT3 [] L' (cal1::cs);rw[List.append_nil,hplen2]at st4;have st5:Steps P (lone (QU VN A2 ops [] L') (cal1::cs) w3) (lone {VN with tmps:=A2,todo:=L'} (cal1::cs) w3):=.one (Wn ha);have hfr2:FrR ⟨[],.deferred⟩ μ3 {m1.c with tmps:=T2,todo:=todo} {VN with tmps:=A2,todo:=L'}:=
             ⟨Uh.fn,hT4,fun _=>(hL'.mono x2).mono x3,(Uh.defers.mono x2).mono x3,(Uh.mode.mono x2).mono x3,Uh.kind,(Uh.round.mono x2).mono x3⟩
            obtain⟨fr3,w4,μ4,s4,hfr3,hro3,_,st6,x4⟩:=s3.goj hS g7 (by omega) (fun i hi=>hR i (.inl (.inr hi))) hfr2 (cal1::cs);have hmode3:fr3.mode=.returning:=by
             have:=hfr3.mode;rw[hmode2]at this;generalize fr3.mode=q at this;cases this;rfl
            have hd3:fr3.defers=[]:=by
             have:=hfr3.defers;rw[hds2]at this;exact this.empty
            obtain⟨fn,vr,hfn,hresr,_⟩:=fZ hu2 s4.post.ok hfr3.tmps hres (fun i hi QX=>by
             rcases Ly i n with h1|h1
             ·exact .inl (hR i (.inr hi) h1)
             ·exact .inr ⟨h1,QX⟩)
            have st7:=ao (cs:=cs) hmode3 hd3 hfr3.kind (by rw[hfr3.fn];exact hfn) hresr hcal1;rw[hcalr]at st7;refine⟨w4,μ4,by simpa[List.append_assoc]using s4,((x1.trans x2).trans x3).trans x4, ?_⟩;exact st1.trans (.head Jc (st2.trans (.head st3 (st4.trans (st5.trans (st6.trans (.one st7)))))))
          ·cases h
         ·cases h
        ·cases h
      ·cases h
     ·cases h
    ·cases h
   ·cases h
  ·cases h
 ·cases h
theorem b8{fu b:Nat}:∀(k:Nat) (m m':MS),iW P F Xc fu b k m=some m'->(∀i∈m.W,i<b)->∀i∈m'.W,i<b
 |0,m,m',h,hw=>by simp[iW]at h
 |k+1,m,m',h,hw=>by
  simp only[iW]at h;cases hq:(match m.c.mode with| .run=>G9 m.c|_=>m.c.defers.isEmpty)with
  |true=>
   rw[hq]at h;simp only[cond_true,YO]at h;subst h;exact hw
  |false=>
   rw[hq]at h;simp only[cond_false]at h;split at h
   ·exact b8 k _ m' h (Jl hw)
   ·cases h
theorem xB{fu b:Nat}{g:FuncId}{args:Array Value}{pv:Value}{H:Qj}{m:Nat}{R0 W0:List Nat}{m3:MS}(h:bV P F Xc fu b g args pv H m R0 W0=some m3)(hw:∀i∈W0,i<b):∀i∈m3.W,i<b:=by
 unfold bV at h;split at h
 ·split at h
  ·rename_i m1 hm1;have w1:=b8 10000 _ m1 hm1 hw;split at h
   ·split at h
    ·split at h
     ·split at h
      ·have h:=Kr h;split at h
       ·split at h
        ·rename_i m2 hm2;have w2:=b8 10000 _ m2 hm2 (Jl (Jl w1));split at h
         ·simp only[YO]at h;subst h;exact w2
         ·cases h
        ·cases h
       ·cases h
      ·cases h
     ·cases h
    ·cases h
   ·cases h
  ·cases h
 ·cases h
theorem tR(hF:∀g,F g=true->Q0 P g=true)(X2:P.follows .mixedOrders=true)(Z5:ZK P B Xc){fu:Nat}{f:FuncId}{args:Array Value}{H:Qj}{n:Nat}{s0:Rs}(hu:Under H n)(h:Dd P F Xc fu f args H n=some s0):
 Shape H n s0.H s0.n s0.R s0.W/\∀(S:Nat->Prop) (μ:Mu) (w:World) (args':Array Value) (cs:List Frame),Ok B S μ (Qo H) w->B.has w->(∀i,S i->i<n)->Ya μ n s0.n->VRs μ args args'->(∀i∈s0.R,i<n->S i)->
  ∃XB w' μ',Post B S n s0.n s0.W μ μ' H s0.H w w'/\OR2 μ' s0.out XB/\EndsAs P (Frame.enter P f args' .normal) cs w XB w':=by
 unfold Dd at h;split at h
 ·rename_i c0 hc0;split at h
  ·rename_i m1 hm1;obtain⟨R1,W1,g1,a1,b1⟩:=Y9 hF X2 Z5 10000 ⟨c0,H,n,[],[]⟩ m1 hu hm1;have PS:Under m1.H m1.n:=hu.shape g1.shape;split at h
   ·rename_i id ops todo hmode1 htodo1 hds1;split at h
    ·rename_i s hs;obtain⟨pre,e1,e2,e3,e4,e5,e6,e7,e8⟩:=Rp hF X2 Z5 PS hs;split at h
     ·rename_i c XF Xu;split at h
      ·rename_i x hcal;split at h
       ·rename_i g xs ys hx;cases hca:(c.args.isEmpty && F g)with
        |false=>rw[hca]at h;cases h
        |true=>
         rw[hca]at h;simp only[cond_true]at h;simp only[YB]at hca;split at h
         ·rename_i m2 hm2;obtain⟨R3,W3,g3,a3,b3⟩:=Y9 hF X2 Z5 100000 _ m2 e6 hm2;simp only at g3 a3 b3;have hu2:Under m2.H m2.n:=e6.shape g3.shape;split at h
          ·rename_i pv hpv hds2;split at h
           ·rename_i m3 hm3;obtain⟨Rr,Wr,sh3,ar,br,hsem⟩:=ax (B:=B) hF X2 Z5 hu2 hm3;have hu3:Under m3.H m3.n:=hu2.shape sh3;split at h
            ·rename_i v R4 hres;simp only[YO]at h;subst h;have sh2:=Zp s.Qq _ _ _ _ _ _ e4 e2;have Kz:=((g1.shape.trans sh2).trans g3.shape).trans sh3;have hRiff:∀i,i<n->(i∈Zt n R4 m3.R<->i∈((R1++Kc s.Qq)++R3)++Rr\/i∈R4):=fun i hi=>by
              rw[XI hi,ar i hi,a3 i hi,XI hi,a1 i hi];simp only[LP,List.not_mem_nil,false_or]
             have hWiff:∀i,i<n->(i∈m3.W<->i∈((W1++Vj s.Qq)++W3)++Wr):=fun i hi=>by
              rw[br i hi,b3 i hi,XI hi,b1 i hi];simp only[LP,List.not_mem_nil,false_or]
             have hWlt:∀i∈m3.W,i<n:=xB hm3 (b8 100000 _ m2 hm2 (Jl (b8 10000 _ m1 hm1 (fun i hi=>by simp at hi))));refine⟨⟨Kz.le,fun i hi hw=>Kz.keep i hi fun e=>hw ((hWiff i hi).2 e),Kz.top,fun i hi=>(hRiff i (hWlt i hi)).2 (.inl (Kz.sub i ((hWiff i (hWlt i hi)).1 hi))),fun i hi=>by have:=hWlt i hi;have:=Kz.le;simp only at *;omega⟩,fun S μ w args' cs Q5 hB hS hf hv hR=> ?_⟩;simp only at hf hR ⊢;have hR':∀i,i<n->i∈((R1++Kc s.Qq)++R3)++Rr\/i∈R4->S i:=fun i hi h=>hR i ((hRiff i hi).2 h) hi
             have l1:=g1.shape.le;have l2:=sh2.le;have l3:=g3.shape.le;have l4:=sh3.le;have sf0:Sofar B S n m3.n [] μ μ H H n w w:=⟨Post.refl Q5,hB,hf⟩
             have hfr0:FrR Bot.no μ c0 (Frame.enter P f args' .normal):=VD hc0 hv;obtain⟨VN,w1,μ1,s1,Uh,hro1,hfn1,st1,x1⟩:=sf0.goj hS g1 (by omega) (fun i hi QX=>hR' i QX (.inl (Lg _ (Lg _ (Lg _ hi))))) hfr0 cs;have hro1:VN.roundOf=none:=hro1;obtain⟨ha,hb,hd⟩:=Uh.running hmode1;rw[htodo1]at hd;obtain⟨L',hL,hL'⟩:=hd.code;have hd1:VN.defers=[]:=by
              have:=Uh.defers;rw[hds1]at this;exact this.empty
             rw[Xu]at e1;have hlen:ops.size=pre.length+(0+1):=by
              have:=congrArg Lf e1;simp at this;omega
             have hat:ops[pre.length]? =some s.o:=by
              rw[<-Lj,e1,Lm (Lr _)];simp
             have hplen:s.Qq.length=pre.length:=by have:=congrArg Lf e5;simpa using this
             have hown1:∀(j:Nat) r,s.Qq[j]? =some r->ops[0+j]? =some r.o:=by
              intro j r hj;rw[Lv];exact V8 (l:=ops.toList) (l2:=[s.o]) (by rw[e5];exact e1.symm) rfl j r hj
             obtain⟨A1,w2,μ2,s2,hT2,x2,st2⟩:=s1.seq hS e4 e2 e3 0 hown1 rfl (by omega) (fun i hi QX=>hR' i QX (.inl (Lg _ (Lg _ (Lp _ hi))))) ha hb (pre.length::Ls (pre.length+1) 0) L' cs;have Jc:step P (lone VN cs w1)=.next (lone (QU VN VN.tmps ops (Ls 0 ops.size) L') cs w1):=Zw ha hL;rw[range_split hlen]at Jc;rw[hplen]at st2;have VS:Region.wanted s.o (yielded ops A1)=true:=by rw[Up hT2];exact e8
             have hvx:=kI (fr:=QU VN A1 ops (pre.length::Ls (pre.length+1) 0) L') hT2 x _ hx;have hca':c.args=#[]:=by simpa[Array.isEmpty]using hca.1
             generalize hgx:(QU VN A1 ops (pre.length::Ls (pre.length+1) 0) L').eval x=ux at hvx;cases hvx with
             |func q1 q2 q3 q4=>
              rename_i xs' ys';have hdv:(Deferred.ofValue ((QU VN A1 ops (pre.length::Ls (pre.length+1) 0) L').eval x) (c.args.map (QU VN A1 ops (pre.length::Ls (pre.length+1) 0) L').eval)).run P w2=.ok {target:=.fn (.func g) ys',args:=xs'} w2:=by
               rw[hgx,hca'];simp[Deferred.ofValue]
              have st3:=step_defer (cs:=cs) (w:=w2) ha hro1 hat VS XF hcal hdv;rw[KG hat]at st3;have hdst:=Ko e7;have hT3:TR μ2 (W6 s.T s.o.dst undef) (putA A1 undef s.o.dst):=hT2.putA hdst VR.undef
              -- the frame behind the region
              have st4:step P (lone {QU VN (putA A1 undef s.o.dst) ops (Ls (pre.length+1) 0) L' with defers:={target:=.fn (.func g) ys',args:=xs'}::VN.defers} cs w2)=
               .next (lone {VN with tmps:=putA A1 undef s.o.dst,todo:=L',defers:={target:=.fn (.func g) ys',args:=xs'}::VN.defers} cs w2):=
               Wn (fr:={VN with defers:={target:=.fn (.func g) ys',args:=xs'}::VN.defers}) (A:=putA A1 undef s.o.dst) (ops:=ops) (k:=L') ha
              have hfr2:FrR ⟨[{target:=.fn (.func g) ys',args:=xs'}],.normal⟩ μ2 {m1.c with tmps:=W6 s.T s.o.dst undef,todo:=todo} {VN with tmps:=putA A1 undef s.o.dst,todo:=L',defers:={target:=.fn (.func g) ys',args:=xs'}::VN.defers}:=
               ⟨Uh.fn,hT3,fun _=>hL'.mono x2,by rw[show({m1.c with tmps:=W6 s.T s.o.dst undef,todo:=todo}:CF).defers=[]from hds1];exact .of_empty (by simp[hd1]),Uh.mode.mono x2,Uh.kind,Uh.round.mono x2⟩
              obtain⟨fr3,w3,μ3,s3,hfr3,hro3,hfn3,st5,x3⟩:=s2.goj hS g3 (by omega) (fun i hi QX=>hR' i QX (.inl (Lg _ (Lp _ hi)))) hfr2 cs;have hd3:fr3.defers=[{target:=.fn (.func g) ys',args:=xs'}]:=by
               have:=hfr3.defers;rw[hds2]at this;exact this.empty
              have hun:pf μ3 pv {fr3 with defers:=[]}/\fr3.mode≠.run:=by
               have hm:=hfr3.mode;generalize fr3.mode=q at hm ⊢;cases hcm:m2.c.mode with
               |run=>rw[hcm]at hpv;cases hpv
               |ret=>
                rw[hcm]at hpv hm;cases hm;simp only[BI,YO]at hpv;exact⟨.inl ⟨hpv.symm,rfl⟩,fun e=>by cases e⟩
               |Zj v0=>
                rw[hcm]at hpv hm;cases hm with
                |Zj Wt=>
                 simp only[BI,YO]at hpv;subst hpv;exact⟨.inr ⟨_,Wt,rfl⟩,fun e=>by cases e⟩
              have st6:step P (lone fr3 cs w3)=.next (lone (Frame.enter P g (xs'++ys') .deferred) ({fr3 with defers:=[]}::cs) w3):=
               Yr hun.2 hd3 rfl (PY (hF g hca.2) _ w3)
              have hvargs:VRs μ3 (xs++ys) (xs'++ys'):=by
               have k1:VRs μ3 xs xs':=(VRs.mono x3 ⟨q1,q3⟩)
               have k2:VRs μ3 ys ys':=(VRs.mono x3 ⟨q2,q4⟩)
               exact k1.append k2
              obtain⟨w4,μ4,s4,x4,st7⟩:=hsem S n m3.n _ μ μ3 H w w3 s3 hS (Lr _) (fun i hi QX=>hR' i QX (.inl (Lp _ hi))) _ {fr3 with defers:=[]} cs hvargs hun.1
              obtain⟨fn,v',hfn,hresr,Wt⟩:=fZ hu3 s4.post.ok (hfr3.tmps.mono x4) hres (fun i hi QX=>by
               rcases Ly i n with h1|h1
               ·exact .inl (hR' i h1 (.inr hi))
               ·exact .inr ⟨h1,QX⟩)
              have hfnE:fr3.fn=f:=by
               have:(Frame.enter P f args' .normal).fn=f:=rfl;rw[hfn3];show VN.fn=f;rw[hfn1,this]
              have YG:({fr3 with defers:=[],mode:=.returning}:Frame).leaving P w4 (.returned v'):=⟨rfl,rfl,hfr3.kind,fn,by rw[<-hfn,hfr3.fn],hresr⟩
              have ZS:Steps P (lone (Frame.enter P f args' .normal) cs w) (lone {fr3 with defers:=[],mode:=.returning} cs w4):=
               st1.trans (.head Jc (st2.trans (.head st3 (.head st4 (st5.trans (.head st6 st7))))))
              refine⟨.ret v',w4,μ4,s4.post.lists (fun i hi=>by rw[hWiff i hi];simp[List.append_assoc]),.ret Wt,fun _=>⟨_,ZS,hfnE,YG⟩,fun c1 cs' e=> ?_⟩;subst e;exact ZS.trans (.one (step_leave_returned YG))
            ·cases h
           ·cases h
          ·cases h
         ·cases h
       ·cases h
      ·cases h
     ·cases h
    ·cases h
   ·cases h
  ·cases h
 ·cases h
end
def Memo.drun(P:Program)(F:FuncId->Bool)(Xc:Wl)(fuel:Nat)(m:Memo):Option Rs:=Dd P F Xc fuel m.g m.args m.H0 m.n
theorem QO{P:Program}{F:FuncId->Bool}{Xc:Wl}{B:Lo}(hF:∀g,F g=true->Q0 P g=true)(X2:P.follows .mixedOrders=true)(Z5:ZK P B Xc){fuel:Nat}{m:Memo}{l:List Memo}(hm:QF m (m.drun P F Xc fuel)=true)(hl:ZK P B (X1 l)):ZK P B (X1 (m::l)):=by
 intro g args H n s hu h;simp only[X1]at h;cases hq:(Le m.n n && Le m.g g && CV (z6 1) args.toList m.args.toList && hasAll H m.H0)with
 |false=>
  rw[hq]at h;exact hl g args H n s hu h
 |true=>
  rw[hq]at h;simp only[cond_true,YO]at h;simp only[YB]at hq;obtain⟨⟨⟨q1,q2⟩,q3⟩,q4⟩:=hq;obtain rfl:=YE q1;obtain rfl:=YE q2;obtain rfl:=Array.ext' (UE (VO 1) _ _ q3);have hH:=KU q4;subst h;obtain⟨Hs,R,Vc,hnews,hw,hw0,hR0⟩:=dH hm;have hu0:Under m.H0 m.n:=fun i hi=>Wi hw0 (.inr hi)
  have hsem:=tR (B:=B) hF X2 Z5 hu0 Vc;have hle:m.n<=m.n':=hsem.1.le;have J2:∀i,i<m.n\/m.n'<=i->Qo (m.news++H) i=Qo H i:=fun i hi=>by
   rw[Zo,Wi hw hi]
  have Kw:∀i o,m.n<=i->Qo (m.news++H) i=some o->Qo Hs i=some o:=by
   intro i o h1 h2;rw[Zo]at h2;cases hg:Qo m.news i with
   |some x=>
    rw[hg]at h2;rw[hnews i x hg];exact h2
   |none=>
    rw[hg,hu i h1]at h2;cases h2
  refine⟨⟨hle,fun i hi _=>J2 i (.inl hi),fun i hi=>J2 i (.inr hi),fun _ h=>by simp at h,fun _ h=>by simp at h⟩,fun S μ w args' cs Q5 hB hS hf hv hR=> ?_⟩;simp only at hf hR ⊢;have hok0:Ok B (fun i=>S i/\∃o,Qo m.H0 i=some o) μ (Qo m.H0) w:=by
   refine⟨fun i o hi ho hl=>Q5.rel i o hi.1 (hH i o ho) hl,fun i o im hi ho hl=>Q5.low i o im hi.1 (hH i o ho) hl,fun i j oi oj a b hi hj Jd Z0 Zz=>Q5.inj i j oi oj a b hi.1 hj.1 Jd (hH i oi Z0) (hH j oj Zz),
    fun i o hi ho=>Q5.KI i o hi.1 (hH i o ho),fun i j oi oj a b x hi hj Z0 Zz=>Q5.sep i j oi oj a b x hi.1 hj.1 (hH i oi Z0) (hH j oj Zz)⟩
  obtain⟨XB,w',μ',hp,ho,he⟩:=hsem.2 _ μ w args' cs hok0 hB (fun i hi=>hS i hi.1) hf hv (fun i hi hl=>by
   obtain⟨o,ho⟩:=hR0 i hi hl;exact⟨hR i (bG ho) hl,o,ho⟩)
  simp only at hp ho;have hold:∀i im,S i->μ i=some im->μ' i=some im:=fun i im hi h=>by
   have:=hS i hi;rw[hp.ext i (by omega)];exact h
  have hext:Ext μ μ':=hp.mu hf;have Xr:∀i im o,m.n<=i->i<m.n'->Qo (m.news++H) i=some o->live o->μ' i=some im->im.rw=true/\w.heap.size<=im.XM:=by
   intro i im o h1 h2 h3 h4 h5;obtain⟨x,y⟩:=hp.fresh i im o h1 h2 (Kw i o h1 h3) h4 h5;exact⟨x,y.elim id fun⟨k,hk,_⟩=>by simp at hk⟩
  have hOld:∀i o,S i->Qo (m.news++H) i=some o->live o->∃im,μ i=some im/\μ' i=some im/\Qo H i=some o/\im.XM<w.heap.size:=by
   intro i o hi ho hl;have:=hS i hi;rw[J2 i (.inl this)]at ho;obtain⟨im,Q3,_⟩:=Q5.rel i o hi ho hl;exact⟨im,Q3,hold i im hi Q3,ho,(Q5.low i o im hi ho hl Q3).1⟩
  refine⟨XB,w',μ',⟨⟨fun i o hi ho hl=> ?_,fun i o im hi ho hl Q3=> ?_,fun i j oi oj a b hi hj Jd Z0 Zz PT Vl ha hb hra WX=> ?_,fun i o hi ho hr=> ?_,fun i j oi oj a b x hi hj Z0 Zz KL Vl ha hb WX hx=> ?_⟩,hle,hp.ext,fun i hi _=>J2 i (.inl hi),hp.grow,fun b hb _=>hp.frame b hb fun i hi=>by simp at hi,fun i hi=>by simp at hi,
   fun i im o h1 h2 h3 h4 h5=>⟨(Xr i im o h1 h2 h3 h4 h5).1,.inl (Xr i im o h1 h2 h3 h4 h5).2⟩,fun i im o hi ho hr hm b x hx=> ?_,hp.os,hp.tape,hp.output⟩,ho,he⟩
  ·rcases hi with hi|hi
   ·obtain⟨im,Q3,QG,Un,QX⟩:=hOld i o hi ho hl;obtain⟨im2,ZJ,hr2⟩:=Q5.rel i o hi Un hl;rw[Q3]at ZJ;cases ZJ;exact⟨im,QG,hr2.keep hext (hp.frame _ QX fun i hi=>by simp at hi)⟩
   ·exact hp.ok.rel i o (.inr hi) (Kw i o hi.1 ho) hl
  ·rcases hi with hi|hi
   ·obtain⟨im2,ZJ,QG,Un,QX⟩:=hOld i o hi ho hl;rw[Q3]at QG;cases QG;exact⟨Nat.lt_of_lt_of_le QX hp.grow,(Q5.low i o im hi Un hl ZJ).2⟩
   ·exact hp.ok.low i o im (.inr hi) (Kw i o hi.1 ho) hl Q3
  ·rcases hi with hi|hi <;> rcases hj with hj|hj
   ·obtain⟨im,h1,h2,h3,_⟩:=hOld i oi hi Z0 PT;obtain⟨jm,k1,k2,k3,_⟩:=hOld j oj hj Zz Vl;rw[ha]at h2;cases h2;rw[hb]at k2;cases k2;exact Q5.inj i j oi oj a b hi hj Jd h3 k3 PT Vl h1 k1 hra WX
   ·obtain⟨im,h1,h2,h3,h4⟩:=hOld i oi hi Z0 PT;rw[ha]at h2;cases h2;have:=(Xr j b oj hj.1 hj.2 Zz Vl hb).2;omega
   ·obtain⟨im,h1,h2,h3,h4⟩:=hOld j oj hj Zz Vl;rw[hb]at h2;cases h2;have:=(Xr i a oi hi.1 hi.2 Z0 PT ha).2;omega
   ·exact hp.ok.inj i j oi oj a b (.inr hi) (.inr hj) Jd (Kw i oi hi.1 Z0) (Kw j oj hj.1 Zz) PT Vl ha hb hra WX
  ·rcases hi with hi|hi
   ·have:=hS i hi;rw[J2 i (.inl this)]at ho;obtain⟨im,Q3,hf⟩:=Q5.KI i o hi ho hr;exact⟨im,hold i im hi Q3,fun b x hx=>by rw[hp.frame b (KH Q5 hi ho hr Q3 hx) fun i hi=>by simp at hi];exact hf b x hx⟩
   ·exact hp.ok.KI i o (.inr hi) (Kw i o hi.1 ho) hr
  ·have oldR:∀i oi a,S i->Qo (m.news++H) i=some oi->μ' i=some a->Z9 oi->Qo H i=some oi/\μ i=some a:=by
    intro i oi a hi Z0 ha hr;have:=hS i hi;rw[J2 i (.inl this)]at Z0;rw[hp.ext i (by omega)]at ha;exact⟨Z0,ha⟩
   rcases hi with hi|hi <;> rcases hj with hj|hj
   ·obtain⟨h1,h2⟩:=oldR i oi a hi Z0 ha KL;obtain⟨jm,k1,k2,k3,_⟩:=hOld j oj hj Zz Vl;rw[hb]at k2;cases k2;exact Q5.sep i j oi oj a b x hi hj h1 k3 KL Vl h2 k1 WX hx
   ·obtain⟨h1,h2⟩:=oldR i oi a hi Z0 ha KL;have:=(Xr j b oj hj.1 hj.2 Zz Vl hb).2;have:=KH Q5 hi h1 KL h2 hx;omega
   ·obtain⟨jm,k1,k2,k3,k4⟩:=hOld j oj hj Zz Vl;rw[hb]at k2;cases k2;rcases hp.rf i a oi (.inl hi) (Kw i oi hi.1 Z0) KL ha b.XM x hx with e|⟨k,Vk,ko,hSk,_,hko,hkr,hkm,hkb⟩|⟨k,hk,_⟩
    ·omega
    ·exact Q5.sep k j ko oj Vk b x hSk.1 hj (hH k ko hko) k3 hkr Vl hkm k1 WX hkb
    ·simp at hk
   ·exact hp.ok.sep i j oi oj a b x (.inr hi) (.inr hj) (Kw i oi hi.1 Z0) (Kw j oj hj.1 Zz) KL Vl ha hb WX hx
  ·have Jc:m.n<=i/\i<m.n':=hi.elim id fun h=>by simp at h
   rcases hp.rf i im o (.inl Jc) (Kw i o Jc.1 ho) hr hm b x hx with e|⟨k,Vk,ko,hSk,hkn,hko,c⟩|⟨k,hk,_⟩
   ·exact .inl e
   ·exact .inr (.inl ⟨k,Vk,ko,hSk.1,hkn,hH k ko hko,c⟩)
   ·simp at hk
end
end Go.CE

namespace Go.CE
open Go Go.RowKit

section
variable {μ μ1:Mu} {ρ:Nat->Nat} {m:Nat}
end

def X0(v:Value):Prop:=∀μ μ1 v',VR μ v v'->VR μ1 v v'
theorem YD{v:Value}(h:af v=true):X0 v:=fun _ _ _ hv=>by rw[Pr h hv];exact Yn h
theorem vR:X0 (.chan none):=fun _ _ _ h=>by
 cases h with
 |UY a b c=>exact .UY a b c
theorem zw{xs:Array Value}(h:∀x∈xs,X0 x):X0 (.agg xs):=fun μ μ1 v' hv=>by
 cases hv with
 |agg h1 h2=>exact .agg h1 fun i v v' a b=>h v (LB a) μ μ1 v' (h2 i v v' a b)
theorem sT{xs:Array Value}(h:∀x∈xs,X0 x):X0 (.tuple xs):=fun μ μ1 v' hv=>by
 cases hv with
 |tuple h1 h2=>exact .tuple h1 fun i v v' a b=>h v (LB a) μ μ1 v' (h2 i v v' a b)
theorem vS{g:FuncId}{xs ys:Array Value}(h:∀x∈xs,X0 x)(k:∀x∈ys,X0 x):X0 (.func (.func g) xs ys):=fun μ μ1 v' hv=>by
 cases hv with
 |func h1 h2 h3 h4=>exact .func h1 h2 (fun i v v' a b=>h v (LB a) μ μ1 v' (h3 i v v' a b)) (fun i v v' a b=>k v (LB a) μ μ1 v' (h4 i v v' a b))
theorem sU{t:TypeId}{v:Value}(h:X0 v):X0 (.iface t v):=fun μ μ1 v' hv=>by
 cases hv with
 |iface hv=>exact .iface (h μ μ1 _ hv)
theorem oZ{xs:Array Value}(h:∀x∈xs,∃d,X0 d/\∀μ v',VR μ x v'->VR μ d v'):∃ds:Array Value,ds.size=xs.size/\(∀d∈ds,X0 d)/\∀μ (xs':Array Value),(∀(i:Nat) v v',xs[i]? =some v->xs'[i]? =some v'->VR μ v v')->∀(i:Nat) v v',ds[i]? =some v->xs'[i]? =some v'->VR μ v v':=by
 have h':∀i:Fin xs.size,∃d,X0 d/\∀μ v',VR μ xs[i] v'->VR μ d v':=fun i=>h xs[i] (Array.getElem_mem i.2)
 refine⟨Array.ofFn fun i=>Classical.choose (h' i),by simp,fun d hd=> ?_,fun μ xs' hx i v v' hv Z4=> ?_⟩
 ·obtain⟨i,hi⟩:=Array.mem_ofFn.1 hd;rw[<-hi];exact(Classical.choose_spec (h' i)).1
 ·rw[Array.getElem?_ofFn]at hv;split at hv
  ·rename_i hi;simp only[YO]at hv;subst hv;exact(Classical.choose_spec (h' ⟨i,hi⟩)).2 μ v' (hx i _ v' (by simp[hi]) Z4)
  ·cases hv
theorem UD(v:Value):∃d,X0 d/\∀μ v',VR μ v v'->VR μ d v':=by
 have UY:∀{v:Value},(∀μ v',VR μ v v'->(∀b,v'≠.bool b)/\v'.cells=#[v']/\v'.oneCell'=true)->∃d,X0 d/\∀μ v',VR μ v v'->VR μ d v':=
  fun h=>⟨.chan none,vR,fun μ v' hv=>.UY (h μ v' hv).1 (h μ v' hv).2.1 (h μ v' hv).2.2⟩
 match v with
 | .agg xs=>
   obtain⟨ds,e,hl,hd⟩:=oZ (xs:=xs) fun x _=>UD x
   refine⟨.agg ds,zw hl,fun μ v' hv=> ?_⟩;cases hv with
   |agg h1 h2=>exact .agg (e.trans h1) (hd μ _ h2)
 | .tuple xs=>
   obtain⟨ds,e,hl,hd⟩:=oZ (xs:=xs) fun x _=>UD x
   refine⟨.tuple ds,sT hl,fun μ v' hv=> ?_⟩;cases hv with
   |tuple h1 h2=>exact .tuple (e.trans h1) (hd μ _ h2)
 | .func (.func g) xs ys=>
   obtain⟨ds,e,hl,hd⟩:=oZ (xs:=xs) fun x _=>UD x
   obtain⟨es,e',hl',hd'⟩:=oZ (xs:=ys) fun x _=>UD x
   refine⟨.func (.func g) ds es,vS hl hl',fun μ v' hv=> ?_⟩;cases hv with
   |func h1 h2 h3 h4=>exact .func (e.trans h1) (e'.trans h2) (hd μ _ h3) (hd' μ _ h4)
 | .iface t x=>
   obtain⟨d,hl,hd⟩:=UD x;refine⟨.iface t d,sU hl,fun μ v' hv=> ?_⟩;cases hv with
   |iface hv=>exact .iface (hd μ _ hv)
 | .bool b=>exact⟨_,YD rfl,fun _ _ h=>h⟩
 | .int k n=>exact⟨_,YD rfl,fun _ _ h=>h⟩
 | .string s=>exact⟨_,YD rfl,fun _ _ h=>h⟩
 | .nilFunc=>exact⟨_,YD rfl,fun _ _ h=>h⟩
 | .nilIface=>exact⟨_,YD rfl,fun _ _ h=>h⟩
 | .chan r=>exact UY fun μ v' h=>by cases h with
   |UY a b c=>exact⟨a,b,c⟩
   |noCap=>exact⟨(fun b e=>by cases e),rfl,rfl⟩
 | .pointer a=>exact UY fun μ v' h=>by cases h <;> exact⟨(fun b e=>by cases e),rfl,rfl⟩
 | .slice a n c=>exact UY fun μ v' h=>by cases h <;> exact⟨(fun b e=>by cases e),rfl,rfl⟩
 | .map r=>exact UY fun μ v' h=>by cases h <;> exact⟨(fun b e=>by cases e),rfl,rfl⟩
 | .func (.yield l) xs ys=>exact UY fun μ v' h=>by cases h <;> exact⟨(fun b e=>by cases e),rfl,rfl⟩
 | .func (.method s) xs ys=>exact UY fun μ v' h=>by cases h
 | .func (.methodOf t s) xs ys=>exact UY fun μ v' h=>by cases h
 | .func (.via t p f q) xs ys=>exact UY fun μ v' h=>by cases h with|top a b c=>exact⟨c.nobool a,c.one a⟩
 | .float k b=>exact UY fun μ v' h=>by cases h
 | .complex k a b=>exact UY fun μ v' h=>by cases h
termination_by SizeOf.sizeOf v
decreasing_by
 all_goals simp_wf
 all_goals first
  |(have:=Array.sizeOf_lt_of_mem ‹_∈_›;omega)
  |omega
end Go.CE
namespace Go.CE
open Go Go.RowKit
end Go.CE

namespace Go.CE
open Go Go.RowKit

structure GoE (P:Program) (B:Lo) (c0:CF) (H0:Qj) (n:Nat) (c':CF) (H':Qj) (n':Nat) (W:List Nat):Prop where
 under:Under H' n'
 le:n<=n'
 sem:∀(Z:Bot) (μ:Mu) (w:World) (fr:Frame) (cs:List Frame),Ok B (fun i=>i<n) μ (Qo H0) w->B.has w->(∀i,n<=i->μ i=none)->FrR Z μ c0 fr->
  ∃fr' w' μ',Post B (fun i=>i<n) n n' W μ μ' H0 H' w w'/\FrR Z μ' c' fr'/\fr'.roundOf=fr.roundOf/\fr'.fn=fr.fn/\Steps P (lone fr cs w) (lone fr' cs w')
section
variable {P:Program} {B:Lo} {c0 c1 c2:CF} {H0 H1 H2:Qj} {n n1 n2:Nat} {W W1 W2 R2:List Nat}
theorem GoE.refl(hu:Under H0 n):GoE P B c0 H0 n c0 H0 n []:=
 ⟨hu,Lr _,fun _ μ w fr _ Q5 _ _ Xr=>⟨fr,w,μ,Post.refl Q5,Xr,rfl,rfl,Steps.refl _ _⟩⟩
theorem GoE.lists(h:GoE P B c0 H0 n c1 H1 n1 W)(hW:∀i,i<n->(i∈W1<->i∈W)):GoE P B c0 H0 n c1 H1 n1 W1:=
 ⟨h.under,h.le,fun Z μ w fr cs Q5 hB hf Xr=>let⟨fr',w',μ',hp,a⟩:=h.sem Z μ w fr cs Q5 hB hf Xr;⟨fr',w',μ',hp.lists hW,a⟩⟩
theorem GoE.step(h:GoE P B c0 H0 n c1 H1 n1 W1)(k:GoJ P B c1 H1 n1 c2 H2 n2 R2 W2):GoE P B c0 H0 n c2 H2 n2 (W1++W2):=by
 refine⟨h.under.shape k.shape,Nat.le_trans h.le k.shape.le,fun Z μ w fr cs Q5 hB hf Xr=> ?_⟩;have le1:=h.le;obtain⟨VN,w1,μ1,hp,Uh,hr,hfn,ZS⟩:=h.sem Z μ w fr cs Q5 hB hf Xr;obtain⟨fr2,w2,μ2,KT,hfr2,hr2,hfn2,hst2⟩:=k.sem _ μ1 w1 VN cs Z hp.ok (hB.post Q5 hp) (fun i hi=>hi.elim (fun e=>by omega) (fun e=>e.2)) (fun q a b=>by rw[hp.ext q (by omega)];exact hf q (by omega)) Uh
  (fun q _ QX=>by
   rcases Ly q n with h1|h1
   ·exact .inl h1
   ·exact .inr ⟨h1,QX⟩)
 exact⟨fr2,w2,μ2,hp.trans KT,hfr2,hr2.trans hr,hfn2.trans hfn,ZS.trans hst2⟩
theorem GoE.fj{out:OO}(h:GoE P B c0 H0 n c1 H1 n1 W1)(k:FJ P B c1 H1 n1 out H2 n2 R2 W2)(μ:Mu)(w:World)(fr:Frame)(cs:List Frame)(Q5:Ok B (fun i=>i<n) μ (Qo H0) w)(hB:B.has w)(hf:∀i,n<=i->μ i=none)(Xr:FrR Bot.no μ c0 fr):
 ∃XB w' μ',Post B (fun i=>i<n) n n2 (W1++W2) μ μ' H0 H2 w w'/\OR2 μ' out XB/\EndsAs P fr cs w XB w':=by
 have le1:=h.le;obtain⟨VN,w1,μ1,hp,Uh,hr,hfn,ZS⟩:=h.sem Bot.no μ w fr cs Q5 hB hf Xr;obtain⟨XB,w2,μ2,KT,ho,he⟩:=k.sem _ μ1 w1 VN cs hp.ok (hB.post Q5 hp) (fun i hi=>hi.elim (fun e=>by omega) (fun e=>e.2)) (fun q a b=>by rw[hp.ext q (by omega)];exact hf q (by omega)) Uh
  (fun q _ QX=>by
   rcases Ly q n with h1|h1
   ·exact .inl h1
   ·exact .inr ⟨h1,QX⟩)
 exact⟨XB,w2,μ2,hp.trans KT,ho,he.of_steps ZS hr hfn⟩
end

def look:List (Nat×Value)->Nat->Value->Value
 |[],_,d=>d
 |(a,v)::l,t,d=>bif Le a t then v else look l t d
theorem vT(l:List (Nat×Value))(t:Nat)(d:Value):look l t d=d\/∃v,(t,v)∈l/\look l t d=v:=by
 induction l with
 |nil=>exact .inl rfl
 |cons p l ih=>
  obtain⟨a,v⟩:=p;cases hb:Le a t with
  |true=>
   have:=YE hb;subst this;exact .inr ⟨v,by simp,by simp[look]⟩
  |false=>
   simp only[look,hb,cond_false];exact ih.imp id fun⟨v,h1,h2⟩=>⟨v,Lh _ h1,h2⟩
def Gs(live:List (Nat×Value))(d:Nat->Value):Nat->Nat->List Value
 |0,_=>[]
 |k+1,t=>look live t (d t)::Gs live d k (t+1)
theorem TM(live:List (Nat×Value))(d:Nat->Value):∀(k t:Nat),(Gs live d k t).length=k
 |0,_=>rfl
 |k+1,t=>by simp[Gs,TM live d k]
theorem xb(live:List (Nat×Value))(d:Nat->Value):∀(k t i:Nat),i<k->(Gs live d k t).getD i undef=look live (t+i) (d (t+i))
 |0,_,i,h=>by omega
 |k+1,t,0,_=>rfl
 |k+1,t,i+1,h=>by
  have:=xb live d k (t+1) i (by omega);rw[show t+(i+1)=t+1+i by omega,<-this];rfl
def Dz(len:Nat)(live:List (Nat×Value))(d:Nat->Value):Tm:=ofList len (Gs live d len 0)
theorem Ex{len:Nat}{live:List (Nat×Value)}{d:Nat->Value}(hl:len<=16000)(t:Nat):Xm (Dz len live d) t=if t<len then look live t (d t)else undef:=by
 have h:=SQ (Gs live d len 0) 0 .lf t (by rw[TM];omega);have e:Xm (Dz len live d) t=(GI (Gs live d len 0) 0 .lf).get t:=rfl;rw[e,h];simp only[Nat.zero_le,true_and,Lv,TM,Nat.sub_zero,Tri.get_lf];split
 ·rename_i ht;rw[xb live d len 0 t ht,Lv]
 ·rfl
def WU:Item->Bool
 | .endRangeFunc _=>false
 | .inRangeFunc _=>false
 |_=>true
theorem TodoR.plain{μ μ1:Mu}{l L:List Item}(h:TodoR μ l L)(hp:l.all WU=true):TodoR μ1 l L:=by
 induction h with
 |nil=>exact .nil
 |cons hi _ ih=>
  simp only[List.all_cons,YB]at hp;refine .cons ?_ (ih hp.2);cases hi with
  |code c=>exact .code c
  |inBlock id=>exact .inBlock id
  |inLoop c=>exact .inLoop c
  |inScope c=>exact .inScope c
  |beginRound=>exact .beginRound
  |endRF h=>cases hp.1
def Xl(f:FuncId)(len:Nat)(live:List (Nat×Value))(d:Nat->Value)(todo:List Item):CF:=⟨f,Dz len live d,todo,[],.run,none⟩
end Go.CE

namespace Go.CE
open Go Go.RowKit

inductive Hint where
 |val (v:Value)
 |idx (k:Nat)
 |ld (v:Value)
 |raw (v:Value)
 |len (n:Nat)
 |eq (b:Bool)
 |app (cs:Array Value)
 |mk (m:Nat) (cs:Array Value)
 |st (cs:Array Value)
 |call (keys:List Nat) (out:Value) (VQ:Qj) (n':Nat) (W:List Nat)
 |look (v:Value)
 |upd (es:Array MapEntry) (YN:Nat)
 |nil
def HF:Value->Value->Prop
 | .int k a,.int k' b=>bif decide (k=k')then a=b else False
 | .bool a,.bool b=>a=b
 |u,v=>u=v
theorem F9{u v:Value}(h:HF u v):u=v:=by
 unfold HF at h;split at h
 ·rename_i k a k' b;by_cases e:k=k'
  ·simp only[e,decide_true,cond_true]at h;rw[e,h]
  ·simp[e]at h
 ·rw[h]
 ·exact h
def U4:Option Nat->Bool
 |none=>true
 |some 0=>true
 |_=>false
def Dw(v:Value)(m:Nat):Prop:=∀μ v',VR μ v v'->∃a c,v'=.slice a m c
theorem kT{P:Program}{t:TypeId}{cs:Array Value}{off:Nat}{v:Value}(h:Kb P t cs off=some v)(w:World):(part t cs off).run P w=.ok v w:=by
 unfold Kb at h;cases ha:lk P t with
 |none=>rw[ha]at h;cases h
 |some b=>
  rw[ha]at h;cases b with
  |true=>
   cases hs:ZM P t with
   |none=>rw[hs]at h;cases h
   |some s=>
    rw[hs]at h;dsimp only at h;cases hb:LC (off+s) cs.size with
    |false=>rw[hb]at h;cases h
    |true=>
     rw[hb]at h;simp only[cond_true,YO]at h;subst h;simp only[part,Sem.run_bind,Ul ha,Result.andThen_ok,if_true,XH hs,Sem.run_pure]
  |false=>
   simp only at h;simp only[part,Sem.run_bind,Ul ha,Result.andThen_ok,h];rfl
def WW(v:Value):Bool:=af v
def z7(P:Program)(rec:TypeId->Value->Value->Option Bool):List Field->Array Value->Array Value->Option Bool
 |[],_,_=>some true
 |f::fs,xs,ys=>bif decide (f.name= "_")then z7 P rec fs xs ys else
  match Kb P f.type xs f.offset,Kb P f.type ys f.offset with
  |some a,some b=>match rec f.type a b,z7 P rec fs xs ys with
   |some r,some q=>some (r && q)
   |_,_=>none
  |_,_=>none
def GL(P:Program):Nat->TypeId->Value->Value->Option Bool
 |0,_,_,_=>none
 |d+1,t,x,y=>match Yb P t,x,y with
  |some (.int _),.int k a,.int k' b=>bif decide (k=k')then some (Jv a b)else none
  |some .bool,.bool a,.bool b=>some (bif a then b else !b)
  |some (.struct fs),.agg xs,.agg ys=>bif P.stoodInHeld t then none else z7 P (GL P d) fs.toList xs ys
  |_,_,_=>none
theorem kK{P:Program}{rec:TypeId->Value->Value->Option Bool}(d:Nat)(Wu:∀t x y r,rec t x y=some r->∀(D:Nat) (w:World),d<=D->(Op.equalIn D t x y).run P w=.ok r w):∀(fs:List Field) (xs ys:Array Value) (r:Bool),z7 P rec fs xs ys=some r->∀(D:Nat) (w:World),d<=D->(Op.eqFields D xs ys fs).run P w=.ok r w
 |[],xs,ys,r,h,D,w,hD=>by
  simp only[z7,YO]at h;subst h;simp[Op.eqFields]
 |f::fs,xs,ys,r,h,D,w,hD=>by
  unfold z7 at h;by_cases e:f.name= "_"
  ·simp only[e,decide_true,cond_true]at h;simp only[Op.eqFields,e,ne_eq,not_true_eq_false,if_false];exact kK d Wu fs xs ys r h D w hD
  ·simp only[e,decide_false,cond_false]at h;split at h
   ·rename_i a b ha hb;split at h
    ·rename_i r1 q h1 h2;simp only[YO]at h;subst h;have pa:(part f.type xs f.offset).run P w=.ok a w:=kT ha w;have pb:(part f.type ys f.offset).run P w=.ok b w:=kT hb w;simp only[Op.eqFields,e,ne_eq,not_false_eq_true,if_true,Sem.run_bind,pa,Result.andThen_ok,pb,Wu f.type a b r1 h1 D w hD];cases r1 with
     |true=>simpa using kK d Wu fs xs ys q h2 D w hD
     |false=>simp
    ·cases h
   ·cases h
theorem oH{P:Program}:∀(d:Nat) (t:TypeId) (x y:Value) (r:Bool),GL P d t x y=some r->∀(D:Nat) (w:World),d<=D->(Op.equalIn D t x y).run P w=.ok r w
 |0,t,x,y,r,h,D,w,hD=>by simp[GL]at h
 |d+1,t,x,y,r,h,D,w,hD=>by
  obtain⟨D,rfl⟩:∃e,D=e+1:=⟨D-1,by omega⟩
  unfold GL at h;simp only[XR]at h;split at h
  ·rename_i k0 k a k' b hu;by_cases e:k=k'
   ·subst e;simp only[decide_true,cond_true,YO]at h;rw[run_equalIn_int w D t k k0 a b hu,<-h,cD]
   ·simp[e]at h
  ·rename_i a b hu;simp only[YO]at h;rw[run_equalIn_bool' w D t a b hu,<-h];cases a <;> cases b <;> rfl
  ·rename_i fs xs ys hu;cases hs:P.stoodInHeld t with
   |true=>rw[hs]at h;cases h
   |false=>
    rw[hs]at h;simp only[cond_false]at h;have hf:P.fieldsOf t=fs:=by simp[Program.fieldsOf,hu]
    rw[run_equalIn_struct w D t xs ys (by rw[hf];exact hu) hs,hf];exact kK d (oH d) fs.toList xs ys r h D w (by omega)
  ·cases h
def xt(B:Lo)(b off:Nat)(v:Value):Prop:=∀w,B.has w->∃v',w.cell? ⟨b,off,none⟩=some v'/\∀μ,VR μ v v'
def lr(P:Program)(B:Lo)(g:FuncId)(args:Array Value)(H:Qj)(n:Nat)(out:OO)(H':Qj)(n':Nat)(R W:List Nat):Prop:=
 Shape H n H' n' R W/\∀(S:Nat->Prop) (μ:Mu) (w:World) (args':Array Value) (cs:List Frame),Ok B S μ (Qo H) w->B.has w->(∀i,S i->i<n)->Ya μ n n'->VRs μ args args'->(∀i∈R,i<n->S i)->
  ∃XB w' μ',Post B S n n' W μ μ' H H' w w'/\OR2 μ' out XB/\EndsAs P (Frame.enter P g args' .normal) cs w XB w'
def CJ(P:Program)(B:Lo)(g:FuncId)(args:Array Value)(Hs:List (Nat×Option Obj))(n:Nat)(out:Value)(VQ:Qj)(n':Nat)(W:List Nat):Prop:=
 ∀H,Under H n->(∀p∈Hs,Qo H p.1=p.2)->lr P B g args H n (.ret out) (VQ++H) n' (Hs.map (·.1)) W
def RJ(P:Program)(B:Lo)(c:CF)(Hs:List (Nat×Option Obj))(n:Nat)(out:Value)(VQ:Qj)(n':Nat)(W:List Nat):Prop:=
 ∀H,Under H n->(∀p∈Hs,Qo H p.1=p.2)->FJ P B c H n (.ret out) (VQ++H) n' (Hs.map (·.1)) W
open Classical in
noncomputable def P8(c:CF)(H1:Qj)(n:Nat)(s:Rs):CF->Qj->Nat->Option Rs:=fun c' H' m'=>if c'=c/\H'=H1/\m'=n then some s else none
theorem J7(c:CF)(H1:Qj)(n:Nat)(s:Rs):P8 c H1 n s c H1 n=some s:=by simp[P8]
theorem RJ.recS{P:Program}{B:Lo}{c:CF}{H1:Qj}{n:Nat}{out:Value}{VQ:Qj}{n':Nat}{W keys:List Nat}(hu:Under H1 n)(h:RJ P B c (keys.map fun k=>(k,Qo H1 k)) n out VQ n' W):cP P B (P8 c H1 n ⟨.ret out,VQ++H1,n',keys,W⟩):=by
 intro c' H' m' s _ hs;unfold P8 at hs;split at hs
 ·rename_i q;obtain⟨rfl,rfl,rfl⟩:=q;simp only[YO]at hs;subst hs;have:=h H' hu (fun p hp=>by
   obtain⟨k,_,rfl⟩:=List.mem_map.1 hp;rfl)
  rw[List.map_map]at this;have e:keys.map ((fun p:Nat×Option Obj=>p.1) ∘ fun k=>(k,Qo H' k))=keys:=List.map_id' _;rw[e]at this;exact this
 ·cases hs
structure Told where
 s:Rs
 p:Option Prop
def GA(P:Program)(t:TypeId)(H:Qj)(n:Nat)(s x:Value)(cs':Array Value):Option (CR×Prop):=
 match Yb P t with
 |some (.slice e)=>match inf P e with
  |some i=>match i.zero,i.size with
   |some zv,z+1=>match s with
    | .slice (some ⟨b,0,none⟩) k s'=>match Qo H b with
      |some (.cells cs te (0,0))=>match iU H (z+1) x with
       |some (ns,m,bx)=>bif Le te e && Le s' (z+1) && ones ns && Le zv.cells.size (z+1) && Lk 0 m then
        some (⟨.val (.slice (some ⟨n,0,none⟩) (k+m) (z+1)),(n,.cells cs' e (0,0))::Re H (some b),n+1,[bx,b],[b]⟩,cs.size=k*(z+1)/\k+m<=maxLen/\(k+m)*i.bytes<=140737488355328/\cs++ns=cs')
         else none
       |none=>none
      |_=>none
    |_=>none
   |_,_=>none
  |none=>none
 |_=>none

def YM(P:Program)(t:TypeId)(es:Array MapEntry)(ok:Bool)(k v:Value):Prop:=∀H r YN,Qo H r=some (.map es YN)->PZ P t H ok (.map (some r)) k=some (v,[r])
def cQ(P:Program)(t:TypeId)(es:Array MapEntry)(YN:Nat)(k v:Value)(Uw:Array MapEntry)(clk':Nat):Prop:=∀H r,Qo H r=some (.map es YN)->Uz P t H (.map (some r)) k v=some (WK H r (.map Uw clk'),r)
def Hm(P:Program)(F:FuncId->Bool)(B:Lo)(T:Tm)(o:Oper)(H:Qj)(n:Nat):Option Hint->Option Told
 |none=>match o.op with
  | .fieldAddr s x f=>match X8 T x with
    |some (.pointer (some ⟨b,off,some 0⟩))=>match ZA P s f (.pointer (some ⟨b,off,none⟩))with
     |some (.pointer (some ⟨b',off',none⟩))=>some ⟨⟨.ret (.pointer (some ⟨b',off',some 0⟩)),H,n,[],[]⟩,none⟩
     |_=>none
    |_=>match TL P F Xh (fun _ _ _=>none) T o H n with|some s=>some ⟨s,none⟩|none=>none
  |_=>match TL P F Xh (fun _ _ _=>none) T o H n with|some s=>some ⟨s,none⟩|none=>none
 |some (.val v)=>match TL P F Xh (fun _ _ _=>none) T o H n with
  |some ⟨.ret u,H1,n1,R,W⟩=>some ⟨⟨.ret v,H1,n1,R,W⟩,some (HF u v)⟩
  |_=>none
 |some (.idx k)=>match o.op with
  | .indexAddr t x i=>match X8 T x,X8 T i with
    |some (.slice (some ⟨b,off,sp⟩) len _),some (.int _ q)=>match Yb P t with
     |some (.slice e)=>match ZM P e with
      |some z=>bif U4 sp then some ⟨⟨.ret (.pointer (some ⟨b,off+k*z,sp⟩)),H,n,[],[]⟩,some (q=(k:Int)/\k<len)⟩else none
      |none=>none
     |_=>none
    |some (.pointer (some ⟨b,off,sp⟩)),some (.int _ q)=>match Yb P t with
     |some (.array len e)=>match ZM P e with
      |some z=>bif U4 sp then some ⟨⟨.ret (.pointer (some ⟨b,off+k*z,sp⟩)),H,n,[],[]⟩,some (q=(k:Int)/\k<len)⟩else none
      |none=>none
     |_=>none
    |_,_=>none
  |_=>none
 |some (.ld v)=>match o.op with
  | .load t a=>match X8 T a with
    |some (.pointer (some ⟨b,off,none⟩))=>match Qo H b with
     |some (.cells cs _ _)=>bif Lk b n then match lk P t with
      |some true=>match ZM P t,v with
       |some z,.agg xs=>some ⟨⟨.ret v,H,n,[b],[]⟩,some (off+z<=cs.size/\cs.extract off (off+z)=xs)⟩
       |_,_=>none
      |some false=>some ⟨⟨.ret v,H,n,[b],[]⟩,some (cs[off]? =some v)⟩
      |none=>none
      else none
     |_=>none
    |_=>none
  |_=>none
 |some (.raw v)=>match o.op with
  | .load t a=>match X8 T a with
    |some (.pointer (some ⟨b,off,some 0⟩))=>match lk P t with
     |some true=>match ZM P t,v with
      |some z,.agg xs=>bif Le xs.size z then some ⟨⟨.ret v,H,n,[],[]⟩,some (∀(j:Nat) u,xs[j]? =some u->xt B b (off+j) u)⟩else none
      |_,_=>none
     |some false=>some ⟨⟨.ret v,H,n,[],[]⟩,some (xt B b off v)⟩
     |none=>none
    |_=>none
  |_=>none
 |some (.eq b)=>match o.op with
  | .binOp op t x y _=>match X8 T x,X8 T y with
    |some (.agg xs),some (.agg ys)=>bif P.eqGuardType P.depth t then none else match op with
     | .eql=>match GL P 100 t (.agg xs) (.agg ys)with
       |some r=>bif WW (.agg xs) && WW (.agg ys)then some ⟨⟨.ret (.bool b),H,n,[],[]⟩,some (r=b)⟩else none
       |none=>none
     | .neq=>match GL P 100 t (.agg xs) (.agg ys)with
       |some r=>bif WW (.agg xs) && WW (.agg ys)then some ⟨⟨.ret (.bool b),H,n,[],[]⟩,some ((!r)=b)⟩else none
       |none=>none
     |_=>none
    |_,_=>none
  |_=>none
 |some (.len m)=>match o.op with
  | .call c=>match c.callee with
    | .builtin .len=>match c.args.toList,c.argTypes.toList with
      |[x],[t]=>match X8 T x,Yb P t with
       |some v,some (.slice _)=>some ⟨⟨.ret (.int .i64 m),H,n,[],[]⟩,some (Dw v m)⟩
       |_,_=>none
      |_,_=>none
    |_=>none
  |_=>none
 |some (.app cs')=>match o.op with
  | .call c=>match c.callee with
    | .builtin .append=>match c.args.toList,c.argTypes.toList with
      |[s,x],[t,t']=>bif Le t t' then
       match X8 T s,X8 T x with
       |some sv,some xv=>match GA P t H n sv xv cs' with
        |some (⟨.val v,H1,n1,R,W⟩,p)=>bif R.all (fun i=>Lk i n)then some ⟨⟨.ret v,H1,n1,R,W⟩,some p⟩else none
        |_=>none
       |_,_=>none
        else none
      |_,_=>none
    |_=>none
  |_=>none
 |some (.mk m cs)=>match o.op with
  | .makeSlice t l c=>match X8 T l,X8 T c with
    |some x,some y=>match Yb P t with
     |some (.slice e)=>match ZM P e with
      |some z=>some ⟨⟨.ret (.slice (some ⟨n,0,none⟩) m z),(n,.cells cs e (0,0))::H,n+1,[],[]⟩,some (Rf P t x y=some (e,cs,m,z))⟩
      |none=>none
     |_=>none
    |_,_=>none
  |_=>none
 |some (.st cs')=>match o.op with
  | .store t a x=>match X8 T a,X8 T x with
    |some (.pointer (some ⟨b,off,none⟩)),some v=>match Qo H b with
     |some (.cells cs te (0,0))=>match ZM P t with
      |some z=>bif Lk b n && Le v.cells.size z && ones v.cells then some ⟨⟨.ret undef,WK H b (.cells cs' te (0,0)),n,[b],[b]⟩,some (off+z<=cs.size/\splice cs off v.cells=cs')⟩else none
      |none=>none
     |_=>none
    |_,_=>none
  |_=>none
 |some (.call keys out VQ n' W)=>match o.op with
  | .call _=>match YI P F (X8 T) o H n with
    |some ⟨.enter g args,H1,n1,R,W1⟩=>bif Le n1 n && W1.isEmpty then some ⟨⟨.ret out,VQ++H1,n',R++keys,W⟩,some (CJ P B g args (keys.map fun k=>(k,Qo H1 k)) n out VQ n' W)⟩else none
    |some ⟨.round l fn tm a b,H1,n1,R,W1⟩=>bif Le n1 n && W1.isEmpty && LC tm.size 16000 then some ⟨⟨.ret out,VQ++H1,n',R++keys,W⟩,some (RJ P B ⟨fn,ofList tm.size tm.toList,[.code a,.beginRound,.code b],[],.run,some l⟩ (keys.map fun k=>(k,Qo H1 k)) n out VQ n' W)⟩else none
    |_=>none
  |_=>none
 |some (.look v)=>match o.op with
  | .lookup t x k ok=>match X8 T x,X8 T k with
    |some (.map (some r)),some kv=>match Qo H r with
     |some (.map es _)=>bif Lk r n then some ⟨⟨.ret v,H,n,[r],[]⟩,some (YM P t es ok kv v)⟩else none
     |_=>none
    |_,_=>none
  |_=>none
 |some (.upd Uw clk')=>match o.op with
  | .mapUpdate t m k x=>match X8 T m,X8 T k,X8 T x with
    |some (.map (some r)),some kv,some v=>match Qo H r with
     |some (.map es YN)=>bif Lk r n then some ⟨⟨.ret undef,WK H r (.map Uw clk'),n,[r],[r]⟩,some (cQ P t es YN kv v Uw clk')⟩else none
     |_=>none
    |_,_,_=>none
  |_=>none
 |some .nil=>match o.op with
  | .call c=>match c.callee with
    | .builtin .append=>match c.args.toList,c.argTypes.toList with
      |[s,x],[t,t']=>bif Le t t' then match X8 T s,X8 T x with
       |some (.slice none 0 0),some (.slice none 0 0)=>match Yb P t with
        |some (.slice e)=>match ZM P e with
         |some _=>some ⟨⟨.ret (.slice none 0 0),H,n,[],[]⟩,none⟩
         |none=>none
        |_=>none
       |_,_=>none
        else none
      |_,_=>none
    |_=>none
  |_=>none
section
variable {P:Program} {F:FuncId->Bool} {B:Lo} {T:Tm} {o:Oper} {H:Qj} {n:Nat}
theorem Yc:cP P B (fun _ _ _=>none):=fun _ _ _ _ _ h=>by cases h
theorem Uj{v:Value}{ev:Operand->Option Value}(hd:∀c,o.op≠.defer c)(h:∀(μ:Mu) (w:World) (ρ:Operand->Value),B.has w->(∀x∈o.op.operands,∀v,ev x=some v->VR μ v (ρ x))->∃v',(execOp ρ o).run P w=.ok (.value v') w/\VR μ v v'):
 Ps P B o ev H n (.ret v) H n [] []:=fun _ μ w fr _ _ _ _ _ Q5 hB _ _ Xy _ hm ht ho hw=>
 let⟨v',h1,h2⟩:=h μ w fr.eval hB Xy
 ⟨.ret v',w,μ,Post.refl Q5,.ret h2,Y7 hm ht ho hw hd h1⟩
theorem Sk{s:TypeId}{f b off:Nat}{b' off':Nat}(h:ZA P s f (.pointer (some ⟨b,off,none⟩))=some (.pointer (some ⟨b',off',none⟩)))(w:World):b'=b/\(Instr.fieldAt s (.pointer (some ⟨b,off,none⟩)) f).run P w=.ok (.pointer (some ⟨b',off',none⟩)) w:=by
 unfold ZA at h;simp only[XR]at h;split at h
 ·rename_i fields hu;cases hfd:fields[f]? with
  |none=>rw[hfd]at h;cases h
  |some fd=>
   rw[hfd]at h;dsimp only at h;split at h
   ·rename_i z hz;simp only[YO,Value.pointer.injEq,Addr.mk.injEq,and_true]at h;obtain⟨rfl,rfl⟩:=h;refine⟨rfl, ?_⟩;simp only[Instr.fieldAt,Sem.run_bind,run_underlying hu,Result.andThen_ok,hfd,Instr.sureAddr,Sem.run_pure,fieldPlace,XH hz,ZR];simp
   ·cases h
 ·cases h
theorem mD{t e:TypeId}{b off len c z k:Nat}{q:Int}{kk:IntKind}(hu:Yb P t=some (.slice e))(hz:ZM P e=some z)(hq:q=(k:Int))(hk:k<len)(w:World):
 (Instr.indexAt t (.slice (some ⟨b,off,none⟩) len c) (.int kk q)).run P w=.ok (.pointer (some ⟨b,off+k*z,none⟩)) w:=by
 rw[XR]at hu;subst hq;have hc:0<=(k:Int)/\(k:Int)<len:=by omega
 simp only[Instr.indexAt,Sem.run_bind,asIntOf,Sem.run_pure,Result.andThen_ok,run_underlying hu,hc,and_self,if_true,XH hz,ZR,LK]
theorem bF{t e:TypeId}{b off len z k:Nat}{q:Int}{kk:IntKind}(hu:Yb P t=some (.array len e))(hz:ZM P e=some z)(hq:q=(k:Int))(hk:k<len)(w:World):
 (Instr.indexAt t (.pointer (some ⟨b,off,none⟩)) (.int kk q)).run P w=.ok (.pointer (some ⟨b,off+k*z,none⟩)) w:=by
 rw[XR]at hu;subst hq;have hc:0<=(k:Int)/\(k:Int)<len:=by omega
 simp only[Instr.indexAt,Sem.run_bind,asIntOf,Sem.run_pure,Result.andThen_ok,run_underlying hu,Instr.sureAddr,hc,and_self,if_true,XH hz,ZR,LK]
theorem Fe{μ:Mu}{b off k z:Nat}{sp:Option Nat}{v':Value}(hsp:U4 sp=true)(h:VR μ (.pointer (some ⟨b,off,sp⟩)) v'):∃b' off',v'=.pointer (some ⟨b',off',none⟩)/\VR μ (.pointer (some ⟨b,off+k*z,sp⟩)) (.pointer (some ⟨b',off'+k*z,none⟩)):=by
 cases h with
 |ptr har=>
  obtain⟨im,h1,h2,rfl⟩:=har;simp only at h2;subst h2;exact⟨_,_,rfl,.ptr ⟨im,h1,rfl,by simp[Nat.add_assoc]⟩⟩
 |Kg _ _ q=>
  cases q with
  |zero=>exact⟨_,_,rfl,.Kg _ _ 0⟩
  |succ q=>cases hsp
theorem zW{μ:Mu}{b off len s k z:Nat}{sp:Option Nat}{v':Value}(hsp:U4 sp=true)(h:VR μ (.slice (some ⟨b,off,sp⟩) len s) v'):∃b' off' c',v'=.slice (some ⟨b',off',none⟩) len c'/\VR μ (.pointer (some ⟨b,off+k*z,sp⟩)) (.pointer (some ⟨b',off'+k*z,none⟩)):=by
 cases h with
 |slice har=>
  obtain⟨im,h1,h2,rfl⟩:=har;simp only at h2;subst h2;exact⟨_,_,_,rfl,.ptr ⟨im,h1,rfl,by simp[Nat.add_assoc]⟩⟩
 |rawSlice _ _ q=>
  cases q with
  |zero=>exact⟨_,_,_,rfl,.Kg _ _ 0⟩
  |succ q=>cases hsp
theorem k9{μ:Mu}{k:IntKind}{q:Int}{v':Value}(h:VR μ (.int k q) v'):v'=.int k q:=by cases h;rfl
theorem lA{t e ty:TypeId}{z:Nat}(hu:Yb P t=some (.slice e))(hz:ZM P e=some z)(w:World):(Builtin.append_ #[t,t] ty #[.slice none 0 0,.slice none 0 0]).run P w=.ok (.slice none 0 0) w:=by
 rw[XR]at hu;simp[Builtin.append_,Sem.run_bind,run_underlying hu,Result.andThen_ok,XH hz,Builtin.lenOf,Builtin.firstCells,Sem.run_pure]
theorem m5(hF:∀g,F g=true->Q0 P g=true)(hu:Under H n){h:Option Hint}{a:Told}(e:Hm P F B T o H n h=some a)(hp:∀p,a.p=some p->p):
 Ps P B o (X8 T) H n a.s.out a.s.H a.s.n a.s.R a.s.W/\Shape H n a.s.H a.s.n a.s.R a.s.W:=by
 have plain:∀{s:Rs},TL P F Xh (fun _ _ _=>none) T o H n=some s->Ps P B o (X8 T) H n s.out s.H s.n s.R s.W/\Shape H n s.H s.n s.R s.W:=fun h=>Kj hF Yc (Q7 P B) hu h
 have plain':(match TL P F Xh (fun _ _ _=>none) T o H n with|some s=>some (⟨s,none⟩:Told)|none=>none)=some a->Ps P B o (X8 T) H n a.s.out a.s.H a.s.n a.s.R a.s.W/\Shape H n a.s.H a.s.n a.s.R a.s.W:=by
  intro h;split at h
  ·rename_i s hs;simp only[YO]at h;subst h;exact plain hs
  ·cases h
 unfold Hm at e;split at e
 ·-- nothing is told
  split at e
  ·rename_i s x f XF;split at e
   ·rename_i b off hx;split at e
    ·rename_i b' off' hc;simp only[YO]at e;subst e;refine⟨Uj (fun c h=>by rw[XF]at h;cases h) fun μ w ρ _ Xy=> ?_,Shape.same _ _ _⟩;have hv:=Xy x (by simp[XF,Op.operands]) _ hx;obtain⟨rfl,hr⟩:=Sk (P:=P) hc w;generalize hg:ρ x=u at hv;cases hv with
     |ptr har=>obtain⟨im,_,h2,_⟩:=har;cases h2
     |Kg=>exact⟨_,by simp[execOp,XF,hg,hr,fL],.Kg _ _ 0⟩
    ·cases e
   ·exact plain' e
  ·exact plain' e
 ·-- a value
  rename_i v;split at e
  ·rename_i u H1 n1 R W hs;simp only[YO]at e;subst e;have:=F9 (hp _ rfl);subst this;exact plain hs
  ·cases e
 ·-- an element's address
  rename_i k;split at e
  ·rename_i t x i XF;split at e
   ·rename_i b off sp len c kk q hx hi;split at e
    ·rename_i el hue;split at e
     ·rename_i z hz;have hsp:U4 sp=true:=by
       cases h:U4 sp with
       |true=>rfl
       |false=>rw[h]at e;cases e
      rw[hsp]at e;simp only[cond_true,YO]at e;subst e;obtain⟨hq,hk⟩:=hp _ rfl;refine⟨Uj (fun c h=>by rw[XF]at h;cases h) fun μ w ρ _ Xy=> ?_,Shape.same _ _ _⟩;obtain⟨b',off',c',h1,h2⟩:=zW (k:=k) (z:=z) hsp (Xy x (by simp[XF,Op.operands]) _ hx);have h3:=k9 (Xy i (by simp[XF,Op.operands]) _ hi);exact⟨_,by simp[execOp,XF,h1,h3,mD hue hz hq hk],h2⟩
     ·cases e
    ·cases e
   ·rename_i b off sp kk q hx hi;split at e
    ·rename_i len el hue;split at e
     ·rename_i z hz;have hsp:U4 sp=true:=by
       cases h:U4 sp with
       |true=>rfl
       |false=>rw[h]at e;cases e
      rw[hsp]at e;simp only[cond_true,YO]at e;subst e;obtain⟨hq,hk⟩:=hp _ rfl;refine⟨Uj (fun c h=>by rw[XF]at h;cases h) fun μ w ρ _ Xy=> ?_,Shape.same _ _ _⟩;obtain⟨b',off',h1,h2⟩:=Fe (k:=k) (z:=z) hsp (Xy x (by simp[XF,Op.operands]) _ hx);have h3:=k9 (Xy i (by simp[XF,Op.operands]) _ hi);exact⟨_,by simp[execOp,XF,h1,h3,bF hue hz hq hk],h2⟩
     ·cases e
    ·cases e
   ·cases e
  ·cases e
 ·-- a load of one's own
  rename_i v;split at e
  ·rename_i t x XF;split at e
   ·rename_i b off hx;split at e
    ·rename_i cs te fz hg;have key:Lk b n=true->Kb P t cs off=some v->Ps P B o (X8 T) H n (.ret v) H n [b] []/\Shape H n H n [b] []:=by
      intro hb hc;refine plain (s:=⟨.ret v,H,n,[b],[]⟩) ?_;have hcop:oK P F (X8 T) o H n=some ⟨.val v,H,n,[b],[]⟩:=by simp[oK,XF,hx,Po,hg,hc]
      have hcr:YI P F (X8 T) o H n=some ⟨.val v,H,n,[b],[]⟩:=by simp[YI,hcop,hb]
      simp[TL,XF,hcr]
     have e:=Kr (q:=Lk b n) e;have hb:Lk b n=true:=by
      have:=hu.lt hg;exact Lx this
     split at e
     ·rename_i hag;split at e
      ·rename_i z xs hz _;simp only[YO]at e;subst e;obtain⟨h1,h2⟩:=hp _ rfl;refine key hb ?_;simp only[Kb,hag,hz,Lx h1,cond_true,h2]
      ·cases e
     ·rename_i hag;simp only[YO]at e;subst e;refine key hb ?_;simp only[Kb,hag];exact hp _ rfl
     ·cases e
    ·cases e
   ·cases e
  ·cases e
 ·-- a load of memory Yo nobody writes
  rename_i v;split at e
  ·rename_i t x XF;split at e
   ·rename_i b off hx;split at e
    ·rename_i hag;split at e
     ·rename_i z xs hz;cases Zc:Le xs.size z with
      |false=>rw[Zc]at e;cases e
      |true=>
       rw[Zc]at e;simp only[cond_true,YO]at e;subst e;have Zc:=YE Zc;have hc:=hp _ rfl;refine⟨Uj (fun c h=>by rw[XF]at h;cases h) fun μ w ρ hB Xy=> ?_,Shape.same _ _ _⟩;have hv:=Xy x (by simp[XF,Op.operands]) _ hx;have hf:∀j,j<z->∃v,xs[j]? =some v/\w.cell? ⟨b,off+j,none⟩=some ((w.cell? ⟨b,off+j,none⟩).getD undef)/\VR μ v ((w.cell? ⟨b,off+j,none⟩).getD undef):=by
        intro j hj;have QX:j<xs.size:=by omega
        obtain⟨v',a,b⟩:=hc j xs[j] (by simp[QX]) w hB;exact⟨xs[j],by simp[QX],by simp[a],by simpa[a]using b μ⟩
       have hr:=run_loadCells (P:=P) w ⟨b,off,none⟩ z (fun j=>(w.cell? ⟨b,off+j,none⟩).getD undef) (fun j hj=>by
        obtain⟨_,_,hc,_⟩:=hf j hj;rw[ZR];exact hc)
       generalize hg:ρ x=u at hv;cases hv with
       |ptr har=>obtain⟨im,_,h2,_⟩:=har;cases h2
       |Kg=>
        refine⟨.agg _,by simp[execOp,XF,hg,Instr.loadAt,Instr.sureAddr,loadVar,Ul hag,XH hz,fL,hr];rfl,.agg (by simp[Zc]) fun i v v' hv Z4=> ?_⟩;have hi:i<z:=by
         have:=(Array.getElem?_eq_some_iff.1 hv).1;omega
        obtain⟨u,h1,_,h2⟩:=hf i hi;rw[hv]at h1;cases h1;simp[hi]at Z4;rw[<-Z4];exact h2
     ·cases e
    ·rename_i hag;simp only[YO]at e;subst e;have hc:=hp _ rfl;refine⟨Uj (fun c h=>by rw[XF]at h;cases h) fun μ w ρ hB Xy=> ?_,Shape.same _ _ _⟩;have hv:=Xy x (by simp[XF,Op.operands]) _ hx;obtain⟨v',h1,h2⟩:=hc w hB;generalize hg:ρ x=u at hv;cases hv with
     |ptr har=>obtain⟨im,_,h2,_⟩:=har;cases h2
     |Kg=>exact⟨v',by simp[execOp,XF,hg,Instr.loadAt,Instr.sureAddr,loadVar,Ul hag,run_load,fL,h1],h2 μ⟩
    ·cases e
   ·cases e
  ·cases e
 ·-- a comparison of structs
  rename_i b;split at e
  ·rename_i op t x y ty XF;split at e
   ·rename_i xs ys hx hy;cases hgt:P.eqGuardType P.depth t with
    |true=>rw[hgt]at e;cases e
    |false=>
     rw[hgt]at e;simp only[cond_false]at e;have vals:WW (.agg xs)=true->WW (.agg ys)=true->∀(μ:Mu) (ρ:Operand->Value),(∀x∈o.op.operands,∀v,X8 T x=some v->VR μ v (ρ x))->ρ x=.agg xs/\ρ y=.agg ys:=fun h1 h2 μ ρ Xy=>
      ⟨Pr h1 (Xy x (by simp[XF,Op.operands]) _ hx),Pr h2 (Xy y (by simp[XF,Op.operands]) _ hy)⟩
     split at e
     ·split at e
      ·rename_i r hr;cases hl:(WW (.agg xs) && WW (.agg ys))with
       |false=>simp only[hl]at e;cases e
       |true=>
        simp only[hl,cond_true,YO]at e;subst e;have WX:r=b:=hp _ rfl;subst WX;simp only[YB]at hl;refine⟨Uj (fun c h=>by rw[XF]at h;cases h) fun μ w ρ _ Xy=> ?_,Shape.same _ _ _⟩;obtain⟨e1,e2⟩:=vals hl.1 hl.2 μ ρ Xy;refine⟨.bool r, ?_,.bool _⟩;simp[execOp,XF,e1,e2,run_eqGuard_agg w _ t x y xs ys hgt,run_eql_struct,oH 100 t _ _ r hr 10000 w (by omega)]
      ·cases e
     ·split at e
      ·rename_i r hr;cases hl:(WW (.agg xs) && WW (.agg ys))with
       |false=>simp only[hl]at e;cases e
       |true=>
        simp only[hl,cond_true,YO]at e;subst e;have WX:(!r)=b:=hp _ rfl;subst WX;simp only[YB]at hl;refine⟨Uj (fun c h=>by rw[XF]at h;cases h) fun μ w ρ _ Xy=> ?_,Shape.same _ _ _⟩;obtain⟨e1,e2⟩:=vals hl.1 hl.2 μ ρ Xy;refine⟨.bool (!r), ?_,.bool _⟩;simp[execOp,XF,e1,e2,run_eqGuard_agg w _ t x y xs ys hgt,binOp,Op.equal,Op.maxDepth,oH 100 t _ _ r hr 10000 w (by omega)]
      ·cases e
     ·cases e
   ·cases e
  ·cases e
 ·-- a slice's length
  rename_i m;split at e
  ·rename_i c XF;split at e
   ·rename_i hc;split at e
    ·rename_i x t ha ht;split at e
     ·rename_i v el hx hu;rw[XR]at hu;simp only[YO]at e;subst e;refine⟨Uj (fun c h=>by rw[XF]at h;cases h) fun μ w ρ hB Xy=> ?_,Shape.same _ _ _⟩;have ea:c.args=#[x]:=by rw[<-ha]
      have et:c.argTypes=#[t]:=by rw[<-ht]
      obtain⟨a,cp,hv⟩:=hp _ rfl μ _ (Xy x (by simp[XF,Op.operands,Call.operands,hc,ea]) _ hx);refine⟨.int .i64 m, ?_,.int _ _⟩;simp[execOp,XF,resolve,hc,invoke,builtin,ea,et,hv,Builtin.len_,run_underlying hu,goInt]
     ·cases e
    ·cases e
   ·cases e
  ·cases e
 ·-- append
  rename_i cs';split at e
  ·rename_i c XF;split at e
   ·rename_i hcal;split at e
    ·rename_i s x t t' ha ht;cases htt:Le t t' with
     |false=>rw[htt]at e;cases e
     |true=>
      rw[htt]at e;simp only[cond_true]at e;split at e
      ·rename_i sv xv hs hx;split at e
       ·rename_i v H1 n1 R W p hap;cases hR:R.all (fun i=>Lk i n)with
        |false=>rw[hR]at e;cases e
        |true=>
         rw[hR]at e;simp only[cond_true,YO]at e;subst e;have hpp:p:=hp _ rfl;refine plain (s:=⟨.ret v,H1,n1,R,W⟩) ?_;have hca:Vf P t H n sv xv=some ⟨.val v,H1,n1,R,W⟩:=by
          unfold GA at hap;unfold Vf;split at hap
          ·rename_i e1 hue;rw[hue];simp only;split at hap
           ·rename_i inf1 hinf;rw[hinf];simp only;split at hap
            ·rename_i zv z hzv Zc;rw[hzv,Zc];simp only;split at hap
             ·rename_i b k s';split at hap
              ·rename_i cs te hg;split at hap
               ·rename_i ns m bx hns;cases hq:(Le te e1 && Le s' (z+1) && ones ns && Le zv.cells.size (z+1) && Lk 0 m)with
                |false=>rw[hq]at hap;cases hap
                |true=>
                 rw[hq]at hap;simp only[cond_true,YO,YR,CR.mk.injEq,CN.val.injEq]at hap;obtain⟨⟨rfl,rfl,rfl,rfl,rfl⟩,rfl⟩:=hap;obtain⟨p1,p2,p3,p4⟩:=hpp;simp only[YB]at hq;obtain⟨⟨⟨⟨q1,q2⟩,q3⟩,q4⟩,q5⟩:=hq;have hh:Js H e1 (z+1) (.slice (some ⟨b,0,none⟩) k s')=some (cs,k,some b):=by
                  simp[Js,hg,YE q1,YE q2,p1]
                 rw[hh,hns];simp only[q3,q4,q5,Lx p2,Lx p3,Bool.and_self,cond_true,p4];rfl
               ·cases hap
              ·cases hap
             ·cases hap
            ·cases hap
           ·cases hap
          ·cases hap
         have hbr:bare sv=sv:=by
          unfold bare;split
          ·exfalso;unfold GA at hap;repeat' (first|(cases hap;done)|split at hap)
          ·rfl
         have hcop:oK P F (X8 T) o H n=some ⟨.val v,H1,n1,R,W⟩:=by simp[oK,XF,hcal,ha,ht,hs,hx,ub,htt,hbr,hca]
         have hcr:YI P F (X8 T) o H n=some ⟨.val v,H1,n1,R,W⟩:=by
          simp only[YI,hcop,hR,cond_true]
         simp[TL,XF,hcr]
       ·cases e
      ·cases e
    ·cases e
   ·cases e
  ·cases e
 ·-- make
  rename_i m cs;split at e
  ·rename_i t l c XF;split at e
   ·rename_i x y hx hy;split at e
    ·rename_i el PS;split at e
     ·rename_i z hz;simp only[YO]at e;subst e;have hc:=hp _ rfl;exact plain (s:=⟨.ret (.slice (some ⟨n,0,none⟩) m z),(n,.cells cs el (0,0))::H,n+1,[],[]⟩) (by simp[TL,XF,YI,oK,hx,hy,hc])
     ·cases e
    ·cases e
   ·cases e
  ·cases e
 ·-- a store
  rename_i cs';split at e
  ·rename_i t ad x XF;split at e
   ·rename_i b off v hx hy;split at e
    ·rename_i cs te hg;split at e
     ·rename_i z hz;cases hq:(Lk b n && Le v.cells.size z && ones v.cells)with
      |false=>rw[hq]at e;cases e
      |true=>
       rw[hq]at e;simp only[cond_true,YO]at e;subst e;obtain⟨h1,h2⟩:=hp _ rfl;simp only[YB]at hq;have ZS:Jw P t H v (.pointer (some ⟨b,off,none⟩))=some (WK H b (.cells cs' te (0,0)),b):=by
        simp only[Jw,hg,hz,hq.1.2,hq.2,Lx h1,Bool.and_self,cond_true,h2]
       exact plain (s:=⟨.ret undef,WK H b (.cells cs' te (0,0)),n,[b],[b]⟩) (by simp[TL,XF,YI,oK,hx,hy,ZS,hq.1.1])
     ·cases e
    ·cases e
   ·cases e
  ·cases e
 ·-- a call
  rename_i keys out VQ n' W;split at e
  ·rename_i c XF;split at e
   ·rename_i g args H1 n1 R W1 hcr;cases hn:(Le n1 n && W1.isEmpty)with
    |false=>rw[hn]at e;cases e
    |true=>
     rw[hn]at e;simp only[cond_true,YO]at e;subst e;simp only[YB,List.isEmpty_iff]at hn;obtain⟨YS,rfl⟩:=hn;have YS:=YE YS;subst YS;have PS:Under H1 n1:=hu.shape (cI hu (kP hcr).1);have hcj:=hp _ rfl H1 PS (fun p hp=>by
      obtain⟨k,_,rfl⟩:=List.mem_map.1 hp;rfl)
     have hk:(keys.map fun k=>(k,Qo H1 k)).map (·.1)=keys:=by
      rw[List.map_map];exact List.map_id' _
     rw[hk]at hcj;have Z5:ZK P B (fun g' a' H' m'=>open Classical in if g'=g/\a'=args/\H'=H1/\m'=n1 then some ⟨.ret out,VQ++H1,n',keys,W⟩else none):=by
      intro g' a' H' m' s _ h;simp only at h;split at h
      ·rename_i q;obtain⟨rfl,rfl,rfl,rfl⟩:=q;simp only[YO]at h;subst h;exact hcj
      ·cases h
     have:=Kj hF Yc Z5 hu (T:=T) (o:=o) (s:=⟨.ret out,VQ++H1,n',R++keys,W⟩) (by
      simp[TL,XF,hcr])
     exact this
   ·rename_i l fn tm cda cdb H1 n1 R W1 hcr;cases hn:(Le n1 n && W1.isEmpty && LC tm.size 16000)with
    |false=>rw[hn]at e;cases e
    |true=>
     rw[hn]at e;simp only[cond_true,YO]at e;subst e;simp only[YB,List.isEmpty_iff]at hn;obtain⟨⟨YS,rfl⟩,Zc⟩:=hn;have YS:=YE YS;subst YS;have PS:Under H1 n1:=hu.shape (cI hu (kP hcr).1);have hrj:=hp _ rfl;have Wu:=RJ.recS PS hrj;have:=Kj hF Wu (Q7 P B) hu (T:=T) (o:=o) (s:=⟨.ret out,VQ++H1,n',R++keys,W⟩) (by
      simp[TL,XF,hcr,Zc,J7])
     exact this
   ·cases e
  ·cases e
 ·-- what is found in a map
  rename_i v;split at e
  ·rename_i t x k ok XF;split at e
   ·rename_i r kv hx hk;split at e
    ·rename_i es YN hg;cases hq:Lk r n with
     |false=>rw[hq]at e;cases e
     |true=>
      rw[hq]at e;simp only[cond_true,YO]at e;subst e;have hl:=hp _ rfl H r YN hg;exact plain (s:=⟨.ret v,H,n,[r],[]⟩) (by simp[TL,XF,YI,oK,hx,hk,hl,hq])
    ·cases e
   ·cases e
  ·cases e
 ·-- what a map becomes
  rename_i Uw clk';split at e
  ·rename_i t m k x XF;split at e
   ·rename_i r kv v hm hk hx;split at e
    ·rename_i es YN hg;cases hq:Lk r n with
     |false=>rw[hq]at e;cases e
     |true=>
      rw[hq]at e;simp only[cond_true,YO]at e;subst e;have hl:=hp _ rfl H r hg;exact plain (s:=⟨.ret undef,WK H r (.map Uw clk'),n,[r],[r]⟩) (by simp[TL,XF,YI,oK,hm,hk,hx,hl,hq])
    ·cases e
   ·cases e
  ·cases e
 ·-- nothing behind nothing
  split at e
  ·rename_i c XF;split at e
   ·rename_i hcal;split at e
    ·rename_i s x t t' ha ht;cases htt:Le t t' with
     |false=>rw[htt]at e;cases e
     |true=>
      rw[htt]at e;simp only[cond_true]at e;have htt:=YE htt;subst htt;split at e
      ·rename_i hs hx;split at e
       ·rename_i el hue;split at e
        ·rename_i z hz;simp only[YO]at e;subst e;have ea:c.args=#[s,x]:=by rw[<-ha]
         have et:c.argTypes=#[t,t]:=by rw[<-ht]
         refine⟨Uj (fun c h=>by rw[XF]at h;cases h) fun μ w ρ _ Xy=> ?_,Shape.same _ _ _⟩;have h1:=Pr (v:=.slice none 0 0) rfl (Xy s (by simp[XF,Op.operands,Call.operands,hcal,ea]) _ hs);have h2:=Pr (v:=.slice none 0 0) rfl (Xy x (by simp[XF,Op.operands,Call.operands,hcal,ea]) _ hx);refine⟨.slice none 0 0, ?_,.Y8 0 0⟩;have hr:=lA (ty:=o.type) hue hz w;simp[execOp,XF,resolve,hcal,invoke,builtin,ea,et,hr,h1,h2]
        ·cases e
       ·cases e
      ·cases e
    ·cases e
   ·cases e
  ·cases e
end
end Go.CE

namespace Go.CE
open Go Go.RowKit

def Qw:List Prop->Prop
 |[]=>True
 |p::l=>p/\Qw l
abbrev ph:=List (Nat×Hint)
def told(sc:ph)(q:Nat):Option Hint×ph:=match sc with
 |(k,h)::l=>bif Le k q then(some h,l)else(none,sc)
 |[]=>(none,[])
structure RR where
 Qq:List Rec
 T:Tm
 H:Qj
 n:Nat
 sc:ph
 q:Nat
 L:List Prop
def more(p:Option Prop)(L:List Prop):List Prop:=match p with|some p=>p::L|none=>L
def Fk(P:Program)(F:FuncId->Bool)(B:Lo)(ops:Array Oper):List Oper->Tm->Qj->Nat->ph->Nat->List Prop->Option RR
 |[],T,H,n,sc,q,L=>some ⟨[],T,H,n,sc,q,L⟩
 |o::l,T,H,n,sc,q,L=>
  bif YH T o.dst then
   bif Region.wanted o (Xw ops T)then
    match told sc q with
    |(h,sc')=>match Hm P F B T o H n h with
     |some ⟨⟨.ret v,H1,n1,R,W⟩,p⟩=>match Fk P F B ops l (W6 T o.dst v) H1 n1 sc' (q+1) (more p L)with
      |some r=>some {r with Qq:=⟨o,true,v,T,H,H1,n,n1,R,W⟩::r.Qq}
      |none=>none
     |_=>none
   else match Fk P F B ops l (W6 T o.dst undef) H n sc (q+1) L with
    |some r=>some {r with Qq:=⟨o,false,undef,T,H,H,n,n,[],[]⟩::r.Qq}
    |none=>none
  else none
inductive SR where
 |at (c:CF) (H:Qj) (n:Nat)
 |fin (out:OO) (H:Qj) (n:Nat)
structure ST where
 r:SR
 W:List Nat
 L:List Prop
def C9(P:Program)(F:FuncId->Bool)(B:Lo)(c:CF)(H:Qj)(n:Nat)(f:Operand)(params:Array Tmp)(assign body:Code)(k:List Item)(keys:List Nat)(out:Value)(VQ:Qj)(n':Nat)(W:List Nat):Option (CF×Qj×Prop):=
 match X8 c.tmps f with
 |some fv=>match Ue c H n params assign body with
  |some (H1,l,ds,_)=>match Jj F H1 fv #[.func (.yield l) #[] #[]]with
   |some (.enter g args,_)=>match Z6 P g args with
    |some c1=>some ({c with todo:=.endRangeFunc l::k,defers:=ds++c.defers},VQ++H1,RJ P B c1 (keys.map fun k=>(k,Qo H1 k)) (l+1) out VQ n' W)
    |none=>none
   |_=>none
  |none=>none
 |none=>none
section
variable {P:Program} {F:FuncId->Bool} {B:Lo}
theorem b9{p:Option Prop}{L:List Prop}(h:Qw (more p L)):(∀x,p=some x->x)/\Qw L:=by
 cases p with
 |none=>exact⟨(fun x h=>by cases h),h⟩
 |some p=>exact⟨(fun x e=>by cases e;exact h.1),h.2⟩
theorem oF{c:CF}{H:Qj}{n:Nat}(X2:P.follows .mixedOrders=true){id:Nat}{ops:Array Oper}{draw:Bool}{k:List Item}{Qq:List Rec}{T':Tm}{H':Qj}{n':Nat}(hm:c.mode=.run)
 (ht:c.todo=.code (.region id ops draw)::k) (hs:∀x∈Qq,Tg c.tmps.len x) (hk:∀x∈Qq,Jm P B ops x) (Jt:UG Qq c.tmps H n T' H' n') (hmap:Qq.map (·.o)=ops.toList) (hd:(!draw || (Wj 0 ops.toList && indep ops 0 Qq (KZ ops.toList [])))=true):
 GoJ P B c H n {c with tmps:=T',todo:=k} H' n' (Kc Qq) (Vj Qq):=by
 have hown:=V8 (l:=ops.toList) (l2:=[]) (by rw[List.append_nil];exact hmap) rfl;have hlen:Qq.length=ops.size:=by have:=congrArg Lf hmap;simpa using this
 refine⟨Zp Qq _ _ _ _ _ _ Jt hs,fun S μ w fr cs Z Q5 hB hS hf Xr hR=> ?_⟩;obtain⟨a,b,d⟩:=Xr.running hm;rw[ht]at d;obtain⟨L',e,hL⟩:=d.code;cases draw with
 |false=>
  obtain⟨μ',A',w',hp,hT,ZS⟩:=Su (fr:=fr) (cs:=cs) (k:=L') a Qq 0 c.tmps H n T' H' n' [] Jt hs hk (fun j r hj=>by rw[Lv];exact hown j r hj) rfl S μ w fr.tmps Q5 hB hS hf hR b;rw[List.append_nil,hlen]at ZS;exact⟨{fr with tmps:=A',todo:=L'},w',μ',hp,⟨Xr.fn,hT,fun _=>hL.mono (hp.mu hf),Xr.defers.mono (hp.mu hf),Xr.mode.mono (hp.mu hf),Xr.kind,Xr.round.mono (hp.mu hf)⟩,rfl,rfl,
   .head (Zw a e) (ZS.trans (.one (Wn a)))⟩
 |true=>
  simp only[Bool.not_true,Bool.false_or,YB]at hd;have hedge:∀(q:Nat) o,ops[q]? =some o->∀e∈o.after,Region.binds .any e=true->e.on<q:=by
   intro q o ho e he hb;have:=KW ops.toList 0 hd.1 q o (by rw[Lj];exact ho) e he hb;omega
  have hbef:=oX ops.toList (fun q o ho=>hedge q o (by simpa using ho));have WK:Setup P B ops Qq (KZ ops.toList []) c.tmps H n T' H' n':=⟨Jt,hs,hown,hlen,by simpa using hbef.1,PR Qq _ 0 hd.2,hedge⟩
  obtain⟨μ',A',w',hp,hT,ZS⟩:=db X2 WK hk Q5 hS hR hf hB (fr:=fr) (cs:=cs) (id:=id) (k:=L') a b e;exact⟨{fr with tmps:=A',todo:=L'},w',μ',hp,⟨Xr.fn,hT,fun _=>hL.mono (hp.mu hf),Xr.defers.mono (hp.mu hf),Xr.mode.mono (hp.mu hf),Xr.kind,Xr.round.mono (hp.mu hf)⟩,rfl,rfl,ZS⟩
def HE(P:Program)(B:Lo)(c:CF)(H:Qj)(n:Nat)(R W:List Nat):SR->Prop
 | .at c' H' n'=>GoJ P B c H n c' H' n' R W
 | .fin out H' n'=>FJ P B c H n out H' n' R W
theorem GoJ.srj{c c':CF}{H H':Qj}{n n':Nat}{R R' W W':List Nat}{r:SR}(h:GoJ P B c H n c' H' n' R W)(k:HE P B c' H' n' R' W' r):HE P B c H n (R++R') (W++W') r:=by
 cases r with
 | «at»=>exact h.trans k
 |fin=>exact h.fj k
theorem tz(hF:∀g,F g=true->Q0 P g=true)(X2:P.follows .mixedOrders=true){c c':CF}{H H':Qj}{n n':Nat}{f:Operand}{params:Array Tmp}{assign body:Code}{k:List Item}{keys W:List Nat}{out:Value}{VQ:Qj}{p:Prop}(hu:Under H n)(hm:c.mode=.run)(ht:c.todo=.code (.rangeFunc f params assign body)::k)
 (h:C9 P F B c H n f params assign body k keys out VQ n' W=some (c',H',p)) (hp:p):∃R,GoJ P B c H n c' H' n' R W:=by
 unfold C9 at h;split at h
 ·rename_i fv hfv;split at h
  ·rename_i H1 l ds R1 ho;split at h
   ·rename_i g args R2 hc;split at h
    ·rename_i c1 he;simp only[YO,YR]at h;obtain⟨rfl,rfl,rfl⟩:=h;have PS:Under H1 (l+1):=hu.shape (RU (P:=P) (B:=B) hu ho).1;have Wu:=RJ.recS PS hp;refine⟨R1++R2++keys, ?_⟩;have:Je P F Xh (P8 c1 H1 (l+1) ⟨.ret out,VQ++H1,n',keys,W⟩) c H n=some (.go {c with todo:=.endRangeFunc l::k,defers:=ds++c.defers} (VQ++H1) n' (R1++R2++keys) W):=by
      unfold Je;simp only[hm,ht,hfv,ho,hc,he,J7]
     exact W5 hF X2 (Q7 P B) Wu hu this
    ·cases h
   ·cases h
  ·cases h
 ·cases h
end
end Go.CE
