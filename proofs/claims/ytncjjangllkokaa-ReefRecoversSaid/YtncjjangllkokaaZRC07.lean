/- CE: calls whose arguments are known, at the level of worlds. -/
import Derived.Test.YtncjjangllkokaaZRC06
import Derived.Laws.StructEq
set_option linter.all false
open Nat renaming le_refl->Nh,beq->MQ,ble->Nr,blt->MY,lt_or_ge->Nm,zero_add->Nj,ble_eq_true_of_le->Nl
open Option renaming map_some->Nn
open Array renaming mem_of_getElem? ->Nq,getElem?_toList->MX
open List renaming getElem?_eq_none->Nf,mem_cons_of_mem->Nc,mem_append_left->MV,mem_append_right->Nd,mem_append->NG,range'->Ni,length->MO,getElem?_append_right->MZ,getElem?_map->Ng
namespace Go.CE
open Go Go.RowKit

def X7:Vg:=fun _ _ _ _=>none
theorem QL(P:Program)(B:Lo):WE P B X7:=fun _ _ _ _ _ _ h=>by cases h
noncomputable def nZ(P:Program)(F:FuncId->Bool)(X5:Vg)(fuel:Nat)(f:FuncId)(args:Array Value)(H:Qm)(n:Nat):Option Rs:=
 Option.rec none (fun c=>CF.rec (fun fn T todo ds mode ro=>CM.rec (Tm.rec (fun len tr=>TU P F X5 fuel n fn len tr todo ds ro H n [] []) T) none (fun _=>none) mode) c) (Wt P f args)
theorem bY{P:Program}{F:FuncId->Bool}{X5:Vg}{fuel:Nat}{f:FuncId}{args:Array Value}{H:Qm}{n:Nat}{s:Rs}(h:nZ P F X5 fuel f args H n=some s):∃c,Wt P f args=some c/\oT P F X5 fuel n c H n [] []=some s:=by
 unfold nZ at h;cases hc:Wt P f args with
 |none=>rw[hc]at h;cases h
 |some c=>
  rw[hc]at h;obtain⟨fn,⟨len,tr⟩,todo,ds,mode,ro⟩:=c;cases mode with
  |run=>
   refine⟨_,rfl, ?_⟩;rw[<-nJ,<-nK];exact h
  |ret=>cases h
  |ZG v=>cases h
theorem xB{P:Program}{F:FuncId->Bool}{X5:Vg}{B:Lo}(Ws:WE P B X5)(hF:∀g,F g=true->Q8 P g=true)(XY:P.follows .mixedOrders=true){fuel:Nat}{f:FuncId}{args:Array Value}{H:Qm}{n:Nat}{s:Rs}(h:nZ P F X5 fuel f args H n=some s)(hu:Under H n):Under s.H s.n:=by
 obtain⟨c,_,hr⟩:=bY h;obtain⟨Rr,Wr,hfj,_,_,_,_⟩:=Ya (B:=B) hF XY Ws fuel n c H n [] [] s hu (fun i hi=>by simp at hi) (fun i hi=>by simp at hi) hr;exact hu.shape hfj.shape
theorem sT{P:Program}{F:FuncId->Bool}{X5:Vg}(hF:∀g,F g=true->Q8 P g=true)(XY:P.follows .mixedOrders=true){fuel:Nat}{f:FuncId}{args args':Array Value}{H:Qm}{n:Nat}{s:Rs}(h:nZ P F X5 fuel f args H n=some s)(hu:Under H n){w:World}{μ:Mu}
 {I:World->Prop} {hI:∀w1 w2:World,(∀b,b<w.heap.size->w2.heap[b]? =w1.heap[b]?)->I w1->I w2} (Ws:WE P ⟨w.heap.size,I,hI⟩ X5) (hi:I w) (QF:Ok w.heap.size (fun i=>i<n) μ (Qs H) w) (hv:VRs μ args args') (hf:∀i,n<=i->μ i=none):
 Calls P f args' w fun e w'=> ∃Zl μ',Post w.heap.size (fun i=>i<n) n s.n s.W μ μ' H s.H w w'/\OR2 μ' s.out Zl/\e=Zl.ending:=by
 obtain⟨c,hc,hr⟩:=bY h;obtain⟨Rr,Wr,hfj,a1,a2,a3,a4⟩:=Ya (B:=⟨w.heap.size,I,hI⟩) hF XY Ws fuel n c H n [] [] s hu (fun i hi=>by simp at hi) (fun i hi=>by simp at hi) hr;have hfj:=hfj.lists (fun i hi=>by simpa using a1 i hi) (fun i hi=>by simpa using a2 i hi) a4;intro cs;obtain⟨Zl,w',μ',hp,ho,he⟩:=hfj.sem _ μ w _ cs QF ⟨Nh _,hi⟩ (fun _ hi=>hi) (fun i hi _=>hf i hi) (Ux hc hv) (fun i _ hi=>hi);obtain⟨frE,h1,h2,h3⟩:=he.1 rfl;refine⟨Zl.ending,w',frE,⟨Zl,μ',hp,ho,rfl⟩, ?_,h2,h3⟩;cases Zl with
 |ret v=>exact h1
 |ZG v=>exact h1
def Mm(w:World)(Z1 off:Nat)(cs:Array Value):Prop:=Z1<w.heap.size/\∀(i:Nat) v,cs[i]? =some v->w.cell? ⟨Z1,off+i,none⟩=some v
def v8(l:List (Nat×Nat)):Mu:=fun i=>(l[i]?).map fun x=>⟨x.1,x.2,0,false,Tb⟩
def PO(i:Nat):List (Array Value×TypeId)->Qm
 |[]=>[]
 |(cs,t)::l=>(i,.cells cs t (1,1))::PO (i+1) l
theorem TT:∀(l:List (Array Value×TypeId)) (i k:Nat),Qs (PO i l) k=if i<=k then(l[k-i]?).map fun x=>.cells x.1 x.2 (1,1)else none
 |[],i,k=>by simp[PO,Qs]
 |(cs,t)::l,i,k=>by
  simp only[PO];rw[Xe,TT l (i+1) k];by_cases e:k=i
  ·subst e;simp
  ·rw[if_neg e];by_cases h:i<=k
   ·rw[if_pos h,if_pos (by omega),show k-i=(k-(i+1))+1 by omega];simp
   ·rw[if_neg h,if_neg (by omega)]
theorem Hg{w:World}{l:List (Array Value×TypeId)}{at':List (Nat×Nat)}(hl:at'.length=l.length)(h:∀(i:Nat) x a,l[i]? =some x->at'[i]? =some a->Mm w a.1 a.2 x.1/\x.1.all af=true):Ok w.heap.size (fun i=>i<l.length) (v8 at') (Qs (PO 0 l)) w:=by
 have key:∀i o,i<l.length->Qs (PO 0 l) i=some o->∃x a,l[i]? =some x/\at'[i]? =some a/\o=.cells x.1 x.2 (1,1):=by
  intro i o hi ho;rw[TT,if_pos (Nat.zero_le _),Nat.sub_zero]at ho;have h1:l[i]? =some l[i]:=by simp[hi]
  have h2:at'[i]? =some (at'[i]'(by omega)):=by simp[hl ▸ hi]
  rw[h1]at ho;simp only[Nn,YO]at ho;exact⟨_,_,h1,h2,ho.symm⟩
 refine⟨fun i o hi ho _=> ?_,fun i o im hi ho _ QK=> ?_,fun i j oi oj a b hi hj _ Wl _ _ _ ha _ hra _=> ?_,fun i o hi ho hr=> ?_,fun i j oi oj a b x hi hj Wl Wj hr=> ?_⟩
 ·obtain⟨x,a,h1,h2,rfl⟩:=key i o hi ho;obtain⟨⟨_,hc⟩,haf⟩:=h i x a h1 h2;refine⟨⟨a.1,a.2,0,false,Tb⟩,by simp[v8,h2],.inr ⟨by simp,fun k v hv=>⟨v,hc k v hv,J3 (Array.all_eq_true'.1 haf v (Nq hv))⟩⟩⟩
 ·obtain⟨x,a,h1,h2,rfl⟩:=key i o hi ho;simp only[v8,h2,Nn,YO]at QK;subst QK;exact⟨(h i x a h1 h2).1.1,(fun h=>by cases h),fun _=>(h i x a h1 h2).1.1⟩
 ·obtain⟨x,q,h1,h2,_⟩:=key i oi hi Wl;simp only[v8,h2,Nn,YO]at ha;subst ha;cases hra
 ·obtain⟨x,a,_,_,rfl⟩:=key i o hi ho;exact hr.elim
 ·obtain⟨x,a,_,_,rfl⟩:=key i oi hi Wl;exact hr.elim
theorem cw(l:List (Array Value×TypeId)):Under (PO 0 l) l.length:=by
 intro i hi;rw[TT,if_pos (Nat.zero_le _),Nat.sub_zero,Nf (by omega)];rfl
theorem Cb{at':List (Nat×Nat)}:∀i,at'.length<=i->v8 at' i=none:=fun i hi=>by simp[v8,Nf hi]
end Go.CE

namespace Go.CE
open Go Go.RowKit

def FG(p:Value->Value->Bool):List Value->List Value->Bool
 |[],[]=>true
 |x::l,y::m=>p x y && FG p l m
 |_,_=>false
theorem K1{p:Value->Value->Bool}(hp:∀x y,p x y=true->x=y):∀(l m:List Value),FG p l m=true->l=m
 |[],[],_=>rfl
 |x::l,y::m,h=>by
  simp only[FG,YB]at h;rw[hp x y h.1,K1 hp l m h.2]
 |[],_::_,h=>by cases h
 |_::_,[],h=>by cases h
def HJ:List UInt8->List UInt8->Bool
 |[],[]=>true
 |x::l,y::m=>MQ x.toNat y.toNat && HJ l m
 |_,_=>false
theorem nQ:∀(l m:List UInt8),HJ l m=true->l=m
 |[],[],_=>rfl
 |x::l,y::m,h=>by
  simp only[HJ,YB]at h;rw[UInt8.toNat_inj.1 (YE h.1),nQ l m h.2]
 |[],_::_,h=>by cases h
 |_::_,[],h=>by cases h
def Lk:Value->Value->Bool
 | .bool a,.bool b=>a==b
 | .int k a,.int l b=>decide (k=l) && YI a b
 | .slice (some ⟨a,o,none⟩) n s,.slice (some ⟨b,p,none⟩) m t=>MQ a b && MQ o p && MQ n m && MQ s t
 | .slice none n s,.slice none m t=>MQ n m && MQ s t
 | .string a,.string b=>HJ a.data.toList b.data.toList
 | .pointer (some ⟨a,o,none⟩),.pointer (some ⟨b,p,none⟩)=>MQ a b && MQ o p
 | .func (.func g) x y,.func (.func g') x' y'=>MQ g g' && (MQ x.toList.length 0 && (MQ y.toList.length 0 && (MQ x'.toList.length 0 && MQ y'.toList.length 0)))
 |_,_=>false
theorem FE{a b:Int}(h:YI a b=true):a=b:=by
 rw[fQ]at h;simpa using h
theorem nO(x y:Value)(h:Lk x y=true):x=y:=by
 unfold Lk at h;split at h
 ·simp only[beq_iff_eq]at h;rw[h]
 ·simp only[YB,decide_eq_true_eq]at h;rw[h.1,FE h.2]
 ·simp only[YB]at h;obtain⟨⟨⟨h1,h2⟩,h3⟩,h4⟩:=h;rw[YE h1,YE h2,YE h3,YE h4]
 ·simp only[YB]at h;rw[YE h.1,YE h.2]
 ·rename_i a b;obtain⟨a⟩:=a;obtain⟨b⟩:=b;simp only at h;rw[Array.ext' (nQ _ _ h)]
 ·simp only[YB]at h;rw[YE h.1,YE h.2]
 ·rename_i x y _ x' y';simp only[YB,Nat.beq_eq]at h;obtain⟨h1,h2,h3,h4,h5⟩:=h;have e:∀z:Array Value,z.toList.length=0->z=#[]:=fun z hz=>by
   have:=List.eq_nil_of_length_eq_zero hz;exact Array.ext' this
  rw[h1,e x h2,e y h3,e x' h4,e y' h5]
 ·cases h
def C4:Nat->Value->Value->Bool
 |f+1,.agg x,.agg y=>FG (C4 f) x.toList y.toList
 |f+1,.tuple x,.tuple y=>FG (C4 f) x.toList y.toList
 |_,x,y=>Lk x y
theorem UC:∀(f:Nat) (x y:Value),C4 f x y=true->x=y
 |0,x,y,h=>nO x y (by simpa[C4]using h)
 |f+1,x,y,h=>by
  unfold C4 at h;split at h
  ·rename_i f' a b e;cases e;rw[Array.ext' (K1 (UC f) _ _ h)]
  ·rename_i f' a b e;cases e;rw[Array.ext' (K1 (UC f) _ _ h)]
  ·exact nO _ _ h
def xm(H:Qm)(x:Nat×Array Value×TypeId):Bool:=match Qs H x.1 with
 |some (.cells ds t (0,0))=>FG (C4 1) ds.toList x.2.1.toList && MQ t x.2.2
 |_=>false
def Aq(x:Option Rs)(out:Value)(bs:List (Nat×Array Value×TypeId)):Bool:=match x with
 |some ⟨.ret v,H,_,_,[]⟩=>C4 3 v out && bs.all (xm H)
 |_=>false
theorem zz{x:Option Rs}{out:Value}{bs:List (Nat×Array Value×TypeId)}(h:Aq x out bs=true):∃s,x=some s/\s.out=.ret out/\s.W=[]/\∀y∈bs,Qs s.H y.1=some (.cells y.2.1 y.2.2 (0,0)):=by
 unfold Aq at h;split at h
 ·rename_i v H n R;simp only[YB]at h;refine⟨_,rfl,by rw[UC 3 _ _ h.1],rfl,fun y hy=> ?_⟩;have:=List.all_eq_true.1 h.2 y hy;unfold xm at this;split at this
  ·rename_i ds t hg;simp only[YB]at this;have e1:=Array.ext' (K1 (UC 1) _ _ this.1);have e2:=YE this.2;simp only;rw[hg,e1,e2]
  ·cases this
 ·cases h
theorem C9{P:Program}{F:FuncId->Bool}{X5:Vg}(hF:∀g,F g=true->Q8 P g=true)(XY:P.follows .mixedOrders=true){fuel:Nat}{f:FuncId}{args args':Array Value}{l:List (Array Value×TypeId)}{at':List (Nat×Nat)}{out:Value}{bs:List (Nat×Array Value×TypeId)}
 (h:Aq (nZ P F X5 fuel f args (PO 0 l) l.length) out bs=true) {w:World} {I:World->Prop} {hI:∀w1 w2:World,(∀b,b<w.heap.size->w2.heap[b]? =w1.heap[b]?)->I w1->I w2} (Ws:WE P ⟨w.heap.size,I,hI⟩ X5) (hi:I w) (hl:at'.length=l.length) (hlies:∀(i:Nat) x a,l[i]? =some x->at'[i]? =some a->Mm w a.1 a.2 x.1/\x.1.all af=true) (hv:VRs (v8 at') args args'):
 Calls P f args' w fun e w'=> ∃v' n' H' μ',e=.returned v'/\Post w.heap.size (fun i=>i<l.length) l.length n' [] (v8 at') μ' (PO 0 l) H' w w'/\VR μ' out v'/\(∀y∈bs,Qs H' y.1=some (.cells y.2.1 y.2.2 (0,0)))/\Under H' n'/\Below w.heap.size w w':=by
 obtain⟨s,hs,ho,hW,hb⟩:=zz h;obtain hc:=sT hF XY hs (cw l) Ws hi (Hg hl hlies) hv (fun i hi=>Cb i (by omega));intro cs;obtain⟨e,w',fr,⟨Zl,μ',hp,Wd,he⟩,h1,h2,h3⟩:=hc cs;refine⟨e,w',fr, ?_,h1,h2,h3⟩;rw[ho]at Wd;rw[hW]at hp;cases Wd with
 |ret Vr=>exact⟨_,s.n,s.H,μ',he,hp,Vr,hb,xB Ws hF XY hs (cw l),⟨hp.os,hp.tape,hp.output,hp.grow,fun b hb=>hp.frame b hb fun i hi=>by simp at hi⟩⟩
end Go.CE

namespace Go.CE
open Go Go.RowKit

def FF:Obj->Obj->Bool
 | .cells a t (x,y),.cells b u (z,v)=>FG (C4 1) a.toList b.toList && MQ t u && MQ x z && MQ y v
 |_,_=>false
theorem xw{a b:Obj}(h:FF a b=true):a=b:=by
 unfold FF at h;split at h
 ·simp only[YB]at h;obtain⟨⟨⟨h1,h2⟩,h3⟩,h4⟩:=h;rw[Array.ext' (K1 (UC 1) _ _ h1),YE h2,YE h3,YE h4]
 ·cases h
def hasAll(H:Qm):Qm->Bool
 |[]=>true
 |(i,o)::l=>(match Qs H i with|some x=>FF x o|none=>false) && hasAll H l
theorem Jb{H:Qm}:∀{l:Qm},hasAll H l=true->∀i o,Qs l i=some o->Qs H i=some o
 |[],_,i,o,ho=>by cases ho
 |(k,x)::l,h,i,o,ho=>by
  simp only[hasAll,YB]at h;rw[Xe]at ho;by_cases e:i=k
  ·subst e;rw[if_pos rfl]at ho;simp only[YO]at ho;subst ho;have h1:=h.1;split at h1
   ·rename_i y hy;rw[hy,xw h1]
   ·cases h1
  ·rw[if_neg e]at ho;exact Jb h.2 i o ho
structure Memo where
 g:FuncId
 args:Array Value
 H0:Qm
 n:Nat
 out:Value
 news:Qm
 n':Nat
def within(n n':Nat)(l:Qm):Bool:=l.all fun x=>Nr n x.1 && MY x.1 n'
def QT(m:Memo)(x:Option Rs):Bool:=match x with
 |some ⟨.ret v,H,n',R,[]⟩=>C4 3 v m.out && MQ n' m.n' && hasAll H m.news && within m.n m.n' m.news && within 0 m.n m.H0 && R.all (fun i=>Nr m.n i || (Qs m.H0 i).isSome)
 |_=>false
noncomputable def Memo.run(P:Program)(F:FuncId->Bool)(X5:Vg)(fuel:Nat)(m:Memo):Option Rs:=nZ P F X5 fuel m.g m.args m.H0 m.n
def XX:List Memo->Vg
 |[],_,_,_,_=>none
 |m::l,g,args,H,n=>bif MQ m.n n && MQ m.g g && FG (C4 1) args.toList m.args.toList && hasAll H m.H0 then some ⟨.ret m.out,m.news++H,m.n',m.H0.map (·.1),[]⟩else XX l g args H n
theorem ZV:∀(l H:Qm) (i:Nat),Qs (l++H) i=match Qs l i with|some o=>some o|none=>Qs H i
 |[],H,i=>rfl
 |(k,o)::l,H,i=>by
  rw[List.cons_append,Xe,Xe];by_cases e:i=k
  ·rw[if_pos e,if_pos e]
  ·rw[if_neg e,if_neg e];exact ZV l H i
theorem cb{n n':Nat}:∀{l:Qm},within n n' l=true->∀i o,Qs l i=some o->n<=i/\i<n'
 |[],_,i,o,ho=>by cases ho
 |(k,x)::l,h,i,o,ho=>by
  simp only[within,List.all_cons,YB]at h;rw[Xe]at ho;by_cases e:i=k
  ·subst e;exact⟨YL h.1.1,YL h.1.2⟩
  ·rw[if_neg e]at ho;exact cb h.2 i o ho
theorem Ve{n n':Nat}{l:Qm}(h:within n n' l=true){i:Nat}(hi:i<n\/n'<=i):Qs l i=none:=by
 cases hg:Qs l i with
 |none=>rfl
 |some o=>have:=cb h i o hg;omega
theorem ef{l:Qm}{i:Nat}{o:Obj}(h:Qs l i=some o):i∈l.map (·.1):=by
 induction l with
 |nil=>cases h
 |cons p l ih=>
  obtain⟨k,x⟩:=p;rw[Xe]at h;by_cases e:i=k
  ·subst e;simp
  ·rw[if_neg e]at h;exact Nc _ (ih h)
theorem hZ{m:Memo}{x:Option Rs}(h:QT m x=true):∃H R,x=some ⟨.ret m.out,H,m.n',R,[]⟩/\(∀i o,Qs m.news i=some o->Qs H i=some o)/\within m.n m.n' m.news=true/\within 0 m.n m.H0=true/\∀i∈R,i<m.n->∃o,Qs m.H0 i=some o:=by
 unfold QT at h;split at h
 ·rename_i v H n' R;simp only[YB]at h;obtain⟨⟨⟨⟨⟨h1,h2⟩,h3⟩,h4⟩,h5⟩,h6⟩:=h;refine⟨H,R,by rw[UC 3 _ _ h1,YE h2],Jb h3,h4,h5,fun i hi hl=> ?_⟩;have:=List.all_eq_true.1 h6 i hi;simp only[Bool.or_eq_true]at this;rcases this with h|h
  ·have:=YL h;omega
  ·exact Option.isSome_iff_exists.1 h
 ·cases h
theorem Xb{P:Program}{F:FuncId->Bool}{X5:Vg}{B:Lo}(hF:∀g,F g=true->Q8 P g=true)(XY:P.follows .mixedOrders=true)(Ws:WE P B X5){fuel:Nat}{m:Memo}{l:List Memo}(hm:QT m (m.run P F X5 fuel)=true)(hl:WE P B (XX l)):WE P B (XX (m::l)):=by
 intro g args H n s hu h;simp only[XX]at h;cases hq:(MQ m.n n && MQ m.g g && FG (C4 1) args.toList m.args.toList && hasAll H m.H0)with
 |false=>
  rw[hq]at h;exact hl g args H n s hu h
 |true=>
  rw[hq]at h;simp only[cond_true,YO]at h;simp only[YB]at hq;obtain⟨⟨⟨q1,q2⟩,q3⟩,q4⟩:=hq;obtain rfl:=YE q1;obtain rfl:=YE q2;obtain rfl:=Array.ext' (K1 (UC 1) _ _ q3);have hH:=Jb q4;subst h;obtain⟨Hs,R,Uc,hnews,hw,hw0,hR0⟩:=hZ hm;obtain⟨c,hc,hr⟩:=bY Uc;have hu0:Under m.H0 m.n:=fun i hi=>Ve hw0 (.inr hi)
  obtain⟨Rr,Wr,hfj,a1,a2,a3,a4⟩:=Ya (B:=B) hF XY Ws fuel m.n c m.H0 m.n [] [] _ hu0 (fun i hi=>by simp at hi) (fun i hi=>by simp at hi) hr;have hfj:=hfj.lists (fun i hi=>by simpa using a1 i hi) (fun i hi=>by simpa using a2 i hi) a4;have hle:m.n<=m.n':=hfj.shape.le;have YA:∀i,i<m.n\/m.n'<=i->Qs (m.news++H) i=Qs H i:=fun i hi=>by
   rw[ZV,Ve hw hi]
  have K5:∀i o,m.n<=i->Qs (m.news++H) i=some o->Qs Hs i=some o:=by
   intro i o h1 h2;rw[ZV]at h2;cases hg:Qs m.news i with
   |some x=>
    rw[hg]at h2;rw[hnews i x hg];exact h2
   |none=>
    rw[hg,hu i h1]at h2;cases h2
  refine⟨⟨hle,fun i hi _=>YA i (.inl hi),fun i hi=>YA i (.inr hi),fun _ h=>by simp at h,fun _ h=>by simp at h⟩,fun S μ w args' cs QF hB hS hf hv hR=> ?_⟩;simp only at hf hR ⊢;have hok0:Ok B (fun i=>S i/\∃o,Qs m.H0 i=some o) μ (Qs m.H0) w:=by
   refine⟨fun i o hi ho hl=>QF.rel i o hi.1 (hH i o ho) hl,fun i o im hi ho hl=>QF.low i o im hi.1 (hH i o ho) hl,fun i j oi oj a b hi hj P4 Wl Wj=>QF.inj i j oi oj a b hi.1 hj.1 P4 (hH i oi Wl) (hH j oj Wj),
    fun i o hi ho=>QF.Yg i o hi.1 (hH i o ho),fun i j oi oj a b x hi hj Wl Wj=>QF.sep i j oi oj a b x hi.1 hj.1 (hH i oi Wl) (hH j oj Wj)⟩
  obtain⟨Zl,w',μ',hp,ho,he⟩:=hfj.sem _ μ w _ cs hok0 hB (fun i hi=>hS i hi.1) hf (Ux hc hv) (fun i hi hl=>by
   obtain⟨o,ho⟩:=hR0 i hi hl;exact⟨hR i (ef ho) hl,o,ho⟩)
  simp only at hp ho;have hold:∀i im,S i->μ i=some im->μ' i=some im:=fun i im hi h=>by
   have:=hS i hi;rw[hp.ext i (by omega)];exact h
  have hext:Ext μ μ':=hp.mu hf;have XK:∀i im o,m.n<=i->i<m.n'->Qs (m.news++H) i=some o->live o->μ' i=some im->im.rw=true/\w.heap.size<=im.Z1:=by
   intro i im o h1 h2 h3 h4 h5;obtain⟨x,y⟩:=hp.fresh i im o h1 h2 (K5 i o h1 h3) h4 h5;exact⟨x,y.elim id fun⟨k,hk,_⟩=>by simp at hk⟩
  have hOld:∀i o,S i->Qs (m.news++H) i=some o->live o->∃im,μ i=some im/\μ' i=some im/\Qs H i=some o/\im.Z1<w.heap.size:=by
   intro i o hi ho hl;have:=hS i hi;rw[YA i (.inl this)]at ho;obtain⟨im,QK,_⟩:=QF.rel i o hi ho hl;exact⟨im,QK,hold i im hi QK,ho,(QF.low i o im hi ho hl QK).1⟩
  refine⟨Zl,w',μ',⟨⟨fun i o hi ho hl=> ?_,fun i o im hi ho hl QK=> ?_,fun i j oi oj a b hi hj P4 Wl Wj P2 Uk ha hb hra K4=> ?_,fun i o hi ho hr=> ?_,fun i j oi oj a b x hi hj Wl Wj YG Uk ha hb K4 hx=> ?_⟩,hle,hp.ext,fun i hi _=>YA i (.inl hi),hp.grow,fun b hb _=>hp.frame b hb fun i hi=>by simp at hi,fun i hi=>by simp at hi,
   fun i im o h1 h2 h3 h4 h5=>⟨(XK i im o h1 h2 h3 h4 h5).1,.inl (XK i im o h1 h2 h3 h4 h5).2⟩,fun i im o hi ho hr hm b x hx=> ?_,hp.os,hp.tape,hp.output⟩,ho,he⟩
  ·rcases hi with hi|hi
   ·obtain⟨im,QK,QW,Kb,X2⟩:=hOld i o hi ho hl;obtain⟨im2,WC,hr2⟩:=QF.rel i o hi Kb hl;rw[QK]at WC;cases WC;exact⟨im,QW,hr2.keep hext (hp.frame _ X2 fun i hi=>by simp at hi)⟩
   ·exact hp.ok.rel i o (.inr hi) (K5 i o hi.1 ho) hl
  ·rcases hi with hi|hi
   ·obtain⟨im2,WC,QW,Kb,X2⟩:=hOld i o hi ho hl;rw[QK]at QW;cases QW;exact⟨Nat.lt_of_lt_of_le X2 hp.grow,(QF.low i o im hi Kb hl WC).2⟩
   ·exact hp.ok.low i o im (.inr hi) (K5 i o hi.1 ho) hl QK
  ·rcases hi with hi|hi <;> rcases hj with hj|hj
   ·obtain⟨im,h1,h2,h3,_⟩:=hOld i oi hi Wl P2;obtain⟨jm,k1,k2,k3,_⟩:=hOld j oj hj Wj Uk;rw[ha]at h2;cases h2;rw[hb]at k2;cases k2;exact QF.inj i j oi oj a b hi hj P4 h3 k3 P2 Uk h1 k1 hra K4
   ·obtain⟨im,h1,h2,h3,h4⟩:=hOld i oi hi Wl P2;rw[ha]at h2;cases h2;have:=(XK j b oj hj.1 hj.2 Wj Uk hb).2;omega
   ·obtain⟨im,h1,h2,h3,h4⟩:=hOld j oj hj Wj Uk;rw[hb]at h2;cases h2;have:=(XK i a oi hi.1 hi.2 Wl P2 ha).2;omega
   ·exact hp.ok.inj i j oi oj a b (.inr hi) (.inr hj) P4 (K5 i oi hi.1 Wl) (K5 j oj hj.1 Wj) P2 Uk ha hb hra K4
  ·rcases hi with hi|hi
   ·have:=hS i hi;rw[YA i (.inl this)]at ho;obtain⟨im,QK,hf⟩:=QF.Yg i o hi ho hr;exact⟨im,hold i im hi QK,fun b x hx=>by rw[hp.frame b (YC QF hi ho hr QK hx) fun i hi=>by simp at hi];exact hf b x hx⟩
   ·exact hp.ok.Yg i o (.inr hi) (K5 i o hi.1 ho) hr
  ·have oldR:∀i oi a,S i->Qs (m.news++H) i=some oi->μ' i=some a->Wv oi->Qs H i=some oi/\μ i=some a:=by
    intro i oi a hi Wl ha hr;have:=hS i hi;rw[YA i (.inl this)]at Wl;rw[hp.ext i (by omega)]at ha;exact⟨Wl,ha⟩
   rcases hi with hi|hi <;> rcases hj with hj|hj
   ·obtain⟨h1,h2⟩:=oldR i oi a hi Wl ha YG;obtain⟨jm,k1,k2,k3,_⟩:=hOld j oj hj Wj Uk;rw[hb]at k2;cases k2;exact QF.sep i j oi oj a b x hi hj h1 k3 YG Uk h2 k1 K4 hx
   ·obtain⟨h1,h2⟩:=oldR i oi a hi Wl ha YG;have:=(XK j b oj hj.1 hj.2 Wj Uk hb).2;have:=YC QF hi h1 YG h2 hx;omega
   ·obtain⟨jm,k1,k2,k3,k4⟩:=hOld j oj hj Wj Uk;rw[hb]at k2;cases k2;rcases hp.rf i a oi (.inl hi) (K5 i oi hi.1 Wl) YG ha b.Z1 x hx with e|⟨k,Uj,ko,hSk,_,hko,hkr,hkm,hkb⟩|⟨k,hk,_⟩
    ·omega
    ·exact QF.sep k j ko oj Uj b x hSk.1 hj (hH k ko hko) k3 hkr Uk hkm k1 K4 hkb
    ·simp at hk
   ·exact hp.ok.sep i j oi oj a b x (.inr hi) (.inr hj) (K5 i oi hi.1 Wl) (K5 j oj hj.1 Wj) YG Uk ha hb K4 hx
  ·have P3:m.n<=i/\i<m.n':=hi.elim id fun h=>by simp at h
   rcases hp.rf i im o (.inl P3) (K5 i o P3.1 ho) hr hm b x hx with e|⟨k,Uj,ko,hSk,hkn,hko,c⟩|⟨k,hk,_⟩
   ·exact .inl e
   ·exact .inr (.inl ⟨k,Uj,ko,hSk.1,hkn,hH k ko hko,c⟩)
   ·simp at hk
theorem Zm(P:Program)(B:Lo):WE P B (XX []):=fun _ _ _ _ _ _ h=>by cases h
end Go.CE

namespace Go.CE
open Go Go.RowKit
noncomputable section

section
variable {P:Program} {fr:Frame} {cs:List Frame} {w:World} {A:Array Value} {ops:Array Oper} {i:Nat} {l:List Nat} {k:List Item} {o:Oper}
theorem step_defer{c:Call}{f:Operand}{d:Deferred}(hm:fr.mode=.run)(hr:fr.roundOf=none)(ho:ops[i]? =some o)(hw:Region.wanted o (yielded ops A)=true)(Zw:o.op=.defer c)(hc:c.callee=.value f)
 (hd:(Deferred.ofValue ((Xz fr A ops (i::l) k).eval f) (c.args.map (Xz fr A ops (i::l) k).eval)).run P w=.ok d w):
 step P (lone (Xz fr A ops (i::l) k) cs w)=.next (lone {(Xz fr A ops (i::l) k).finish undef with defers:=d::fr.defers} cs w):=by
 refine step_lone_go ?_;have he:(Xz fr A ops (i::l) k).oper? =some o:=by simp[Frame.oper?,Xz,ho]
 simp only[stepG,show(Xz fr A ops (i::l) k).mode=.run from hm];unfold stepG.exec;simp only[Xz,ho,Nn,hw,Option.getD_some,if_true];unfold stepG.oper;simp only[Frame.oper?,ho,hr];unfold stepG.apply;simp only[Xz,hr]at hd;simp[execOp,Zw,resolve,hc,hd,Sem.runT_eq,Frame.finish,ho]
theorem rq{cal:Frame}{c:Call}{v:Value}(hm:fr.mode=.run)(hk:fr.kind=.deferred)(hr:fr.roundOf=none)(ho:ops[i]? =some o)(hw:Region.wanted o (yielded ops A)=true)(Zw:o.op=.call c)(hc:c.callee=.builtin .recover)(ha:c.args=#[])
 (hcal:cal.mode=.panicking [{v,recovered:=false}]):
 step P (lone (Xz fr A ops (i::l) k) (cal::cs) w)=.next (lone ((Xz fr A ops (i::l) k).finish v) ({cal with mode:=.panicking [{v,recovered:=true}]}::cs) w):=by
 refine step_lone_go ?_;simp only[stepG,show(Xz fr A ops (i::l) k).mode=.run from hm];unfold stepG.exec;simp only[Xz,ho,Nn,hw,Option.getD_some,if_true];unfold stepG.oper;simp only[Frame.oper?,ho,hr];unfold stepG.apply;simp[execOp,Zw,resolve,hc,ha,invoke,builtin,Sem.runT_eq,tryRecover,hk,hcal,Frame.finish,ho]
theorem eE{cal:Frame}{c:Call}(hm:fr.mode=.run)(hr:fr.roundOf=none)(ho:ops[i]? =some o)(hw:Region.wanted o (yielded ops A)=true)(Zw:o.op=.call c)(hc:c.callee=.builtin .recover)(ha:c.args=#[])(hk:fr.kind=.deferred)
 (hcal:cal.mode=.returning):
 step P (lone (Xz fr A ops (i::l) k) (cal::cs) w)=.next (lone ((Xz fr A ops (i::l) k).finish .nilIface) (cal::cs) w):=by
 refine step_lone_go ?_;simp only[stepG,show(Xz fr A ops (i::l) k).mode=.run from hm];unfold stepG.exec;simp only[Xz,ho,Nn,hw,Option.getD_some,if_true];unfold stepG.oper;simp only[Frame.oper?,ho,hr];unfold stepG.apply;simp[execOp,Zw,resolve,hc,ha,invoke,builtin,Sem.runT_eq,tryRecover,hk,hcal,Frame.finish,ho]
theorem J6{g:FuncId}{args:Array Value}{d:Deferred}{ds:List Deferred}{fn:Fn}{ys:Array Value}(hm:fr.mode≠.run)(hd:fr.defers=d::ds)(ht:d.target=.fn fn ys)(hi:(invoke d.target d.args).run P w=.ok (.enter g args) w):
 step P (lone fr cs w)=.next (lone (Frame.enter P g args .deferred) ({fr with defers:=ds}::cs) w):=by
 obtain⟨t,a⟩:=d;simp only at ht;subst ht;refine step_lone_go ?_;cases hmode:fr.mode with
 |run=>exact absurd hmode hm
 |returning=>simp[stepG,unwind,hd,callDeferred,hmode,Sem.runT_eq,hi]
 |panicking ch=>simp[stepG,unwind,hd,callDeferred,hmode,Sem.runT_eq,hi]
def Gl(cal:Frame):Frame:=match cal.mode with
 | .panicking [{recovered:=true,..}]=>{cal with mode:=.returning}
 |_=>cal
theorem c7{cal:Frame}{fn:Func}{v:Value}(hm:fr.mode=.returning)(hd:fr.defers=[])(hk:fr.kind=.deferred)(hf:P.funcs[fr.fn]? =some fn)(hr:(results fn fr.tmps).run P w=.ok v w)
 (hcal:cal.mode=.returning\/∃v,cal.mode=.panicking [{v,recovered:=true}]):
 step P (lone fr (cal::cs) w)=.next (lone {cal with mode:=.returning} cs w):=by
 refine step_lone_go ?_;rcases hcal with h|⟨v,h⟩
 ·have:cal={cal with mode:=.returning}:=by cases cal;simp_all
  rw[<-this];simp[stepG,unwind,doReturn,hm,hd,hk,hf,Sem.runT_eq,hr,h]
 ·simp[stepG,unwind,doReturn,hm,hd,hk,hf,Sem.runT_eq,hr,h]
end

def Le(o:Oper):Bool:=match o.op with
 | .defer _=>true
 | .call c=>match c.callee with
   | .builtin .recover=>true
   |_=>false
 |_=>false
def av:List Oper->List Oper×List Oper
 |[]=>([],[])
 |o::l=>bif Le o then([],o::l)else(o::(av l).1,(av l).2)
theorem jR:∀l:List Oper,(av l).1++(av l).2=l
 |[]=>rfl
 |o::l=>by
  simp only[av];cases Le o with
  |true=>rfl
  |false=>simp[jR l]
def Di(P:Program)(F:FuncId->Bool)(X5:Vg)(fuel:Nat):CF->Qm->Nat->Option Rs:=fun c H n=>
 CF.rec (fun fn T todo ds mode ro=>CM.rec (Tm.rec (fun len tr=>TU P F X5 fuel n fn len tr todo ds ro H n [] []) T) none (fun _=>none) mode) c
theorem b9{P:Program}{F:FuncId->Bool}{X5:Vg}{B:Lo}(hF:∀g,F g=true->Q8 P g=true)(XY:P.follows .mixedOrders=true)(Ws:WE P B X5)(fuel:Nat):fX P B (Di P F X5 fuel):=by
 intro c H n s hu h;have hr:oT P F X5 fuel n c H n [] []=some s:=by
  unfold Di at h;obtain⟨fn,⟨len,tr⟩,todo,ds,mode,ro⟩:=c;cases mode with
  |run=>
   rw[<-nJ,<-nK];exact h
  |ret=>cases h
  |ZG v=>cases h
 obtain⟨Rr,Wr,hfj,a1,a2,a3,a4⟩:=Ya hF XY Ws fuel n c H n [] [] s hu (fun i hi=>by simp at hi) (fun i hi=>by simp at hi) hr;exact hfj.lists (fun i hi=>by simpa using a1 i hi) (fun i hi=>by simpa using a2 i hi) a4
structure MS where
 c:CF
 H:Qm
 n:Nat
 R:List Nat
 W:List Nat
def Lq(c:CF):Bool:=match c.todo with
 | .code (.region _ ops false)::_=>ops.toList.any Le
 |_=>false
def lY(P:Program)(F:FuncId->Bool)(X5:Vg)(fu:Nat)(b:Nat):Nat->MS->Option MS
 |0,_=>none
 |k+1,m=>
  bif (match m.c.mode with| .run=>Lq m.c|_=>m.c.defers.isEmpty)then some m else
  match P6 P F X5 (Di P F X5 fu) m.c m.H m.n with
  |some (.go c' H' n' R' W')=>lY P F X5 fu b k ⟨c',H',n',Wc b R' m.R,Wc b W' m.W⟩
  |_=>none
structure MB where
 T:Tm
 H:Qm
 n:Nat
 o:Oper
 post:List Oper
 Qx:List Rec
def tO(P:Program)(F:FuncId->Bool)(X5:Vg)(fu:Nat)(ops:Array Oper)(c:CF)(H:Qm)(n:Nat):Option MB:=
 match av ops.toList with
 |(pre,o::post)=>match eH P F X5 (Di P F X5 fu) ops pre c.tmps H n with
  |some (Qx,.ok T H' n')=>bif JY T o.dst && Region.wanted o (XT ops T)then some ⟨T,H',n',o,post,Qx⟩else none
  |_=>none
 |_=>none
def E8:CM->Option Value
 | .run=>none
 | .ret=>some .nilIface
 | .ZG v=>some v
def eI(P:Program)(F:FuncId->Bool)(X5:Vg)(fu:Nat)(b:Nat)(g:FuncId)(args:Array Value)(pv:Value)(H:Qm)(n:Nat)(R W:List Nat):Option MS:=
 match Wt P g args with
 |some cd=>match lY P F X5 fu b 10000 ⟨cd,H,n,R,W⟩with
  |some m1=>match m1.c.mode,m1.c.todo with
   | .run,.code (.region _ ops false)::todo=>match tO P F X5 fu ops m1.c m1.H m1.n with
     |some s=>match s.o.op with
      | .call c=>match c.callee with
        | .builtin .recover=>bif c.args.isEmpty then
         match eH P F X5 (Di P F X5 fu) ops s.post (V1 s.T s.o.dst pv) s.H s.n with
         |some (recs2,.ok T2 H2 n2)=>match lY P F X5 fu b 10000 ⟨{m1.c with tmps:=T2,todo:=todo},H2,n2,Wc b (KI recs2) (Wc b (KI s.Qx) m1.R),Wc b (Ui recs2) (Wc b (Ui s.Qx) m1.W)⟩with
          |some m2=>match m2.c.mode,m2.c.defers,kf P m2.c.fn m2.H m2.c.tmps with
           | .ret,[],some (_,R3)=>some ⟨m2.c,m2.H,m2.n,Wc b R3 m2.R,m2.W⟩
           |_,_,_=>none
          |none=>none
         |_=>none
          else none
        |_=>none
      |_=>none
     |none=>none
   |_,_=>none
  |none=>none
 |none=>none
def FM(P:Program)(F:FuncId->Bool)(X5:Vg)(fu:Nat)(f:FuncId)(args:Array Value)(H:Qm)(n:Nat):Option Rs:=
 match Wt P f args with
 |some c0=>match lY P F X5 fu n 10000 ⟨c0,H,n,[],[]⟩with
  |some m1=>match m1.c.mode,m1.c.todo,m1.c.defers with
   | .run,.code (.region _ ops false)::todo,[]=>match tO P F X5 fu ops m1.c m1.H m1.n with
     |some s=>match s.o.op,s.post with
      | .defer c,[]=>match c.callee with
        | .value x=>match Zi s.T x with
          |some (.func (.func g) xs ys)=>bif c.args.isEmpty && F g then
           match lY P F X5 fu n 100000 ⟨{m1.c with tmps:=V1 s.T s.o.dst undef,todo:=todo},s.H,s.n,Wc n (KI s.Qx) m1.R,Wc n (Ui s.Qx) m1.W⟩with
           |some m2=>match E8 m2.c.mode,m2.c.defers with
            |some pv,[]=>match eI P F X5 fu n g (xs++ys) pv m2.H m2.n m2.R m2.W with
             |some m3=>match kf P m2.c.fn m3.H m2.c.tmps with
              |some (v,R4)=>some ⟨.ret v,m3.H,m3.n,Wc n R4 m3.R,m3.W⟩
              |none=>none
             |none=>none
            |_,_=>none
           |none=>none
            else none
          |_=>none
        |_=>none
      |_,_=>none
     |none=>none
   |_,_,_=>none
  |none=>none
 |none=>none

section
variable {P:Program} {F:FuncId->Bool} {X5:Vg} {B:Lo}
theorem GoJ.refl(c:CF)(H:Qm)(n:Nat):GoJ P B c H n c H n [] []:=⟨Shape.same _ _ _,fun _ μ w fr _ _ QF _ _ _ XK _=>⟨fr,w,μ,Post.refl QF,XK,rfl,rfl,Steps.refl _ _⟩⟩
theorem GoJ.trans{c c' c'':CF}{H H' H'':Qm}{n n' n'':Nat}{R R' W W':List Nat}(h:GoJ P B c H n c' H' n' R W)(k:GoJ P B c' H' n' c'' H'' n'' R' W'):GoJ P B c H n c'' H'' n'' (R++R') (W++W'):=by
 refine⟨h.shape.trans k.shape,fun S μ w fr cs Z QF hB hS hf XK hR=> ?_⟩;have l1:=h.shape.le;have l2:=k.shape.le;obtain⟨UB,w1,μ1,hp,UU,hr,hfn,ZQ⟩:=h.sem S μ w fr cs Z QF hB hS (fun q a b=>hf q a (by omega)) XK (fun q hq X2=>hR q (MV _ hq) X2);obtain⟨fr2,w2,μ2,KY,hfr2,hr2,hfn2,hst2⟩:=k.sem _ μ1 w1 UB cs Z hp.ok (hB.post QF hp) (fun q hq=>hq.elim (fun e=>by have:=hS q e;omega) (fun e=>e.2))
  (fun q a b=>by rw[hp.ext q (by omega)];exact hf q (by omega) b) UU (fun q hq X2=>by
   rcases Nm q n with h1|h1
   ·exact .inl (hR q (Nd _ hq) h1)
   ·exact .inr ⟨h1,X2⟩)
 exact⟨fr2,w2,μ2,hp.trans KY,hfr2,hr2.trans hr,hfn2.trans hfn,ZQ.trans hst2⟩
theorem JQ(hF:∀g,F g=true->Q8 P g=true)(XY:P.follows .mixedOrders=true)(Ws:WE P B X5){fu b:Nat}:∀(k:Nat) (m m':MS),Under m.H m.n->lY P F X5 fu b k m=some m'->
 ∃R W,GoJ P B m.c m.H m.n m'.c m'.H m'.n R W/\(∀i,i<b->(i∈m'.R<->i∈m.R\/i∈R))/\(∀i,i<b->(i∈m'.W<->i∈m.W\/i∈W))
 |0,m,m',hu,h=>by simp[lY]at h
 |k+1,m,m',hu,h=>by
  simp only[lY]at h;cases hq:(match m.c.mode with| .run=>Lq m.c|_=>m.c.defers.isEmpty)with
  |true=>
   rw[hq]at h;simp only[cond_true,YO]at h;subst h;exact⟨[],[],GoJ.refl _ _ _,fun i _=>by simp,fun i _=>by simp⟩
  |false=>
   rw[hq]at h;simp only[cond_false]at h;split at h
   ·rename_i c' H' n' R' W' hs;have YA:GoJ P B m.c m.H m.n c' H' n' R' W':=Vx hF XY Ws (b9 hF XY Ws fu) hu hs;obtain⟨R,W,h1,h2,h3⟩:=JQ hF XY Ws k ⟨c',H',n',Wc b R' m.R,Wc b W' m.W⟩ m' (hu.shape YA.shape) h;refine⟨_,_,YA.trans h1,fun i hi=> ?_,fun i hi=> ?_⟩
    ·rw[h2 i hi,Zy hi,NG,or_assoc]
    ·rw[h3 i hi,Zy hi,NG,or_assoc]
   ·cases h
structure Sofar (B:Lo) (S:Nat->Prop) (n N:Nat) (W:List Nat) (μ0 μ:Mu) (H0 H:Qm) (m:Nat) (w0 w:World):Prop where
 post:Post B S n m W μ0 μ H0 H w0 w
 has:B.has w
 free:Jg μ m N
variable {S:Nat->Prop} {n N m m2:Nat} {W W2 R2:List Nat} {μ0 μ:Mu} {H0 H H2:Qm} {w0 w:World}
theorem Sofar.goj(s:Sofar B S n N W μ0 μ H0 H m w0 w)(hS:∀i,S i->i<n){c c':CF}(h:GoJ P B c H m c' H2 m2 R2 W2)(hN:m2<=N)(hR:∀i∈R2,i<n->S i){Z:Bot}{fr:Frame}(XK:FrR Z μ c fr)(cs:List Frame):
 ∃fr' w' μ',Sofar B S n N (W++W2) μ0 μ' H0 H2 m2 w0 w'/\FrR Z μ' c' fr'/\fr'.roundOf=fr.roundOf/\fr'.fn=fr.fn/\Steps P (lone fr cs w) (lone fr' cs w')/\Ext μ μ':=by
 have l1:=s.post.le;have l2:=h.shape.le;have hf:Jg μ m m2:=fun q a b=>s.free q a (by omega)
 obtain⟨fr',w',μ',hp,h1,h2,h3,h4⟩:=h.sem _ μ w fr cs Z s.post.ok s.has (fun i hi=>hi.elim (fun e=>by have:=hS i e;omega) (fun e=>e.2)) hf XK
  (fun q hq X2=>by
   rcases Nm q n with h1|h1
   ·exact .inl (hR q hq h1)
   ·exact .inr ⟨h1,X2⟩)
 exact⟨fr',w',μ',⟨s.post.trans hp,s.has.post s.post.ok hp,fun q a b=>by rw[hp.ext q (by omega)];exact s.free q (by omega) b⟩,h1,h2,h3,h4,hp.mu hf⟩
theorem Sofar.seq(s:Sofar B S n N W μ0 μ H0 H m w0 w)(hS:∀i,S i->i<n){ops:Array Oper}{Qx:List Rec}{len:Nat}{T T2:Tm}(PR:K2 Qx T H m T2 H2 m2)(hs:∀r∈Qx,bj len r)(hk:∀r∈Qx,PB P B ops r)(i:Nat)
 (ho:∀(j:Nat) r,Qx[j]? =some r->ops[i+j]? =some r.o) (hl:T.len=len) (hN:m2<=N) (hR:∀i∈KI Qx,i<n->S i) {fr:Frame} {A:Array Value} (hm:fr.mode=.run) (hT:TR μ T A) (rest:List Nat) (k:List Item) (cs:List Frame):
 ∃A' w' μ',Sofar B S n N (W++Ui Qx) μ0 μ' H0 H2 m2 w0 w'/\TR μ' T2 A'/\Ext μ μ'/\Steps P (lone (Xz fr A ops (Ni i Qx.length++rest) k) cs w) (lone (Xz fr A' ops rest k) cs w'):=by
 have l1:=s.post.le;have l2:=(ZW Qx _ _ _ _ _ _ PR hs).le;have hf:Jg μ m m2:=fun q a b=>s.free q a (by omega)
 obtain⟨μ',A',w',hp,h1,h2⟩:=ax (fr:=fr) (cs:=cs) (k:=k) hm Qx i T H m T2 H2 m2 rest PR hs hk ho hl _ μ w A s.post.ok s.has (fun i hi=>hi.elim (fun e=>by have:=hS i e;omega) (fun e=>e.2)) hf
  (fun q hq X2=>by
   rcases Nm q n with h1|h1
   ·exact .inl (hR q hq h1)
   ·exact .inr ⟨h1,X2⟩) hT
 exact⟨A',w',μ',⟨s.post.trans hp,s.has.post s.post.ok hp,fun q a b=>by rw[hp.ext q (by omega)];exact s.free q (by omega) b⟩,h1,hp.mu hf,h2⟩
theorem Tj(hF:∀g,F g=true->Q8 P g=true)(XY:P.follows .mixedOrders=true)(Ws:WE P B X5){fu:Nat}{ops:Array Oper}{c:CF}{H:Qm}{n:Nat}{s:MB}(hu:Under H n)(h:tO P F X5 fu ops c H n=some s):
 ∃pre,ops.toList=pre++s.o::s.post/\(∀r∈s.Qx,bj c.tmps.len r)/\(∀r∈s.Qx,PB P B ops r)/\K2 s.Qx c.tmps H n s.T s.H s.n/\s.Qx.map (·.o)=pre/\Under s.H s.n/\JY s.T s.o.dst=true/\Region.wanted s.o (XT ops s.T)=true:=by
 unfold tO at h;have he:=jR ops.toList;split at h
 ·rename_i pre o post hsp;rw[hsp]at he;split at h
  ·rename_i Qx T H' n' hr;cases hd:(JY T o.dst && Region.wanted o (XT ops T))with
   |false=>rw[hd]at h;cases h
   |true=>
    rw[<-Wb h];simp only[YB]at hd;obtain⟨h1,h2,h3,h4,h5⟩:=Kk hF (b9 hF XY Ws fu) Ws (len:=c.tmps.len) pre c.tmps H n Qx _ rfl hu hr;exact⟨pre,he.symm,h1,h2,h3,h4,h5,hd.1,hd.2⟩
  ·cases h
 ·cases h
theorem fU:∀(l:List Rec) (T:Tm) (H:Qm) (n:Nat) (T':Tm) (H':Qm) (n':Nat),K2 l T H n T' H' n'->T'.len=T.len
 |[],T,H,n,T',H',n',h=>by
  obtain⟨rfl,_,_⟩:=h;rfl
 |r::l,T,H,n,T',H',n',h=>by
  obtain⟨_,_,_,h4⟩:=h;rw[fU l _ _ _ _ _ _ h4,Um]
theorem kb{B:Lo}{S:Nat->Prop}{μ:Mu}{H:Qm}{n:Nat}{w:World}{T:Tm}{A:Array Value}{f:FuncId}{v:Value}{R:List Nat}(hu:Under H n)(QF:Ok B S μ (Qs H) w)(ht:TR μ T A)(hv:kf P f H T=some (v,R))(hR:∀i∈R,i<n->S i):
 ∃fn v',P.funcs[f]? =some fn/\(results fn A).run P w=.ok v' w/\VR μ v v':=by
 unfold kf at hv;rw[TL,MX]at hv;split at hv
 ·rename_i fn hfn;split at hv
  ·rename_i vs R1 hvs;simp only[YO,YR]at hv;obtain⟨rfl,rfl⟩:=hv;obtain⟨vs',h1,h2⟩:=Po hu QF ht _ _ _ hvs hR;refine⟨fn,_,hfn, ?_,qq h2⟩;rw[cF,Array.mapM_eq_mapM_toList];simp only[Sem.run_bind,Sem.run_map,h1,Result.andThen_ok,Sem.run_pure]
  ·cases hv
 ·cases hv
theorem range_split{a b:Nat}{m:Nat}(h:m=a+(b+1)):Ni 0 m=Ni 0 a++a::Ni (a+1) b:=by
 subst h;have:=List.range'_append_1 (s:=0) (m:=a) (n:=b+1);rw[<-this,Nj,List.range'_succ]
def tq(μ:Mu)(pv:Value)(cal:Frame):Prop:=(pv=.nilIface/\cal.mode=.returning)\/∃v',VR μ pv v'/\cal.mode=.panicking [{v:=v',recovered:=false}]
theorem cG(hF:∀g,F g=true->Q8 P g=true)(XY:P.follows .mixedOrders=true)(Ws:WE P B X5){fu b:Nat}{g:FuncId}{args:Array Value}{pv:Value}{R0 W0:List Nat}{m3:MS}(hu:Under H m)(h:eI P F X5 fu b g args pv H m R0 W0=some m3):
 ∃Rr Wr,Shape H m m3.H m3.n Rr Wr/\(∀i,i<b->(i∈m3.R<->i∈R0\/i∈Rr))/\(∀i,i<b->(i∈m3.W<->i∈W0\/i∈Wr))/\
  ∀(S:Nat->Prop) (n N:Nat) (W:List Nat) (μ0 μ:Mu) (H0:Qm) (w0 w:World),Sofar B S n N W μ0 μ H0 H m w0 w->(∀i,S i->i<n)->m3.n<=N->(∀i∈Rr,i<n->S i)->∀(args':Array Value) (cal:Frame) (cs:List Frame),VRs μ args args'->tq μ pv cal->
   ∃w' μ',Sofar B S n N (W++Wr) μ0 μ' H0 m3.H m3.n w0 w'/\Ext μ μ'/\Steps P (lone (Frame.enter P g args' .deferred) (cal::cs) w) (lone {cal with mode:=.returning} cs w'):=by
 unfold eI at h;split at h
 ·rename_i cd hcd;split at h
  ·rename_i m1 hm1;obtain⟨R1,W1,g1,a1,b1⟩:=JQ hF XY Ws 10000 ⟨cd,H,m,R0,W0⟩ m1 hu hm1;have SM:Under m1.H m1.n:=hu.shape g1.shape;split at h
   ·rename_i id ops todo hmode1 htodo1;split at h
    ·rename_i s hs;obtain⟨pre,e1,e2,e3,e4,e5,e6,e7,e8⟩:=Tj hF XY Ws SM hs;split at h
     ·rename_i c Zw;split at h
      ·rename_i hcal;cases hca:c.args.isEmpty with
       |false=>rw[hca]at h;cases h
       |true=>
        rw[hca]at h;simp only[cond_true]at h;split at h
        ·rename_i recs2 T2 H2 n2 hr2;obtain⟨f1,f2,f3,f4,f5⟩:=Kk hF (b9 hF XY Ws fu) Ws (len:=m1.c.tmps.len) s.post (V1 s.T s.o.dst pv) s.H s.n recs2 _ (by rw[Um];exact fU _ _ _ _ _ _ _ e4) e6 hr2;split at h
         ·rename_i m2 hm2;obtain⟨R7,W7,g7,a7,b7⟩:=JQ hF XY Ws 10000 _ m2 f5 hm2;simp only at g7 a7 b7;have hu2:Under m2.H m2.n:=f5.shape g7.shape;split at h
          ·rename_i hmode2 hds2 hres;rename_i vres R3;simp only[YO]at h;subst h;have sh4:=ZW s.Qx _ _ _ _ _ _ e4 e2;have sh5:=ZW recs2 _ _ _ _ _ _ f3 f1;have Yl:=((g1.shape.trans sh4).trans sh5).trans g7.shape;have hca':c.args=#[]:=by simpa[Array.isEmpty]using hca
           refine⟨(((R1++KI s.Qx)++KI recs2)++R7)++R3,((W1++Ui s.Qx)++Ui recs2)++W7,⟨Yl.le,Yl.keep,Yl.top,fun i hi=>MV _ (Yl.sub i hi),Yl.wlt⟩,fun i hi=> ?_,fun i hi=> ?_, ?_⟩
           ·simp only[NG];rw[Zy hi,a7 i hi,Zy hi,Zy hi,a1 i hi];simp only[or_assoc]
           ·simp only[NG];rw[b7 i hi,Zy hi,Zy hi,b1 i hi];simp only[or_assoc]
           ·intro S n N W μ0 μ H0 w0 w hs0 hS hN hR args' cal cs hv hun;simp only at hN;have l1:=g1.shape.le;have l2:=sh4.le;have l3:=sh5.le;have l4:=g7.shape.le;simp only[NG]at hR;have hfr0:FrR ⟨[],.deferred⟩ μ cd (Frame.enter P g args' .deferred):=nR .deferred hcd hv;obtain⟨UB,w1,μ1,s1,UU,hro1,_,st1,x1⟩:=hs0.goj hS g1 (by omega) (fun i hi=>hR i (.inl (.inl (.inl (.inl hi))))) hfr0 (cal::cs);have hro1:UB.roundOf=none:=hro1;obtain⟨ha,hb,hd⟩:=UU.running hmode1;rw[htodo1]at hd;obtain⟨L',hL,hL'⟩:=hd.code;have hlen:ops.size=pre.length+(s.post.length+1):=by
             have:=congrArg MO e1;simp at this;omega
            have hat:ops[pre.length]? =some s.o:=by
             rw[<-MX,e1,MZ (Nh _)];simp
            have hplen:s.Qx.length=pre.length:=by have:=congrArg MO e5;simpa using this
            have hown1:∀(j:Nat) r,s.Qx[j]? =some r->ops[0+j]? =some r.o:=by
             intro j r hj;rw[Nj];exact Us (l:=ops.toList) (l2:=s.o::s.post) (by rw[e5];exact e1.symm) rfl j r hj
            obtain⟨A1,w2,μ2,s2,hT2,x2,st2⟩:=s1.seq hS e4 e2 e3 0 hown1 rfl (by omega) (fun i hi=>hR i (.inl (.inl (.inl (.inr hi))))) ha hb (pre.length::Ni (pre.length+1) s.post.length) L' (cal::cs);have P3:step P (lone UB (cal::cs) w1)=.next (lone (Xz UB UB.tmps ops (Ni 0 ops.size) L') (cal::cs) w1):=Wg ha hL;rw[range_split hlen]at P3;rw[hplen]at st2;have UE:Region.wanted s.o (yielded ops A1)=true:=by rw[Kd hT2];exact e8
            have hk1:UB.kind=.deferred:=UU.kind
            -- the operation itself
            have Vt:∃v' cal1,VR μ2 pv v'/\(cal1.mode=.returning\/∃v,cal1.mode=.panicking [{v,recovered:=true}])/\{cal1 with mode:=.returning}={cal with mode:=FrameMode.returning}/\
             step P (lone (Xz UB A1 ops (pre.length::Ni (pre.length+1) s.post.length) L') (cal::cs) w2)=.next (lone ((Xz UB A1 ops (pre.length::Ni (pre.length+1) s.post.length) L').finish v') (cal1::cs) w2):=by
             rcases hun with ⟨rfl,hret⟩|⟨v',Vr,hpan⟩
             ·exact⟨.nilIface,cal,.nilIface,.inl hret,rfl,eE ha hro1 hat UE Zw hcal hca' hk1 hret⟩
             ·exact⟨v',{cal with mode:=.panicking [{v:=v',recovered:=true}]},(Vr.mono x1).mono x2,.inr ⟨v',rfl⟩,rfl,rq ha hk1 hro1 hat UE Zw hcal hca' hpan⟩
            obtain⟨v',cal1,Vr,hcal1,hcalr,st3⟩:=Vt;rw[Y9 hat]at st3;have hdst:=Yb e7;have hT3:TR μ2 (V1 s.T s.o.dst pv) (putA A1 v' s.o.dst):=hT2.putA hdst Vr;have hown2:∀(j:Nat) r,recs2[j]? =some r->ops[pre.length+1+j]? =some r.o:=by
             intro j r hj;have e:(recs2.map (·.o))[j]? =some r.o:=by rw[Ng,hj];rfl
             rw[f4]at e;rw[<-MX,e1,MZ (by omega),show pre.length+1+j-pre.length=j+1 by omega];simpa using e
            have hplen2:recs2.length=s.post.length:=by have:=congrArg MO f4;simpa using this
            obtain⟨A2,w3,μ3,s3,hT4,x3,st4⟩:=s2.seq hS f3 f1 f2 (pre.length+1) hown2 (by rw[Um];exact fU _ _ _ _ _ _ _ e4) (by omega) (fun i hi=>hR i (.inl (.inl (.inr hi)))) ha hT3 [] L' (cal1::cs);rw[List.append_nil,hplen2]at st4;have st5:Steps P (lone (Xz UB A2 ops [] L') (cal1::cs) w3) (lone {UB with tmps:=A2,todo:=L'} (cal1::cs) w3):=.one (Vi ha);have hfr2:FrR ⟨[],.deferred⟩ μ3 {m1.c with tmps:=T2,todo:=todo} {UB with tmps:=A2,todo:=L'}:=
             ⟨UU.fn,hT4,fun _=>(hL'.mono x2).mono x3,(UU.defers.mono x2).mono x3,(UU.mode.mono x2).mono x3,UU.kind,(UU.round.mono x2).mono x3⟩
            obtain⟨fr3,w4,μ4,s4,hfr3,hro3,_,st6,x4⟩:=s3.goj hS g7 (by omega) (fun i hi=>hR i (.inl (.inr hi))) hfr2 (cal1::cs);have hmode3:fr3.mode=.returning:=by
             have:=hfr3.mode;rw[hmode2]at this;generalize fr3.mode=q at this;cases this;rfl
            have hd3:fr3.defers=[]:=by
             have:=hfr3.defers;rw[hds2]at this;exact this.empty
            obtain⟨fn,vr,hfn,hresr,_⟩:=kb hu2 s4.post.ok hfr3.tmps hres (fun i hi X2=>by
             rcases Nm i n with h1|h1
             ·exact .inl (hR i (.inr hi) h1)
             ·exact .inr ⟨h1,X2⟩)
            have st7:=c7 (cs:=cs) hmode3 hd3 hfr3.kind (by rw[hfr3.fn];exact hfn) hresr hcal1;rw[hcalr]at st7;refine⟨w4,μ4,by simpa[List.append_assoc]using s4,((x1.trans x2).trans x3).trans x4, ?_⟩;exact st1.trans (.head P3 (st2.trans (.head st3 (st4.trans (st5.trans (st6.trans (.one st7)))))))
          ·cases h
         ·cases h
        ·cases h
      ·cases h
     ·cases h
    ·cases h
   ·cases h
  ·cases h
 ·cases h
theorem dR{fu b:Nat}:∀(k:Nat) (m m':MS),lY P F X5 fu b k m=some m'->(∀i∈m.W,i<b)->∀i∈m'.W,i<b
 |0,m,m',h,hw=>by simp[lY]at h
 |k+1,m,m',h,hw=>by
  simp only[lY]at h;cases hq:(match m.c.mode with| .run=>Lq m.c|_=>m.c.defers.isEmpty)with
  |true=>
   rw[hq]at h;simp only[cond_true,YO]at h;subst h;exact hw
  |false=>
   rw[hq]at h;simp only[cond_false]at h;split at h
   ·exact dR k _ m' h (PA hw)
   ·cases h
theorem AD{fu b:Nat}{g:FuncId}{args:Array Value}{pv:Value}{H:Qm}{m:Nat}{R0 W0:List Nat}{m3:MS}(h:eI P F X5 fu b g args pv H m R0 W0=some m3)(hw:∀i∈W0,i<b):∀i∈m3.W,i<b:=by
 unfold eI at h;split at h
 ·split at h
  ·rename_i m1 hm1;have w1:=dR 10000 _ m1 hm1 hw;split at h
   ·split at h
    ·split at h
     ·split at h
      ·have h:=Yf h;split at h
       ·split at h
        ·rename_i m2 hm2;have w2:=dR 10000 _ m2 hm2 (PA (PA w1));split at h
         ·simp only[YO]at h;subst h;exact w2
         ·cases h
        ·cases h
       ·cases h
      ·cases h
     ·cases h
    ·cases h
   ·cases h
  ·cases h
 ·cases h
theorem xz(hF:∀g,F g=true->Q8 P g=true)(XY:P.follows .mixedOrders=true)(Ws:WE P B X5){fu:Nat}{f:FuncId}{args:Array Value}{H:Qm}{n:Nat}{s0:Rs}(hu:Under H n)(h:FM P F X5 fu f args H n=some s0):
 Shape H n s0.H s0.n s0.R s0.W/\∀(S:Nat->Prop) (μ:Mu) (w:World) (args':Array Value) (cs:List Frame),Ok B S μ (Qs H) w->B.has w->(∀i,S i->i<n)->Jg μ n s0.n->VRs μ args args'->(∀i∈s0.R,i<n->S i)->
  ∃Zl w' μ',Post B S n s0.n s0.W μ μ' H s0.H w w'/\OR2 μ' s0.out Zl/\EndsAs P (Frame.enter P f args' .normal) cs w Zl w':=by
 unfold FM at h;split at h
 ·rename_i c0 hc0;split at h
  ·rename_i m1 hm1;obtain⟨R1,W1,g1,a1,b1⟩:=JQ hF XY Ws 10000 ⟨c0,H,n,[],[]⟩ m1 hu hm1;have SM:Under m1.H m1.n:=hu.shape g1.shape;split at h
   ·rename_i id ops todo hmode1 htodo1 hds1;split at h
    ·rename_i s hs;obtain⟨pre,e1,e2,e3,e4,e5,e6,e7,e8⟩:=Tj hF XY Ws SM hs;split at h
     ·rename_i c Zw XO;split at h
      ·rename_i x hcal;split at h
       ·rename_i g xs ys hx;cases hca:(c.args.isEmpty && F g)with
        |false=>rw[hca]at h;cases h
        |true=>
         rw[hca]at h;simp only[cond_true]at h;simp only[YB]at hca;split at h
         ·rename_i m2 hm2;obtain⟨R3,W3,g3,a3,b3⟩:=JQ hF XY Ws 100000 _ m2 e6 hm2;simp only at g3 a3 b3;have hu2:Under m2.H m2.n:=e6.shape g3.shape;split at h
          ·rename_i pv hpv hds2;split at h
           ·rename_i m3 hm3;obtain⟨Rr,Wr,sh3,ar,br,hsem⟩:=cG (B:=B) hF XY Ws hu2 hm3;have hu3:Under m3.H m3.n:=hu2.shape sh3;split at h
            ·rename_i v R4 hres;simp only[YO]at h;subst h;have sh2:=ZW s.Qx _ _ _ _ _ _ e4 e2;have Yl:=((g1.shape.trans sh2).trans g3.shape).trans sh3;have hRiff:∀i,i<n->(i∈Wc n R4 m3.R<->i∈((R1++KI s.Qx)++R3)++Rr\/i∈R4):=fun i hi=>by
              rw[Zy hi,ar i hi,a3 i hi,Zy hi,a1 i hi];simp only[NG,List.not_mem_nil,false_or]
             have hWiff:∀i,i<n->(i∈m3.W<->i∈((W1++Ui s.Qx)++W3)++Wr):=fun i hi=>by
              rw[br i hi,b3 i hi,Zy hi,b1 i hi];simp only[NG,List.not_mem_nil,false_or]
             have hWlt:∀i∈m3.W,i<n:=AD hm3 (dR 100000 _ m2 hm2 (PA (dR 10000 _ m1 hm1 (fun i hi=>by simp at hi))));refine⟨⟨Yl.le,fun i hi hw=>Yl.keep i hi fun e=>hw ((hWiff i hi).2 e),Yl.top,fun i hi=>(hRiff i (hWlt i hi)).2 (.inl (Yl.sub i ((hWiff i (hWlt i hi)).1 hi))),fun i hi=>by have:=hWlt i hi;have:=Yl.le;simp only at *;omega⟩,fun S μ w args' cs QF hB hS hf hv hR=> ?_⟩;simp only at hf hR ⊢;have hR':∀i,i<n->i∈((R1++KI s.Qx)++R3)++Rr\/i∈R4->S i:=fun i hi h=>hR i ((hRiff i hi).2 h) hi
             have l1:=g1.shape.le;have l2:=sh2.le;have l3:=g3.shape.le;have l4:=sh3.le;have sf0:Sofar B S n m3.n [] μ μ H H n w w:=⟨Post.refl QF,hB,hf⟩
             have hfr0:FrR Bot.no μ c0 (Frame.enter P f args' .normal):=Ux hc0 hv;obtain⟨UB,w1,μ1,s1,UU,hro1,hfn1,st1,x1⟩:=sf0.goj hS g1 (by omega) (fun i hi X2=>hR' i X2 (.inl (MV _ (MV _ (MV _ hi))))) hfr0 cs;have hro1:UB.roundOf=none:=hro1;obtain⟨ha,hb,hd⟩:=UU.running hmode1;rw[htodo1]at hd;obtain⟨L',hL,hL'⟩:=hd.code;have hd1:UB.defers=[]:=by
              have:=UU.defers;rw[hds1]at this;exact this.empty
             rw[XO]at e1;have hlen:ops.size=pre.length+(0+1):=by
              have:=congrArg MO e1;simp at this;omega
             have hat:ops[pre.length]? =some s.o:=by
              rw[<-MX,e1,MZ (Nh _)];simp
             have hplen:s.Qx.length=pre.length:=by have:=congrArg MO e5;simpa using this
             have hown1:∀(j:Nat) r,s.Qx[j]? =some r->ops[0+j]? =some r.o:=by
              intro j r hj;rw[Nj];exact Us (l:=ops.toList) (l2:=[s.o]) (by rw[e5];exact e1.symm) rfl j r hj
             obtain⟨A1,w2,μ2,s2,hT2,x2,st2⟩:=s1.seq hS e4 e2 e3 0 hown1 rfl (by omega) (fun i hi X2=>hR' i X2 (.inl (MV _ (MV _ (Nd _ hi))))) ha hb (pre.length::Ni (pre.length+1) 0) L' cs;have P3:step P (lone UB cs w1)=.next (lone (Xz UB UB.tmps ops (Ni 0 ops.size) L') cs w1):=Wg ha hL;rw[range_split hlen]at P3;rw[hplen]at st2;have UE:Region.wanted s.o (yielded ops A1)=true:=by rw[Kd hT2];exact e8
             have hvx:=nN (fr:=Xz UB A1 ops (pre.length::Ni (pre.length+1) 0) L') hT2 x _ hx;have hca':c.args=#[]:=by simpa[Array.isEmpty]using hca.1
             generalize hgx:(Xz UB A1 ops (pre.length::Ni (pre.length+1) 0) L').eval x=ux at hvx;cases hvx with
             |func q1 q2 q3 q4=>
              rename_i xs' ys';have hdv:(Deferred.ofValue ((Xz UB A1 ops (pre.length::Ni (pre.length+1) 0) L').eval x) (c.args.map (Xz UB A1 ops (pre.length::Ni (pre.length+1) 0) L').eval)).run P w2=.ok {target:=.fn (.func g) ys',args:=xs'} w2:=by
               rw[hgx,hca'];simp[Deferred.ofValue]
              have st3:=step_defer (cs:=cs) (w:=w2) ha hro1 hat UE Zw hcal hdv;rw[Y9 hat]at st3;have hdst:=Yb e7;have hT3:TR μ2 (V1 s.T s.o.dst undef) (putA A1 undef s.o.dst):=hT2.putA hdst VR.undef
              -- the frame behind the region
              have st4:step P (lone {Xz UB (putA A1 undef s.o.dst) ops (Ni (pre.length+1) 0) L' with defers:={target:=.fn (.func g) ys',args:=xs'}::UB.defers} cs w2)=
               .next (lone {UB with tmps:=putA A1 undef s.o.dst,todo:=L',defers:={target:=.fn (.func g) ys',args:=xs'}::UB.defers} cs w2):=
               Vi (fr:={UB with defers:={target:=.fn (.func g) ys',args:=xs'}::UB.defers}) (A:=putA A1 undef s.o.dst) (ops:=ops) (k:=L') ha
              have hfr2:FrR ⟨[{target:=.fn (.func g) ys',args:=xs'}],.normal⟩ μ2 {m1.c with tmps:=V1 s.T s.o.dst undef,todo:=todo} {UB with tmps:=putA A1 undef s.o.dst,todo:=L',defers:={target:=.fn (.func g) ys',args:=xs'}::UB.defers}:=
               ⟨UU.fn,hT3,fun _=>hL'.mono x2,by rw[show({m1.c with tmps:=V1 s.T s.o.dst undef,todo:=todo}:CF).defers=[]from hds1];exact .of_empty (by simp[hd1]),UU.mode.mono x2,UU.kind,UU.round.mono x2⟩
              obtain⟨fr3,w3,μ3,s3,hfr3,hro3,hfn3,st5,x3⟩:=s2.goj hS g3 (by omega) (fun i hi X2=>hR' i X2 (.inl (MV _ (Nd _ hi)))) hfr2 cs;have hd3:fr3.defers=[{target:=.fn (.func g) ys',args:=xs'}]:=by
               have:=hfr3.defers;rw[hds2]at this;exact this.empty
              have hun:tq μ3 pv {fr3 with defers:=[]}/\fr3.mode≠.run:=by
               have hm:=hfr3.mode;generalize fr3.mode=q at hm ⊢;cases hcm:m2.c.mode with
               |run=>rw[hcm]at hpv;cases hpv
               |ret=>
                rw[hcm]at hpv hm;cases hm;simp only[E8,YO]at hpv;exact⟨.inl ⟨hpv.symm,rfl⟩,fun e=>by cases e⟩
               |ZG v0=>
                rw[hcm]at hpv hm;cases hm with
                |ZG Vr=>
                 simp only[E8,YO]at hpv;subst hpv;exact⟨.inr ⟨_,Vr,rfl⟩,fun e=>by cases e⟩
              have st6:step P (lone fr3 cs w3)=.next (lone (Frame.enter P g (xs'++ys') .deferred) ({fr3 with defers:=[]}::cs) w3):=
               J6 hun.2 hd3 rfl (SV (hF g hca.2) _ w3)
              have hvargs:VRs μ3 (xs++ys) (xs'++ys'):=by
               have k1:VRs μ3 xs xs':=(VRs.mono x3 ⟨q1,q3⟩)
               have k2:VRs μ3 ys ys':=(VRs.mono x3 ⟨q2,q4⟩)
               exact k1.append k2
              obtain⟨w4,μ4,s4,x4,st7⟩:=hsem S n m3.n _ μ μ3 H w w3 s3 hS (Nh _) (fun i hi X2=>hR' i X2 (.inl (Nd _ hi))) _ {fr3 with defers:=[]} cs hvargs hun.1
              obtain⟨fn,v',hfn,hresr,Vr⟩:=kb hu3 s4.post.ok (hfr3.tmps.mono x4) hres (fun i hi X2=>by
               rcases Nm i n with h1|h1
               ·exact .inl (hR' i h1 (.inr hi))
               ·exact .inr ⟨h1,X2⟩)
              have hfnE:fr3.fn=f:=by
               have:(Frame.enter P f args' .normal).fn=f:=rfl;rw[hfn3];show UB.fn=f;rw[hfn1,this]
              have JV:({fr3 with defers:=[],mode:=.returning}:Frame).leaving P w4 (.returned v'):=⟨rfl,rfl,hfr3.kind,fn,by rw[<-hfn,hfr3.fn],hresr⟩
              have ZQ:Steps P (lone (Frame.enter P f args' .normal) cs w) (lone {fr3 with defers:=[],mode:=.returning} cs w4):=
               st1.trans (.head P3 (st2.trans (.head st3 (.head st4 (st5.trans (.head st6 st7))))))
              refine⟨.ret v',w4,μ4,s4.post.lists (fun i hi=>by rw[hWiff i hi];simp[List.append_assoc]),.ret Vr,fun _=>⟨_,ZQ,hfnE,JV⟩,fun c1 cs' e=> ?_⟩;subst e;exact ZQ.trans (.one (step_leave_returned JV))
            ·cases h
           ·cases h
          ·cases h
         ·cases h
       ·cases h
      ·cases h
     ·cases h
    ·cases h
   ·cases h
  ·cases h
 ·cases h
end
def Memo.drun(P:Program)(F:FuncId->Bool)(X5:Vg)(fuel:Nat)(m:Memo):Option Rs:=FM P F X5 fuel m.g m.args m.H0 m.n
theorem Xh{P:Program}{F:FuncId->Bool}{X5:Vg}{B:Lo}(hF:∀g,F g=true->Q8 P g=true)(XY:P.follows .mixedOrders=true)(Ws:WE P B X5){fuel:Nat}{m:Memo}{l:List Memo}(hm:QT m (m.drun P F X5 fuel)=true)(hl:WE P B (XX l)):WE P B (XX (m::l)):=by
 intro g args H n s hu h;simp only[XX]at h;cases hq:(MQ m.n n && MQ m.g g && FG (C4 1) args.toList m.args.toList && hasAll H m.H0)with
 |false=>
  rw[hq]at h;exact hl g args H n s hu h
 |true=>
  rw[hq]at h;simp only[cond_true,YO]at h;simp only[YB]at hq;obtain⟨⟨⟨q1,q2⟩,q3⟩,q4⟩:=hq;obtain rfl:=YE q1;obtain rfl:=YE q2;obtain rfl:=Array.ext' (K1 (UC 1) _ _ q3);have hH:=Jb q4;subst h;obtain⟨Hs,R,Uc,hnews,hw,hw0,hR0⟩:=hZ hm;have hu0:Under m.H0 m.n:=fun i hi=>Ve hw0 (.inr hi)
  have hsem:=xz (B:=B) hF XY Ws hu0 Uc;have hle:m.n<=m.n':=hsem.1.le;have YA:∀i,i<m.n\/m.n'<=i->Qs (m.news++H) i=Qs H i:=fun i hi=>by
   rw[ZV,Ve hw hi]
  have K5:∀i o,m.n<=i->Qs (m.news++H) i=some o->Qs Hs i=some o:=by
   intro i o h1 h2;rw[ZV]at h2;cases hg:Qs m.news i with
   |some x=>
    rw[hg]at h2;rw[hnews i x hg];exact h2
   |none=>
    rw[hg,hu i h1]at h2;cases h2
  refine⟨⟨hle,fun i hi _=>YA i (.inl hi),fun i hi=>YA i (.inr hi),fun _ h=>by simp at h,fun _ h=>by simp at h⟩,fun S μ w args' cs QF hB hS hf hv hR=> ?_⟩;simp only at hf hR ⊢;have hok0:Ok B (fun i=>S i/\∃o,Qs m.H0 i=some o) μ (Qs m.H0) w:=by
   refine⟨fun i o hi ho hl=>QF.rel i o hi.1 (hH i o ho) hl,fun i o im hi ho hl=>QF.low i o im hi.1 (hH i o ho) hl,fun i j oi oj a b hi hj P4 Wl Wj=>QF.inj i j oi oj a b hi.1 hj.1 P4 (hH i oi Wl) (hH j oj Wj),
    fun i o hi ho=>QF.Yg i o hi.1 (hH i o ho),fun i j oi oj a b x hi hj Wl Wj=>QF.sep i j oi oj a b x hi.1 hj.1 (hH i oi Wl) (hH j oj Wj)⟩
  obtain⟨Zl,w',μ',hp,ho,he⟩:=hsem.2 _ μ w args' cs hok0 hB (fun i hi=>hS i hi.1) hf hv (fun i hi hl=>by
   obtain⟨o,ho⟩:=hR0 i hi hl;exact⟨hR i (ef ho) hl,o,ho⟩)
  simp only at hp ho;have hold:∀i im,S i->μ i=some im->μ' i=some im:=fun i im hi h=>by
   have:=hS i hi;rw[hp.ext i (by omega)];exact h
  have hext:Ext μ μ':=hp.mu hf;have XK:∀i im o,m.n<=i->i<m.n'->Qs (m.news++H) i=some o->live o->μ' i=some im->im.rw=true/\w.heap.size<=im.Z1:=by
   intro i im o h1 h2 h3 h4 h5;obtain⟨x,y⟩:=hp.fresh i im o h1 h2 (K5 i o h1 h3) h4 h5;exact⟨x,y.elim id fun⟨k,hk,_⟩=>by simp at hk⟩
  have hOld:∀i o,S i->Qs (m.news++H) i=some o->live o->∃im,μ i=some im/\μ' i=some im/\Qs H i=some o/\im.Z1<w.heap.size:=by
   intro i o hi ho hl;have:=hS i hi;rw[YA i (.inl this)]at ho;obtain⟨im,QK,_⟩:=QF.rel i o hi ho hl;exact⟨im,QK,hold i im hi QK,ho,(QF.low i o im hi ho hl QK).1⟩
  refine⟨Zl,w',μ',⟨⟨fun i o hi ho hl=> ?_,fun i o im hi ho hl QK=> ?_,fun i j oi oj a b hi hj P4 Wl Wj P2 Uk ha hb hra K4=> ?_,fun i o hi ho hr=> ?_,fun i j oi oj a b x hi hj Wl Wj YG Uk ha hb K4 hx=> ?_⟩,hle,hp.ext,fun i hi _=>YA i (.inl hi),hp.grow,fun b hb _=>hp.frame b hb fun i hi=>by simp at hi,fun i hi=>by simp at hi,
   fun i im o h1 h2 h3 h4 h5=>⟨(XK i im o h1 h2 h3 h4 h5).1,.inl (XK i im o h1 h2 h3 h4 h5).2⟩,fun i im o hi ho hr hm b x hx=> ?_,hp.os,hp.tape,hp.output⟩,ho,he⟩
  ·rcases hi with hi|hi
   ·obtain⟨im,QK,QW,Kb,X2⟩:=hOld i o hi ho hl;obtain⟨im2,WC,hr2⟩:=QF.rel i o hi Kb hl;rw[QK]at WC;cases WC;exact⟨im,QW,hr2.keep hext (hp.frame _ X2 fun i hi=>by simp at hi)⟩
   ·exact hp.ok.rel i o (.inr hi) (K5 i o hi.1 ho) hl
  ·rcases hi with hi|hi
   ·obtain⟨im2,WC,QW,Kb,X2⟩:=hOld i o hi ho hl;rw[QK]at QW;cases QW;exact⟨Nat.lt_of_lt_of_le X2 hp.grow,(QF.low i o im hi Kb hl WC).2⟩
   ·exact hp.ok.low i o im (.inr hi) (K5 i o hi.1 ho) hl QK
  ·rcases hi with hi|hi <;> rcases hj with hj|hj
   ·obtain⟨im,h1,h2,h3,_⟩:=hOld i oi hi Wl P2;obtain⟨jm,k1,k2,k3,_⟩:=hOld j oj hj Wj Uk;rw[ha]at h2;cases h2;rw[hb]at k2;cases k2;exact QF.inj i j oi oj a b hi hj P4 h3 k3 P2 Uk h1 k1 hra K4
   ·obtain⟨im,h1,h2,h3,h4⟩:=hOld i oi hi Wl P2;rw[ha]at h2;cases h2;have:=(XK j b oj hj.1 hj.2 Wj Uk hb).2;omega
   ·obtain⟨im,h1,h2,h3,h4⟩:=hOld j oj hj Wj Uk;rw[hb]at h2;cases h2;have:=(XK i a oi hi.1 hi.2 Wl P2 ha).2;omega
   ·exact hp.ok.inj i j oi oj a b (.inr hi) (.inr hj) P4 (K5 i oi hi.1 Wl) (K5 j oj hj.1 Wj) P2 Uk ha hb hra K4
  ·rcases hi with hi|hi
   ·have:=hS i hi;rw[YA i (.inl this)]at ho;obtain⟨im,QK,hf⟩:=QF.Yg i o hi ho hr;exact⟨im,hold i im hi QK,fun b x hx=>by rw[hp.frame b (YC QF hi ho hr QK hx) fun i hi=>by simp at hi];exact hf b x hx⟩
   ·exact hp.ok.Yg i o (.inr hi) (K5 i o hi.1 ho) hr
  ·have oldR:∀i oi a,S i->Qs (m.news++H) i=some oi->μ' i=some a->Wv oi->Qs H i=some oi/\μ i=some a:=by
    intro i oi a hi Wl ha hr;have:=hS i hi;rw[YA i (.inl this)]at Wl;rw[hp.ext i (by omega)]at ha;exact⟨Wl,ha⟩
   rcases hi with hi|hi <;> rcases hj with hj|hj
   ·obtain⟨h1,h2⟩:=oldR i oi a hi Wl ha YG;obtain⟨jm,k1,k2,k3,_⟩:=hOld j oj hj Wj Uk;rw[hb]at k2;cases k2;exact QF.sep i j oi oj a b x hi hj h1 k3 YG Uk h2 k1 K4 hx
   ·obtain⟨h1,h2⟩:=oldR i oi a hi Wl ha YG;have:=(XK j b oj hj.1 hj.2 Wj Uk hb).2;have:=YC QF hi h1 YG h2 hx;omega
   ·obtain⟨jm,k1,k2,k3,k4⟩:=hOld j oj hj Wj Uk;rw[hb]at k2;cases k2;rcases hp.rf i a oi (.inl hi) (K5 i oi hi.1 Wl) YG ha b.Z1 x hx with e|⟨k,Uj,ko,hSk,_,hko,hkr,hkm,hkb⟩|⟨k,hk,_⟩
    ·omega
    ·exact QF.sep k j ko oj Uj b x hSk.1 hj (hH k ko hko) k3 hkr Uk hkm k1 K4 hkb
    ·simp at hk
   ·exact hp.ok.sep i j oi oj a b x (.inr hi) (.inr hj) (K5 i oi hi.1 Wl) (K5 j oj hj.1 Wj) YG Uk ha hb K4 hx
  ·have P3:m.n<=i/\i<m.n':=hi.elim id fun h=>by simp at h
   rcases hp.rf i im o (.inl P3) (K5 i o P3.1 ho) hr hm b x hx with e|⟨k,Uj,ko,hSk,hkn,hko,c⟩|⟨k,hk,_⟩
   ·exact .inl e
   ·exact .inr (.inl ⟨k,Uj,ko,hSk.1,hkn,hH k ko hko,c⟩)
   ·simp at hk
end
end Go.CE

namespace Go.CE
open Go Go.RowKit

section
variable {μ μ1:Mu} {ρ:Nat->Nat} {m:Nat}
end

def XP(v:Value):Prop:=∀μ μ1 v',VR μ v v'->VR μ1 v v'
theorem JT{v:Value}(h:af v=true):XP v:=fun _ _ _ hv=>by rw[Sl h hv];exact J3 h
theorem zr:XP (.chan none):=fun _ _ _ h=>by
 cases h with
 |KF a b c=>exact .KF a b c
theorem Cu{xs:Array Value}(h:∀x∈xs,XP x):XP (.agg xs):=fun μ μ1 v' hv=>by
 cases hv with
 |agg h1 h2=>exact .agg h1 fun i v v' a b=>h v (Nq a) μ μ1 v' (h2 i v v' a b)
theorem wU{xs:Array Value}(h:∀x∈xs,XP x):XP (.tuple xs):=fun μ μ1 v' hv=>by
 cases hv with
 |tuple h1 h2=>exact .tuple h1 fun i v v' a b=>h v (Nq a) μ μ1 v' (h2 i v v' a b)
theorem zt{g:FuncId}{xs ys:Array Value}(h:∀x∈xs,XP x)(k:∀x∈ys,XP x):XP (.func (.func g) xs ys):=fun μ μ1 v' hv=>by
 cases hv with
 |func h1 h2 h3 h4=>exact .func h1 h2 (fun i v v' a b=>h v (Nq a) μ μ1 v' (h3 i v v' a b)) (fun i v v' a b=>k v (Nq a) μ μ1 v' (h4 i v v' a b))
theorem wV{t:TypeId}{v:Value}(h:XP v):XP (.iface t v):=fun μ μ1 v' hv=>by
 cases hv with
 |iface hv=>exact .iface (h μ μ1 _ hv)
theorem tk{xs:Array Value}(h:∀x∈xs,∃d,XP d/\∀μ v',VR μ x v'->VR μ d v'):∃ds:Array Value,ds.size=xs.size/\(∀d∈ds,XP d)/\∀μ (xs':Array Value),(∀(i:Nat) v v',xs[i]? =some v->xs'[i]? =some v'->VR μ v v')->∀(i:Nat) v v',ds[i]? =some v->xs'[i]? =some v'->VR μ v v':=by
 have h':∀i:Fin xs.size,∃d,XP d/\∀μ v',VR μ xs[i] v'->VR μ d v':=fun i=>h xs[i] (Array.getElem_mem i.2)
 refine⟨Array.ofFn fun i=>Classical.choose (h' i),by simp,fun d hd=> ?_,fun μ xs' hx i v v' hv Wq=> ?_⟩
 ·obtain⟨i,hi⟩:=Array.mem_ofFn.1 hd;rw[<-hi];exact(Classical.choose_spec (h' i)).1
 ·rw[Array.getElem?_ofFn]at hv;split at hv
  ·rename_i hi;simp only[YO]at hv;subst hv;exact(Classical.choose_spec (h' ⟨i,hi⟩)).2 μ v' (hx i _ v' (by simp[hi]) Wq)
  ·cases hv
theorem K0(v:Value):∃d,XP d/\∀μ v',VR μ v v'->VR μ d v':=by
 have KF:∀{v:Value},(∀μ v',VR μ v v'->(∀b,v'≠.bool b)/\v'.cells=#[v']/\v'.oneCell'=true)->∃d,XP d/\∀μ v',VR μ v v'->VR μ d v':=
  fun h=>⟨.chan none,zr,fun μ v' hv=>.KF (h μ v' hv).1 (h μ v' hv).2.1 (h μ v' hv).2.2⟩
 match v with
 | .agg xs=>
   obtain⟨ds,e,hl,hd⟩:=tk (xs:=xs) fun x _=>K0 x
   refine⟨.agg ds,Cu hl,fun μ v' hv=> ?_⟩;cases hv with
   |agg h1 h2=>exact .agg (e.trans h1) (hd μ _ h2)
 | .tuple xs=>
   obtain⟨ds,e,hl,hd⟩:=tk (xs:=xs) fun x _=>K0 x
   refine⟨.tuple ds,wU hl,fun μ v' hv=> ?_⟩;cases hv with
   |tuple h1 h2=>exact .tuple (e.trans h1) (hd μ _ h2)
 | .func (.func g) xs ys=>
   obtain⟨ds,e,hl,hd⟩:=tk (xs:=xs) fun x _=>K0 x
   obtain⟨es,e',hl',hd'⟩:=tk (xs:=ys) fun x _=>K0 x
   refine⟨.func (.func g) ds es,zt hl hl',fun μ v' hv=> ?_⟩;cases hv with
   |func h1 h2 h3 h4=>exact .func (e.trans h1) (e'.trans h2) (hd μ _ h3) (hd' μ _ h4)
 | .iface t x=>
   obtain⟨d,hl,hd⟩:=K0 x;refine⟨.iface t d,wV hl,fun μ v' hv=> ?_⟩;cases hv with
   |iface hv=>exact .iface (hd μ _ hv)
 | .bool b=>exact⟨_,JT rfl,fun _ _ h=>h⟩
 | .int k n=>exact⟨_,JT rfl,fun _ _ h=>h⟩
 | .string s=>exact⟨_,JT rfl,fun _ _ h=>h⟩
 | .nilFunc=>exact⟨_,JT rfl,fun _ _ h=>h⟩
 | .nilIface=>exact⟨_,JT rfl,fun _ _ h=>h⟩
 | .chan r=>exact KF fun μ v' h=>by cases h with
   |KF a b c=>exact⟨a,b,c⟩
   |noCap=>exact⟨(fun b e=>by cases e),rfl,rfl⟩
 | .pointer a=>exact KF fun μ v' h=>by cases h <;> exact⟨(fun b e=>by cases e),rfl,rfl⟩
 | .slice a n c=>exact KF fun μ v' h=>by cases h <;> exact⟨(fun b e=>by cases e),rfl,rfl⟩
 | .map r=>exact KF fun μ v' h=>by cases h <;> exact⟨(fun b e=>by cases e),rfl,rfl⟩
 | .func (.yield l) xs ys=>exact KF fun μ v' h=>by cases h <;> exact⟨(fun b e=>by cases e),rfl,rfl⟩
 | .func (.method s) xs ys=>exact KF fun μ v' h=>by cases h
 | .func (.methodOf t s) xs ys=>exact KF fun μ v' h=>by cases h
 | .func (.via t p f q) xs ys=>exact KF fun μ v' h=>by cases h with|top a b c=>exact⟨c.nobool a,c.one a⟩
 | .float k b=>exact KF fun μ v' h=>by cases h
 | .complex k a b=>exact KF fun μ v' h=>by cases h
termination_by SizeOf.sizeOf v
decreasing_by
 all_goals simp_wf
 all_goals first
  |(have:=Array.sizeOf_lt_of_mem ‹_∈_›;omega)
  |omega
end Go.CE
namespace Go.CE
open Go Go.RowKit
end Go.CE

namespace Go.CE
open Go Go.RowKit

structure GoE (P:Program) (B:Lo) (c0:CF) (H0:Qm) (n:Nat) (c':CF) (H':Qm) (n':Nat) (W:List Nat):Prop where
 under:Under H' n'
 le:n<=n'
 sem:∀(Z:Bot) (μ:Mu) (w:World) (fr:Frame) (cs:List Frame),Ok B (fun i=>i<n) μ (Qs H0) w->B.has w->(∀i,n<=i->μ i=none)->FrR Z μ c0 fr->
  ∃fr' w' μ',Post B (fun i=>i<n) n n' W μ μ' H0 H' w w'/\FrR Z μ' c' fr'/\fr'.roundOf=fr.roundOf/\fr'.fn=fr.fn/\Steps P (lone fr cs w) (lone fr' cs w')
section
variable {P:Program} {B:Lo} {c0 c1 c2:CF} {H0 H1 H2:Qm} {n n1 n2:Nat} {W W1 W2 R2:List Nat}
theorem GoE.refl(hu:Under H0 n):GoE P B c0 H0 n c0 H0 n []:=
 ⟨hu,Nh _,fun _ μ w fr _ QF _ _ XK=>⟨fr,w,μ,Post.refl QF,XK,rfl,rfl,Steps.refl _ _⟩⟩
theorem GoE.lists(h:GoE P B c0 H0 n c1 H1 n1 W)(hW:∀i,i<n->(i∈W1<->i∈W)):GoE P B c0 H0 n c1 H1 n1 W1:=
 ⟨h.under,h.le,fun Z μ w fr cs QF hB hf XK=>let⟨fr',w',μ',hp,a⟩:=h.sem Z μ w fr cs QF hB hf XK;⟨fr',w',μ',hp.lists hW,a⟩⟩
theorem GoE.step(h:GoE P B c0 H0 n c1 H1 n1 W1)(k:GoJ P B c1 H1 n1 c2 H2 n2 R2 W2):GoE P B c0 H0 n c2 H2 n2 (W1++W2):=by
 refine⟨h.under.shape k.shape,Nat.le_trans h.le k.shape.le,fun Z μ w fr cs QF hB hf XK=> ?_⟩;have le1:=h.le;obtain⟨UB,w1,μ1,hp,UU,hr,hfn,ZQ⟩:=h.sem Z μ w fr cs QF hB hf XK;obtain⟨fr2,w2,μ2,KY,hfr2,hr2,hfn2,hst2⟩:=k.sem _ μ1 w1 UB cs Z hp.ok (hB.post QF hp) (fun i hi=>hi.elim (fun e=>by omega) (fun e=>e.2)) (fun q a b=>by rw[hp.ext q (by omega)];exact hf q (by omega)) UU
  (fun q _ X2=>by
   rcases Nm q n with h1|h1
   ·exact .inl h1
   ·exact .inr ⟨h1,X2⟩)
 exact⟨fr2,w2,μ2,hp.trans KY,hfr2,hr2.trans hr,hfn2.trans hfn,ZQ.trans hst2⟩
theorem GoE.fj{out:OO}(h:GoE P B c0 H0 n c1 H1 n1 W1)(k:FJ P B c1 H1 n1 out H2 n2 R2 W2)(μ:Mu)(w:World)(fr:Frame)(cs:List Frame)(QF:Ok B (fun i=>i<n) μ (Qs H0) w)(hB:B.has w)(hf:∀i,n<=i->μ i=none)(XK:FrR Bot.no μ c0 fr):
 ∃Zl w' μ',Post B (fun i=>i<n) n n2 (W1++W2) μ μ' H0 H2 w w'/\OR2 μ' out Zl/\EndsAs P fr cs w Zl w':=by
 have le1:=h.le;obtain⟨UB,w1,μ1,hp,UU,hr,hfn,ZQ⟩:=h.sem Bot.no μ w fr cs QF hB hf XK;obtain⟨Zl,w2,μ2,KY,ho,he⟩:=k.sem _ μ1 w1 UB cs hp.ok (hB.post QF hp) (fun i hi=>hi.elim (fun e=>by omega) (fun e=>e.2)) (fun q a b=>by rw[hp.ext q (by omega)];exact hf q (by omega)) UU
  (fun q _ X2=>by
   rcases Nm q n with h1|h1
   ·exact .inl h1
   ·exact .inr ⟨h1,X2⟩)
 exact⟨Zl,w2,μ2,hp.trans KY,ho,he.of_steps ZQ hr hfn⟩
end

def look:List (Nat×Value)->Nat->Value->Value
 |[],_,d=>d
 |(a,v)::l,t,d=>bif MQ a t then v else look l t d
theorem zu(l:List (Nat×Value))(t:Nat)(d:Value):look l t d=d\/∃v,(t,v)∈l/\look l t d=v:=by
 induction l with
 |nil=>exact .inl rfl
 |cons p l ih=>
  obtain⟨a,v⟩:=p;cases hb:MQ a t with
  |true=>
   have:=YE hb;subst this;exact .inr ⟨v,by simp,by simp[look]⟩
  |false=>
   simp only[look,hb,cond_false];exact ih.imp id fun⟨v,h1,h2⟩=>⟨v,Nc _ h1,h2⟩
def Lb(live:List (Nat×Value))(d:Nat->Value):Nat->Nat->List Value
 |0,_=>[]
 |k+1,t=>look live t (d t)::Lb live d k (t+1)
theorem bN(live:List (Nat×Value))(d:Nat->Value):∀(k t:Nat),(Lb live d k t).length=k
 |0,_=>rfl
 |k+1,t=>by simp[Lb,bN live d k]
theorem Am(live:List (Nat×Value))(d:Nat->Value):∀(k t i:Nat),i<k->(Lb live d k t).getD i undef=look live (t+i) (d (t+i))
 |0,_,i,h=>by omega
 |k+1,t,0,_=>rfl
 |k+1,t,i+1,h=>by
  have:=Am live d k (t+1) i (by omega);rw[show t+(i+1)=t+1+i by omega,<-this];rfl
def Gk(len:Nat)(live:List (Nat×Value))(d:Nat->Value):Tm:=ofList len (Lb live d len 0)
theorem Hl{len:Nat}{live:List (Nat×Value)}{d:Nat->Value}(hl:len<=16000)(t:Nat):XL (Gk len live d) t=if t<len then look live t (d t)else undef:=by
 have h:=aV (Lb live d len 0) 0 .lf t (by rw[bN];omega);have e:XL (Gk len live d) t=(Ly (Lb live d len 0) 0 .lf).get t:=rfl;rw[e,h];simp only[Nat.zero_le,true_and,Nj,bN,Nat.sub_zero,Tri.get_lf];split
 ·rename_i ht;rw[Am live d len 0 t ht,Nj]
 ·rfl
def VV:Item->Bool
 | .endRangeFunc _=>false
 | .inRangeFunc _=>false
 |_=>true
theorem TodoR.plain{μ μ1:Mu}{l L:List Item}(h:TodoR μ l L)(hp:l.all VV=true):TodoR μ1 l L:=by
 induction h with
 |nil=>exact .nil
 |cons hi _ ih=>
  simp only[List.all_cons,YB]at hp;refine .cons ?_ (ih hp.2);cases hi with
  |code c=>exact .code c
  |inBlock id=>exact .inBlock id
  |inLoop c=>exact .inLoop c
  |inScope c=>exact .inScope c
  |beginRound=>exact .beginRound
  |endRF h=>cases hp.1
def QO(f:FuncId)(len:Nat)(live:List (Nat×Value))(d:Nat->Value)(todo:List Item):CF:=⟨f,Gk len live d,todo,[],.run,none⟩
end Go.CE

namespace Go.CE
open Go Go.RowKit

inductive Hint where
 |val (v:Value)
 |idx (k:Nat)
 |ld (v:Value)
 |raw (v:Value)
 |len (n:Nat)
 |eq (b:Bool)
 |app (cs:Array Value)
 |mk (m:Nat) (cs:Array Value)
 |st (cs:Array Value)
 |call (keys:List Nat) (out:Value) (UM:Qm) (n':Nat) (W:List Nat)
 |look (v:Value)
 |upd (es:Array MapEntry) (Pe:Nat)
 |nil
def Mw:Value->Value->Prop
 | .int k a,.int k' b=>bif decide (k=k')then a=b else False
 | .bool a,.bool b=>a=b
 |u,v=>u=v
theorem I0{u v:Value}(h:Mw u v):u=v:=by
 unfold Mw at h;split at h
 ·rename_i k a k' b;by_cases e:k=k'
  ·simp only[e,decide_true,cond_true]at h;rw[e,h]
  ·simp[e]at h
 ·rw[h]
 ·exact h
def Kt:Option Nat->Bool
 |none=>true
 |some 0=>true
 |_=>false
def Gi(v:Value)(m:Nat):Prop:=∀μ v',VR μ v v'->∃a c,v'=.slice a m c
theorem od{P:Program}{t:TypeId}{cs:Array Value}{off:Nat}{v:Value}(h:KH P t cs off=some v)(w:World):(part t cs off).run P w=.ok v w:=by
 unfold KH at h;cases ha:ov P t with
 |none=>rw[ha]at h;cases h
 |some b=>
  rw[ha]at h;cases b with
  |true=>
   cases hs:WH P t with
   |none=>rw[hs]at h;cases h
   |some s=>
    rw[hs]at h;dsimp only at h;cases hb:Nr (off+s) cs.size with
    |false=>rw[hb]at h;cases h
    |true=>
     rw[hb]at h;simp only[cond_true,YO]at h;subst h;simp only[part,Sem.run_bind,UX ha,Result.andThen_ok,if_true,Zx hs,Sem.run_pure]
  |false=>
   simp only at h;simp only[part,Sem.run_bind,UX ha,Result.andThen_ok,h];rfl
def VZ(v:Value):Bool:=af v
def C5(P:Program)(rec:TypeId->Value->Value->Option Bool):List Field->Array Value->Array Value->Option Bool
 |[],_,_=>some true
 |f::fs,xs,ys=>bif decide (f.name= "_")then C5 P rec fs xs ys else
  match KH P f.type xs f.offset,KH P f.type ys f.offset with
  |some a,some b=>match rec f.type a b,C5 P rec fs xs ys with
   |some r,some q=>some (r && q)
   |_,_=>none
  |_,_=>none
def L4(P:Program):Nat->TypeId->Value->Value->Option Bool
 |0,_,_,_=>none
 |d+1,t,x,y=>match J4 P t,x,y with
  |some (.int _),.int k a,.int k' b=>bif decide (k=k')then some (YI a b)else none
  |some .bool,.bool a,.bool b=>some (bif a then b else !b)
  |some (.struct fs),.agg xs,.agg ys=>bif P.stoodInHeld t then none else C5 P (L4 P d) fs.toList xs ys
  |_,_,_=>none
theorem nP{P:Program}{rec:TypeId->Value->Value->Option Bool}(d:Nat)(Vt:∀t x y r,rec t x y=some r->∀(D:Nat) (w:World),d<=D->(Op.equalIn D t x y).run P w=.ok r w):∀(fs:List Field) (xs ys:Array Value) (r:Bool),C5 P rec fs xs ys=some r->∀(D:Nat) (w:World),d<=D->(Op.eqFields D xs ys fs).run P w=.ok r w
 |[],xs,ys,r,h,D,w,hD=>by
  simp only[C5,YO]at h;subst h;simp[Op.eqFields]
 |f::fs,xs,ys,r,h,D,w,hD=>by
  unfold C5 at h;by_cases e:f.name= "_"
  ·simp only[e,decide_true,cond_true]at h;simp only[Op.eqFields,e,ne_eq,not_true_eq_false,if_false];exact nP d Vt fs xs ys r h D w hD
  ·simp only[e,decide_false,cond_false]at h;split at h
   ·rename_i a b ha hb;split at h
    ·rename_i r1 q h1 h2;simp only[YO]at h;subst h;have pa:(part f.type xs f.offset).run P w=.ok a w:=od ha w;have pb:(part f.type ys f.offset).run P w=.ok b w:=od hb w;simp only[Op.eqFields,e,ne_eq,not_false_eq_true,if_true,Sem.run_bind,pa,Result.andThen_ok,pb,Vt f.type a b r1 h1 D w hD];cases r1 with
     |true=>simpa using nP d Vt fs xs ys q h2 D w hD
     |false=>simp
    ·cases h
   ·cases h
theorem sO{P:Program}:∀(d:Nat) (t:TypeId) (x y:Value) (r:Bool),L4 P d t x y=some r->∀(D:Nat) (w:World),d<=D->(Op.equalIn D t x y).run P w=.ok r w
 |0,t,x,y,r,h,D,w,hD=>by simp[L4]at h
 |d+1,t,x,y,r,h,D,w,hD=>by
  obtain⟨D,rfl⟩:∃e,D=e+1:=⟨D-1,by omega⟩
  unfold L4 at h;simp only[ZB]at h;split at h
  ·rename_i k0 k a k' b hu;by_cases e:k=k'
   ·subst e;simp only[decide_true,cond_true,YO]at h;rw[run_equalIn_int w D t k k0 a b hu,<-h,fQ]
   ·simp[e]at h
  ·rename_i a b hu;simp only[YO]at h;rw[run_equalIn_bool' w D t a b hu,<-h];cases a <;> cases b <;> rfl
  ·rename_i fs xs ys hu;cases hs:P.stoodInHeld t with
   |true=>rw[hs]at h;cases h
   |false=>
    rw[hs]at h;simp only[cond_false]at h;have hf:P.fieldsOf t=fs:=by simp[Program.fieldsOf,hu]
    rw[run_equalIn_struct w D t xs ys (by rw[hf];exact hu) hs,hf];exact nP d (sO d) fs.toList xs ys r h D w (by omega)
  ·cases h
def A4(B:Lo)(b off:Nat)(v:Value):Prop:=∀w,B.has w->∃v',w.cell? ⟨b,off,none⟩=some v'/\∀μ,VR μ v v'
def o3(P:Program)(B:Lo)(g:FuncId)(args:Array Value)(H:Qm)(n:Nat)(out:OO)(H':Qm)(n':Nat)(R W:List Nat):Prop:=
 Shape H n H' n' R W/\∀(S:Nat->Prop) (μ:Mu) (w:World) (args':Array Value) (cs:List Frame),Ok B S μ (Qs H) w->B.has w->(∀i,S i->i<n)->Jg μ n n'->VRs μ args args'->(∀i∈R,i<n->S i)->
  ∃Zl w' μ',Post B S n n' W μ μ' H H' w w'/\OR2 μ' out Zl/\EndsAs P (Frame.enter P g args' .normal) cs w Zl w'
def CJ(P:Program)(B:Lo)(g:FuncId)(args:Array Value)(Hs:List (Nat×Option Obj))(n:Nat)(out:Value)(UM:Qm)(n':Nat)(W:List Nat):Prop:=
 ∀H,Under H n->(∀p∈Hs,Qs H p.1=p.2)->o3 P B g args H n (.ret out) (UM++H) n' (Hs.map (·.1)) W
def RJ(P:Program)(B:Lo)(c:CF)(Hs:List (Nat×Option Obj))(n:Nat)(out:Value)(UM:Qm)(n':Nat)(W:List Nat):Prop:=
 ∀H,Under H n->(∀p∈Hs,Qs H p.1=p.2)->FJ P B c H n (.ret out) (UM++H) n' (Hs.map (·.1)) W
open Classical in
noncomputable def S5(c:CF)(H1:Qm)(n:Nat)(s:Rs):CF->Qm->Nat->Option Rs:=fun c' H' m'=>if c'=c/\H'=H1/\m'=n then some s else none
theorem PY(c:CF)(H1:Qm)(n:Nat)(s:Rs):S5 c H1 n s c H1 n=some s:=by simp[S5]
theorem RJ.recS{P:Program}{B:Lo}{c:CF}{H1:Qm}{n:Nat}{out:Value}{UM:Qm}{n':Nat}{W keys:List Nat}(hu:Under H1 n)(h:RJ P B c (keys.map fun k=>(k,Qs H1 k)) n out UM n' W):fX P B (S5 c H1 n ⟨.ret out,UM++H1,n',keys,W⟩):=by
 intro c' H' m' s _ hs;unfold S5 at hs;split at hs
 ·rename_i q;obtain⟨rfl,rfl,rfl⟩:=q;simp only[YO]at hs;subst hs;have:=h H' hu (fun p hp=>by
   obtain⟨k,_,rfl⟩:=List.mem_map.1 hp;rfl)
  rw[List.map_map]at this;have e:keys.map ((fun p:Nat×Option Obj=>p.1) ∘ fun k=>(k,Qs H' k))=keys:=List.map_id' _;rw[e]at this;exact this
 ·cases hs
structure Told where
 s:Rs
 p:Option Prop
def Lr(P:Program)(t:TypeId)(H:Qm)(n:Nat)(s x:Value)(cs':Array Value):Option (CR×Prop):=
 match J4 P t with
 |some (.slice e)=>match inf P e with
  |some i=>match i.zero,i.size with
   |some zv,z+1=>match s with
    | .slice (some ⟨b,0,none⟩) k s'=>match Qs H b with
      |some (.cells cs te (0,0))=>match lW H (z+1) x with
       |some (ns,m,bx)=>bif MQ te e && MQ s' (z+1) && ones ns && MQ zv.cells.size (z+1) && MY 0 m then
        some (⟨.val (.slice (some ⟨n,0,none⟩) (k+m) (z+1)),(n,.cells cs' e (0,0))::Ta H (some b),n+1,[bx,b],[b]⟩,cs.size=k*(z+1)/\k+m<=maxLen/\(k+m)*i.bytes<=140737488355328/\cs++ns=cs')
         else none
       |none=>none
      |_=>none
    |_=>none
   |_,_=>none
  |none=>none
 |_=>none

def Pc(P:Program)(t:TypeId)(es:Array MapEntry)(ok:Bool)(k v:Value):Prop:=∀H r Pe,Qs H r=some (.map es Pe)->SW P t H ok (.map (some r)) k=some (v,[r])
def fY(P:Program)(t:TypeId)(es:Array MapEntry)(Pe:Nat)(k v:Value)(Ko:Array MapEntry)(clk':Nat):Prop:=∀H r,Qs H r=some (.map es Pe)->Kr P t H (.map (some r)) k v=some (VE H r (.map Ko clk'),r)
def LW(P:Program)(F:FuncId->Bool)(B:Lo)(T:Tm)(o:Oper)(H:Qm)(n:Nat):Option Hint->Option Told
 |none=>match o.op with
  | .fieldAddr s x f=>match Zi T x with
    |some (.pointer (some ⟨b,off,some 0⟩))=>match Wz P s f (.pointer (some ⟨b,off,none⟩))with
     |some (.pointer (some ⟨b',off',none⟩))=>some ⟨⟨.ret (.pointer (some ⟨b',off',some 0⟩)),H,n,[],[]⟩,none⟩
     |_=>none
    |_=>match bh P F X7 (fun _ _ _=>none) T o H n with|some s=>some ⟨s,none⟩|none=>none
  |_=>match bh P F X7 (fun _ _ _=>none) T o H n with|some s=>some ⟨s,none⟩|none=>none
 |some (.val v)=>match bh P F X7 (fun _ _ _=>none) T o H n with
  |some ⟨.ret u,H1,n1,R,W⟩=>some ⟨⟨.ret v,H1,n1,R,W⟩,some (Mw u v)⟩
  |_=>none
 |some (.idx k)=>match o.op with
  | .indexAddr t x i=>match Zi T x,Zi T i with
    |some (.slice (some ⟨b,off,sp⟩) len _),some (.int _ q)=>match J4 P t with
     |some (.slice e)=>match WH P e with
      |some z=>bif Kt sp then some ⟨⟨.ret (.pointer (some ⟨b,off+k*z,sp⟩)),H,n,[],[]⟩,some (q=(k:Int)/\k<len)⟩else none
      |none=>none
     |_=>none
    |some (.pointer (some ⟨b,off,sp⟩)),some (.int _ q)=>match J4 P t with
     |some (.array len e)=>match WH P e with
      |some z=>bif Kt sp then some ⟨⟨.ret (.pointer (some ⟨b,off+k*z,sp⟩)),H,n,[],[]⟩,some (q=(k:Int)/\k<len)⟩else none
      |none=>none
     |_=>none
    |_,_=>none
  |_=>none
 |some (.ld v)=>match o.op with
  | .load t a=>match Zi T a with
    |some (.pointer (some ⟨b,off,none⟩))=>match Qs H b with
     |some (.cells cs _ _)=>bif MY b n then match ov P t with
      |some true=>match WH P t,v with
       |some z,.agg xs=>some ⟨⟨.ret v,H,n,[b],[]⟩,some (off+z<=cs.size/\cs.extract off (off+z)=xs)⟩
       |_,_=>none
      |some false=>some ⟨⟨.ret v,H,n,[b],[]⟩,some (cs[off]? =some v)⟩
      |none=>none
      else none
     |_=>none
    |_=>none
  |_=>none
 |some (.raw v)=>match o.op with
  | .load t a=>match Zi T a with
    |some (.pointer (some ⟨b,off,some 0⟩))=>match ov P t with
     |some true=>match WH P t,v with
      |some z,.agg xs=>bif MQ xs.size z then some ⟨⟨.ret v,H,n,[],[]⟩,some (∀(j:Nat) u,xs[j]? =some u->A4 B b (off+j) u)⟩else none
      |_,_=>none
     |some false=>some ⟨⟨.ret v,H,n,[],[]⟩,some (A4 B b off v)⟩
     |none=>none
    |_=>none
  |_=>none
 |some (.eq b)=>match o.op with
  | .binOp op t x y _=>match Zi T x,Zi T y with
    |some (.agg xs),some (.agg ys)=>bif P.eqGuardType P.depth t then none else match op with
     | .eql=>match L4 P 100 t (.agg xs) (.agg ys)with
       |some r=>bif VZ (.agg xs) && VZ (.agg ys)then some ⟨⟨.ret (.bool b),H,n,[],[]⟩,some (r=b)⟩else none
       |none=>none
     | .neq=>match L4 P 100 t (.agg xs) (.agg ys)with
       |some r=>bif VZ (.agg xs) && VZ (.agg ys)then some ⟨⟨.ret (.bool b),H,n,[],[]⟩,some ((!r)=b)⟩else none
       |none=>none
     |_=>none
    |_,_=>none
  |_=>none
 |some (.len m)=>match o.op with
  | .call c=>match c.callee with
    | .builtin .len=>match c.args.toList,c.argTypes.toList with
      |[x],[t]=>match Zi T x,J4 P t with
       |some v,some (.slice _)=>some ⟨⟨.ret (.int .i64 m),H,n,[],[]⟩,some (Gi v m)⟩
       |_,_=>none
      |_,_=>none
    |_=>none
  |_=>none
 |some (.app cs')=>match o.op with
  | .call c=>match c.callee with
    | .builtin .append=>match c.args.toList,c.argTypes.toList with
      |[s,x],[t,t']=>bif MQ t t' then
       match Zi T s,Zi T x with
       |some sv,some xv=>match Lr P t H n sv xv cs' with
        |some (⟨.val v,H1,n1,R,W⟩,p)=>bif R.all (fun i=>MY i n)then some ⟨⟨.ret v,H1,n1,R,W⟩,some p⟩else none
        |_=>none
       |_,_=>none
        else none
      |_,_=>none
    |_=>none
  |_=>none
 |some (.mk m cs)=>match o.op with
  | .makeSlice t l c=>match Zi T l,Zi T c with
    |some x,some y=>match J4 P t with
     |some (.slice e)=>match WH P e with
      |some z=>some ⟨⟨.ret (.slice (some ⟨n,0,none⟩) m z),(n,.cells cs e (0,0))::H,n+1,[],[]⟩,some (Si P t x y=some (e,cs,m,z))⟩
      |none=>none
     |_=>none
    |_,_=>none
  |_=>none
 |some (.st cs')=>match o.op with
  | .store t a x=>match Zi T a,Zi T x with
    |some (.pointer (some ⟨b,off,none⟩)),some v=>match Qs H b with
     |some (.cells cs te (0,0))=>match WH P t with
      |some z=>bif MY b n && MQ v.cells.size z && ones v.cells then some ⟨⟨.ret undef,VE H b (.cells cs' te (0,0)),n,[b],[b]⟩,some (off+z<=cs.size/\splice cs off v.cells=cs')⟩else none
      |none=>none
     |_=>none
    |_,_=>none
  |_=>none
 |some (.call keys out UM n' W)=>match o.op with
  | .call _=>match Pj P F (Zi T) o H n with
    |some ⟨.enter g args,H1,n1,R,W1⟩=>bif MQ n1 n && W1.isEmpty then some ⟨⟨.ret out,UM++H1,n',R++keys,W⟩,some (CJ P B g args (keys.map fun k=>(k,Qs H1 k)) n out UM n' W)⟩else none
    |some ⟨.round l fn tm a b,H1,n1,R,W1⟩=>bif MQ n1 n && W1.isEmpty && Nr tm.size 16000 then some ⟨⟨.ret out,UM++H1,n',R++keys,W⟩,some (RJ P B ⟨fn,ofList tm.size tm.toList,[.code a,.beginRound,.code b],[],.run,some l⟩ (keys.map fun k=>(k,Qs H1 k)) n out UM n' W)⟩else none
    |_=>none
  |_=>none
 |some (.look v)=>match o.op with
  | .lookup t x k ok=>match Zi T x,Zi T k with
    |some (.map (some r)),some kv=>match Qs H r with
     |some (.map es _)=>bif MY r n then some ⟨⟨.ret v,H,n,[r],[]⟩,some (Pc P t es ok kv v)⟩else none
     |_=>none
    |_,_=>none
  |_=>none
 |some (.upd Ko clk')=>match o.op with
  | .mapUpdate t m k x=>match Zi T m,Zi T k,Zi T x with
    |some (.map (some r)),some kv,some v=>match Qs H r with
     |some (.map es Pe)=>bif MY r n then some ⟨⟨.ret undef,VE H r (.map Ko clk'),n,[r],[r]⟩,some (fY P t es Pe kv v Ko clk')⟩else none
     |_=>none
    |_,_,_=>none
  |_=>none
 |some .nil=>match o.op with
  | .call c=>match c.callee with
    | .builtin .append=>match c.args.toList,c.argTypes.toList with
      |[s,x],[t,t']=>bif MQ t t' then match Zi T s,Zi T x with
       |some (.slice none 0 0),some (.slice none 0 0)=>match J4 P t with
        |some (.slice e)=>match WH P e with
         |some _=>some ⟨⟨.ret (.slice none 0 0),H,n,[],[]⟩,none⟩
         |none=>none
        |_=>none
       |_,_=>none
        else none
      |_,_=>none
    |_=>none
  |_=>none
section
variable {P:Program} {F:FuncId->Bool} {B:Lo} {T:Tm} {o:Oper} {H:Qm} {n:Nat}
theorem Jh:fX P B (fun _ _ _=>none):=fun _ _ _ _ _ h=>by cases h
theorem UW{v:Value}{ev:Operand->Option Value}(hd:∀c,o.op≠.defer c)(h:∀(μ:Mu) (w:World) (ρ:Operand->Value),B.has w->(∀x∈o.op.operands,∀v,ev x=some v->VR μ v (ρ x))->∃v',(execOp ρ o).run P w=.ok (.value v') w/\VR μ v v'):
 Sm P B o ev H n (.ret v) H n [] []:=fun _ μ w fr _ _ _ _ _ QF hB _ _ Zb _ hm ht ho hw=>
 let⟨v',h1,h2⟩:=h μ w fr.eval hB Zb
 ⟨.ret v',w,μ,Post.refl QF,.ret h2,JM hm ht ho hw hd h1⟩
theorem ag{s:TypeId}{f b off:Nat}{b' off':Nat}(h:Wz P s f (.pointer (some ⟨b,off,none⟩))=some (.pointer (some ⟨b',off',none⟩)))(w:World):b'=b/\(Instr.fieldAt s (.pointer (some ⟨b,off,none⟩)) f).run P w=.ok (.pointer (some ⟨b',off',none⟩)) w:=by
 unfold Wz at h;simp only[ZB]at h;split at h
 ·rename_i fields hu;cases hfd:fields[f]? with
  |none=>rw[hfd]at h;cases h
  |some fd=>
   rw[hfd]at h;dsimp only at h;split at h
   ·rename_i z hz;simp only[YO,Value.pointer.injEq,Addr.mk.injEq,and_true]at h;obtain⟨rfl,rfl⟩:=h;refine⟨rfl, ?_⟩;simp only[Instr.fieldAt,Sem.run_bind,run_underlying hu,Result.andThen_ok,hfd,Instr.sureAddr,Sem.run_pure,fieldPlace,Zx hz,WL];simp
   ·cases h
 ·cases h
theorem qD{t e:TypeId}{b off len c z k:Nat}{q:Int}{kk:IntKind}(hu:J4 P t=some (.slice e))(hz:WH P e=some z)(hq:q=(k:Int))(hk:k<len)(w:World):
 (Instr.indexAt t (.slice (some ⟨b,off,none⟩) len c) (.int kk q)).run P w=.ok (.pointer (some ⟨b,off+k*z,none⟩)) w:=by
 rw[ZB]at hu;subst hq;have hc:0<=(k:Int)/\(k:Int)<len:=by omega
 simp only[Instr.indexAt,Sem.run_bind,asIntOf,Sem.run_pure,Result.andThen_ok,run_underlying hu,hc,and_self,if_true,Zx hz,WL,Int.toNat_natCast]
theorem ee{t e:TypeId}{b off len z k:Nat}{q:Int}{kk:IntKind}(hu:J4 P t=some (.array len e))(hz:WH P e=some z)(hq:q=(k:Int))(hk:k<len)(w:World):
 (Instr.indexAt t (.pointer (some ⟨b,off,none⟩)) (.int kk q)).run P w=.ok (.pointer (some ⟨b,off+k*z,none⟩)) w:=by
 rw[ZB]at hu;subst hq;have hc:0<=(k:Int)/\(k:Int)<len:=by omega
 simp only[Instr.indexAt,Sem.run_bind,asIntOf,Sem.run_pure,Result.andThen_ok,run_underlying hu,Instr.sureAddr,hc,and_self,if_true,Zx hz,WL,Int.toNat_natCast]
theorem HU{μ:Mu}{b off k z:Nat}{sp:Option Nat}{v':Value}(hsp:Kt sp=true)(h:VR μ (.pointer (some ⟨b,off,sp⟩)) v'):∃b' off',v'=.pointer (some ⟨b',off',none⟩)/\VR μ (.pointer (some ⟨b,off+k*z,sp⟩)) (.pointer (some ⟨b',off'+k*z,none⟩)):=by
 cases h with
 |ptr har=>
  obtain⟨im,h1,h2,rfl⟩:=har;simp only at h2;subst h2;exact⟨_,_,rfl,.ptr ⟨im,h1,rfl,by simp[Nat.add_assoc]⟩⟩
 |KN _ _ q=>
  cases q with
  |zero=>exact⟨_,_,rfl,.KN _ _ 0⟩
  |succ q=>cases hsp
theorem CZ{μ:Mu}{b off len s k z:Nat}{sp:Option Nat}{v':Value}(hsp:Kt sp=true)(h:VR μ (.slice (some ⟨b,off,sp⟩) len s) v'):∃b' off' c',v'=.slice (some ⟨b',off',none⟩) len c'/\VR μ (.pointer (some ⟨b,off+k*z,sp⟩)) (.pointer (some ⟨b',off'+k*z,none⟩)):=by
 cases h with
 |slice har=>
  obtain⟨im,h1,h2,rfl⟩:=har;simp only at h2;subst h2;exact⟨_,_,_,rfl,.ptr ⟨im,h1,rfl,by simp[Nat.add_assoc]⟩⟩
 |rawSlice _ _ q=>
  cases q with
  |zero=>exact⟨_,_,_,rfl,.KN _ _ 0⟩
  |succ q=>cases hsp
theorem nE{μ:Mu}{k:IntKind}{q:Int}{v':Value}(h:VR μ (.int k q) v'):v'=.int k q:=by cases h;rfl
theorem oV{t e ty:TypeId}{z:Nat}(hu:J4 P t=some (.slice e))(hz:WH P e=some z)(w:World):(Builtin.append_ #[t,t] ty #[.slice none 0 0,.slice none 0 0]).run P w=.ok (.slice none 0 0) w:=by
 rw[ZB]at hu;simp[Builtin.append_,Sem.run_bind,run_underlying hu,Result.andThen_ok,Zx hz,Builtin.lenOf,Builtin.firstCells,Sem.run_pure]
theorem qp(hF:∀g,F g=true->Q8 P g=true)(hu:Under H n){h:Option Hint}{a:Told}(e:LW P F B T o H n h=some a)(hp:∀p,a.p=some p->p):
 Sm P B o (Zi T) H n a.s.out a.s.H a.s.n a.s.R a.s.W/\Shape H n a.s.H a.s.n a.s.R a.s.W:=by
 have plain:∀{s:Rs},bh P F X7 (fun _ _ _=>none) T o H n=some s->Sm P B o (Zi T) H n s.out s.H s.n s.R s.W/\Shape H n s.H s.n s.R s.W:=fun h=>KW hF Jh (QL P B) hu h
 have plain':(match bh P F X7 (fun _ _ _=>none) T o H n with|some s=>some (⟨s,none⟩:Told)|none=>none)=some a->Sm P B o (Zi T) H n a.s.out a.s.H a.s.n a.s.R a.s.W/\Shape H n a.s.H a.s.n a.s.R a.s.W:=by
  intro h;split at h
  ·rename_i s hs;simp only[YO]at h;subst h;exact plain hs
  ·cases h
 unfold LW at e;split at e
 ·-- nothing is told
  split at e
  ·rename_i s x f Zw;split at e
   ·rename_i b off hx;split at e
    ·rename_i b' off' hc;simp only[YO]at e;subst e;refine⟨UW (fun c h=>by rw[Zw]at h;cases h) fun μ w ρ _ Zb=> ?_,Shape.same _ _ _⟩;have hv:=Zb x (by simp[Zw,Op.operands]) _ hx;obtain⟨rfl,hr⟩:=ag (P:=P) hc w;generalize hg:ρ x=u at hv;cases hv with
     |ptr har=>obtain⟨im,_,h2,_⟩:=har;cases h2
     |KN=>exact⟨_,by simp[execOp,Zw,hg,hr,jI],.KN _ _ 0⟩
    ·cases e
   ·exact plain' e
  ·exact plain' e
 ·-- a value
  rename_i v;split at e
  ·rename_i u H1 n1 R W hs;simp only[YO]at e;subst e;have:=I0 (hp _ rfl);subst this;exact plain hs
  ·cases e
 ·-- an element's address
  rename_i k;split at e
  ·rename_i t x i Zw;split at e
   ·rename_i b off sp len c kk q hx hi;split at e
    ·rename_i el hue;split at e
     ·rename_i z hz;have hsp:Kt sp=true:=by
       cases h:Kt sp with
       |true=>rfl
       |false=>rw[h]at e;cases e
      rw[hsp]at e;simp only[cond_true,YO]at e;subst e;obtain⟨hq,hk⟩:=hp _ rfl;refine⟨UW (fun c h=>by rw[Zw]at h;cases h) fun μ w ρ _ Zb=> ?_,Shape.same _ _ _⟩;obtain⟨b',off',c',h1,h2⟩:=CZ (k:=k) (z:=z) hsp (Zb x (by simp[Zw,Op.operands]) _ hx);have h3:=nE (Zb i (by simp[Zw,Op.operands]) _ hi);exact⟨_,by simp[execOp,Zw,h1,h3,qD hue hz hq hk],h2⟩
     ·cases e
    ·cases e
   ·rename_i b off sp kk q hx hi;split at e
    ·rename_i len el hue;split at e
     ·rename_i z hz;have hsp:Kt sp=true:=by
       cases h:Kt sp with
       |true=>rfl
       |false=>rw[h]at e;cases e
      rw[hsp]at e;simp only[cond_true,YO]at e;subst e;obtain⟨hq,hk⟩:=hp _ rfl;refine⟨UW (fun c h=>by rw[Zw]at h;cases h) fun μ w ρ _ Zb=> ?_,Shape.same _ _ _⟩;obtain⟨b',off',h1,h2⟩:=HU (k:=k) (z:=z) hsp (Zb x (by simp[Zw,Op.operands]) _ hx);have h3:=nE (Zb i (by simp[Zw,Op.operands]) _ hi);exact⟨_,by simp[execOp,Zw,h1,h3,ee hue hz hq hk],h2⟩
     ·cases e
    ·cases e
   ·cases e
  ·cases e
 ·-- a load of one's own
  rename_i v;split at e
  ·rename_i t x Zw;split at e
   ·rename_i b off hx;split at e
    ·rename_i cs te fz hg;have key:MY b n=true->KH P t cs off=some v->Sm P B o (Zi T) H n (.ret v) H n [b] []/\Shape H n H n [b] []:=by
      intro hb hc;refine plain (s:=⟨.ret v,H,n,[b],[]⟩) ?_;have hcop:sR P F (Zi T) o H n=some ⟨.val v,H,n,[b],[]⟩:=by simp[sR,Zw,hx,Sj,hg,hc]
      have hcr:Pj P F (Zi T) o H n=some ⟨.val v,H,n,[b],[]⟩:=by simp[Pj,hcop,hb]
      simp[bh,Zw,hcr]
     have e:=Yf (q:=MY b n) e;have hb:MY b n=true:=by
      have:=hu.lt hg;exact Nl this
     split at e
     ·rename_i hag;split at e
      ·rename_i z xs hz _;simp only[YO]at e;subst e;obtain⟨h1,h2⟩:=hp _ rfl;refine key hb ?_;simp only[KH,hag,hz,Nl h1,cond_true,h2]
      ·cases e
     ·rename_i hag;simp only[YO]at e;subst e;refine key hb ?_;simp only[KH,hag];exact hp _ rfl
     ·cases e
    ·cases e
   ·cases e
  ·cases e
 ·-- a load of memory Pf nobody writes
  rename_i v;split at e
  ·rename_i t x Zw;split at e
   ·rename_i b off hx;split at e
    ·rename_i hag;split at e
     ·rename_i z xs hz;cases ZN:MQ xs.size z with
      |false=>rw[ZN]at e;cases e
      |true=>
       rw[ZN]at e;simp only[cond_true,YO]at e;subst e;have ZN:=YE ZN;have hc:=hp _ rfl;refine⟨UW (fun c h=>by rw[Zw]at h;cases h) fun μ w ρ hB Zb=> ?_,Shape.same _ _ _⟩;have hv:=Zb x (by simp[Zw,Op.operands]) _ hx;have hf:∀j,j<z->∃v,xs[j]? =some v/\w.cell? ⟨b,off+j,none⟩=some ((w.cell? ⟨b,off+j,none⟩).getD undef)/\VR μ v ((w.cell? ⟨b,off+j,none⟩).getD undef):=by
        intro j hj;have X2:j<xs.size:=by omega
        obtain⟨v',a,b⟩:=hc j xs[j] (by simp[X2]) w hB;exact⟨xs[j],by simp[X2],by simp[a],by simpa[a]using b μ⟩
       have hr:=run_loadCells (P:=P) w ⟨b,off,none⟩ z (fun j=>(w.cell? ⟨b,off+j,none⟩).getD undef) (fun j hj=>by
        obtain⟨_,_,hc,_⟩:=hf j hj;rw[WL];exact hc)
       generalize hg:ρ x=u at hv;cases hv with
       |ptr har=>obtain⟨im,_,h2,_⟩:=har;cases h2
       |KN=>
        refine⟨.agg _,by simp[execOp,Zw,hg,Instr.loadAt,Instr.sureAddr,loadVar,UX hag,Zx hz,jI,hr];rfl,.agg (by simp[ZN]) fun i v v' hv Wq=> ?_⟩;have hi:i<z:=by
         have:=(Array.getElem?_eq_some_iff.1 hv).1;omega
        obtain⟨u,h1,_,h2⟩:=hf i hi;rw[hv]at h1;cases h1;simp[hi]at Wq;rw[<-Wq];exact h2
     ·cases e
    ·rename_i hag;simp only[YO]at e;subst e;have hc:=hp _ rfl;refine⟨UW (fun c h=>by rw[Zw]at h;cases h) fun μ w ρ hB Zb=> ?_,Shape.same _ _ _⟩;have hv:=Zb x (by simp[Zw,Op.operands]) _ hx;obtain⟨v',h1,h2⟩:=hc w hB;generalize hg:ρ x=u at hv;cases hv with
     |ptr har=>obtain⟨im,_,h2,_⟩:=har;cases h2
     |KN=>exact⟨v',by simp[execOp,Zw,hg,Instr.loadAt,Instr.sureAddr,loadVar,UX hag,run_load,jI,h1],h2 μ⟩
    ·cases e
   ·cases e
  ·cases e
 ·-- a comparison of structs
  rename_i b;split at e
  ·rename_i op t x y ty Zw;split at e
   ·rename_i xs ys hx hy;cases hgt:P.eqGuardType P.depth t with
    |true=>rw[hgt]at e;cases e
    |false=>
     rw[hgt]at e;simp only[cond_false]at e;have vals:VZ (.agg xs)=true->VZ (.agg ys)=true->∀(μ:Mu) (ρ:Operand->Value),(∀x∈o.op.operands,∀v,Zi T x=some v->VR μ v (ρ x))->ρ x=.agg xs/\ρ y=.agg ys:=fun h1 h2 μ ρ Zb=>
      ⟨Sl h1 (Zb x (by simp[Zw,Op.operands]) _ hx),Sl h2 (Zb y (by simp[Zw,Op.operands]) _ hy)⟩
     split at e
     ·split at e
      ·rename_i r hr;cases hl:(VZ (.agg xs) && VZ (.agg ys))with
       |false=>simp only[hl]at e;cases e
       |true=>
        simp only[hl,cond_true,YO]at e;subst e;have K4:r=b:=hp _ rfl;subst K4;simp only[YB]at hl;refine⟨UW (fun c h=>by rw[Zw]at h;cases h) fun μ w ρ _ Zb=> ?_,Shape.same _ _ _⟩;obtain⟨e1,e2⟩:=vals hl.1 hl.2 μ ρ Zb;refine⟨.bool r, ?_,.bool _⟩;simp[execOp,Zw,e1,e2,run_eqGuard_agg w _ t x y xs ys hgt,run_eql_struct,sO 100 t _ _ r hr 10000 w (by omega)]
      ·cases e
     ·split at e
      ·rename_i r hr;cases hl:(VZ (.agg xs) && VZ (.agg ys))with
       |false=>simp only[hl]at e;cases e
       |true=>
        simp only[hl,cond_true,YO]at e;subst e;have K4:(!r)=b:=hp _ rfl;subst K4;simp only[YB]at hl;refine⟨UW (fun c h=>by rw[Zw]at h;cases h) fun μ w ρ _ Zb=> ?_,Shape.same _ _ _⟩;obtain⟨e1,e2⟩:=vals hl.1 hl.2 μ ρ Zb;refine⟨.bool (!r), ?_,.bool _⟩;simp[execOp,Zw,e1,e2,run_eqGuard_agg w _ t x y xs ys hgt,binOp,Op.equal,Op.maxDepth,sO 100 t _ _ r hr 10000 w (by omega)]
      ·cases e
     ·cases e
   ·cases e
  ·cases e
 ·-- a slice's length
  rename_i m;split at e
  ·rename_i c Zw;split at e
   ·rename_i hc;split at e
    ·rename_i x t ha ht;split at e
     ·rename_i v el hx hu;rw[ZB]at hu;simp only[YO]at e;subst e;refine⟨UW (fun c h=>by rw[Zw]at h;cases h) fun μ w ρ hB Zb=> ?_,Shape.same _ _ _⟩;have ea:c.args=#[x]:=by rw[<-ha]
      have et:c.argTypes=#[t]:=by rw[<-ht]
      obtain⟨a,cp,hv⟩:=hp _ rfl μ _ (Zb x (by simp[Zw,Op.operands,Call.operands,hc,ea]) _ hx);refine⟨.int .i64 m, ?_,.int _ _⟩;simp[execOp,Zw,resolve,hc,invoke,builtin,ea,et,hv,Builtin.len_,run_underlying hu,goInt]
     ·cases e
    ·cases e
   ·cases e
  ·cases e
 ·-- append
  rename_i cs';split at e
  ·rename_i c Zw;split at e
   ·rename_i hcal;split at e
    ·rename_i s x t t' ha ht;cases htt:MQ t t' with
     |false=>rw[htt]at e;cases e
     |true=>
      rw[htt]at e;simp only[cond_true]at e;split at e
      ·rename_i sv xv hs hx;split at e
       ·rename_i v H1 n1 R W p hap;cases hR:R.all (fun i=>MY i n)with
        |false=>rw[hR]at e;cases e
        |true=>
         rw[hR]at e;simp only[cond_true,YO]at e;subst e;have hpp:p:=hp _ rfl;refine plain (s:=⟨.ret v,H1,n1,R,W⟩) ?_;have hca:Ue P t H n sv xv=some ⟨.val v,H1,n1,R,W⟩:=by
          unfold Lr at hap;unfold Ue;split at hap
          ·rename_i e1 hue;rw[hue];simp only;split at hap
           ·rename_i inf1 hinf;rw[hinf];simp only;split at hap
            ·rename_i zv z hzv ZN;rw[hzv,ZN];simp only;split at hap
             ·rename_i b k s';split at hap
              ·rename_i cs te hg;split at hap
               ·rename_i ns m bx hns;cases hq:(MQ te e1 && MQ s' (z+1) && ones ns && MQ zv.cells.size (z+1) && MY 0 m)with
                |false=>rw[hq]at hap;cases hap
                |true=>
                 rw[hq]at hap;simp only[cond_true,YO,YR,CR.mk.injEq,CN.val.injEq]at hap;obtain⟨⟨rfl,rfl,rfl,rfl,rfl⟩,rfl⟩:=hap;obtain⟨p1,p2,p3,p4⟩:=hpp;simp only[YB]at hq;obtain⟨⟨⟨⟨q1,q2⟩,q3⟩,q4⟩,q5⟩:=hq;have hh:PQ H e1 (z+1) (.slice (some ⟨b,0,none⟩) k s')=some (cs,k,some b):=by
                  simp[PQ,hg,YE q1,YE q2,p1]
                 rw[hh,hns];simp only[q3,q4,q5,Nl p2,Nl p3,Bool.and_self,cond_true,p4];rfl
               ·cases hap
              ·cases hap
             ·cases hap
            ·cases hap
           ·cases hap
          ·cases hap
         have hbr:bare sv=sv:=by
          unfold bare;split
          ·exfalso;unfold Lr at hap;repeat' (first|(cases hap;done)|split at hap)
          ·rfl
         have hcop:sR P F (Zi T) o H n=some ⟨.val v,H1,n1,R,W⟩:=by simp[sR,Zw,hcal,ha,ht,hs,hx,xG,htt,hbr,hca]
         have hcr:Pj P F (Zi T) o H n=some ⟨.val v,H1,n1,R,W⟩:=by
          simp only[Pj,hcop,hR,cond_true]
         simp[bh,Zw,hcr]
       ·cases e
      ·cases e
    ·cases e
   ·cases e
  ·cases e
 ·-- make
  rename_i m cs;split at e
  ·rename_i t l c Zw;split at e
   ·rename_i x y hx hy;split at e
    ·rename_i el SM;split at e
     ·rename_i z hz;simp only[YO]at e;subst e;have hc:=hp _ rfl;exact plain (s:=⟨.ret (.slice (some ⟨n,0,none⟩) m z),(n,.cells cs el (0,0))::H,n+1,[],[]⟩) (by simp[bh,Zw,Pj,sR,hx,hy,hc])
     ·cases e
    ·cases e
   ·cases e
  ·cases e
 ·-- a store
  rename_i cs';split at e
  ·rename_i t ad x Zw;split at e
   ·rename_i b off v hx hy;split at e
    ·rename_i cs te hg;split at e
     ·rename_i z hz;cases hq:(MY b n && MQ v.cells.size z && ones v.cells)with
      |false=>rw[hq]at e;cases e
      |true=>
       rw[hq]at e;simp only[cond_true,YO]at e;subst e;obtain⟨h1,h2⟩:=hp _ rfl;simp only[YB]at hq;have ZQ:PT P t H v (.pointer (some ⟨b,off,none⟩))=some (VE H b (.cells cs' te (0,0)),b):=by
        simp only[PT,hg,hz,hq.1.2,hq.2,Nl h1,Bool.and_self,cond_true,h2]
       exact plain (s:=⟨.ret undef,VE H b (.cells cs' te (0,0)),n,[b],[b]⟩) (by simp[bh,Zw,Pj,sR,hx,hy,ZQ,hq.1.1])
     ·cases e
    ·cases e
   ·cases e
  ·cases e
 ·-- a call
  rename_i keys out UM n' W;split at e
  ·rename_i c Zw;split at e
   ·rename_i g args H1 n1 R W1 hcr;cases hn:(MQ n1 n && W1.isEmpty)with
    |false=>rw[hn]at e;cases e
    |true=>
     rw[hn]at e;simp only[cond_true,YO]at e;subst e;simp only[YB,List.isEmpty_iff]at hn;obtain⟨RZ,rfl⟩:=hn;have RZ:=YE RZ;subst RZ;have SM:Under H1 n1:=hu.shape (fS hu (nW hcr).1);have hcj:=hp _ rfl H1 SM (fun p hp=>by
      obtain⟨k,_,rfl⟩:=List.mem_map.1 hp;rfl)
     have hk:(keys.map fun k=>(k,Qs H1 k)).map (·.1)=keys:=by
      rw[List.map_map];exact List.map_id' _
     rw[hk]at hcj;have Ws:WE P B (fun g' a' H' m'=>open Classical in if g'=g/\a'=args/\H'=H1/\m'=n1 then some ⟨.ret out,UM++H1,n',keys,W⟩else none):=by
      intro g' a' H' m' s _ h;simp only at h;split at h
      ·rename_i q;obtain⟨rfl,rfl,rfl,rfl⟩:=q;simp only[YO]at h;subst h;exact hcj
      ·cases h
     have:=KW hF Jh Ws hu (T:=T) (o:=o) (s:=⟨.ret out,UM++H1,n',R++keys,W⟩) (by
      simp[bh,Zw,hcr])
     exact this
   ·rename_i l fn tm cda cdb H1 n1 R W1 hcr;cases hn:(MQ n1 n && W1.isEmpty && Nr tm.size 16000)with
    |false=>rw[hn]at e;cases e
    |true=>
     rw[hn]at e;simp only[cond_true,YO]at e;subst e;simp only[YB,List.isEmpty_iff]at hn;obtain⟨⟨RZ,rfl⟩,ZN⟩:=hn;have RZ:=YE RZ;subst RZ;have SM:Under H1 n1:=hu.shape (fS hu (nW hcr).1);have hrj:=hp _ rfl;have Vt:=RJ.recS SM hrj;have:=KW hF Vt (QL P B) hu (T:=T) (o:=o) (s:=⟨.ret out,UM++H1,n',R++keys,W⟩) (by
      simp[bh,Zw,hcr,ZN,PY])
     exact this
   ·cases e
  ·cases e
 ·-- what is found in a map
  rename_i v;split at e
  ·rename_i t x k ok Zw;split at e
   ·rename_i r kv hx hk;split at e
    ·rename_i es Pe hg;cases hq:MY r n with
     |false=>rw[hq]at e;cases e
     |true=>
      rw[hq]at e;simp only[cond_true,YO]at e;subst e;have hl:=hp _ rfl H r Pe hg;exact plain (s:=⟨.ret v,H,n,[r],[]⟩) (by simp[bh,Zw,Pj,sR,hx,hk,hl,hq])
    ·cases e
   ·cases e
  ·cases e
 ·-- what a map becomes
  rename_i Ko clk';split at e
  ·rename_i t m k x Zw;split at e
   ·rename_i r kv v hm hk hx;split at e
    ·rename_i es Pe hg;cases hq:MY r n with
     |false=>rw[hq]at e;cases e
     |true=>
      rw[hq]at e;simp only[cond_true,YO]at e;subst e;have hl:=hp _ rfl H r hg;exact plain (s:=⟨.ret undef,VE H r (.map Ko clk'),n,[r],[r]⟩) (by simp[bh,Zw,Pj,sR,hm,hk,hx,hl,hq])
    ·cases e
   ·cases e
  ·cases e
 ·-- nothing behind nothing
  split at e
  ·rename_i c Zw;split at e
   ·rename_i hcal;split at e
    ·rename_i s x t t' ha ht;cases htt:MQ t t' with
     |false=>rw[htt]at e;cases e
     |true=>
      rw[htt]at e;simp only[cond_true]at e;have htt:=YE htt;subst htt;split at e
      ·rename_i hs hx;split at e
       ·rename_i el hue;split at e
        ·rename_i z hz;simp only[YO]at e;subst e;have ea:c.args=#[s,x]:=by rw[<-ha]
         have et:c.argTypes=#[t,t]:=by rw[<-ht]
         refine⟨UW (fun c h=>by rw[Zw]at h;cases h) fun μ w ρ _ Zb=> ?_,Shape.same _ _ _⟩;have h1:=Sl (v:=.slice none 0 0) rfl (Zb s (by simp[Zw,Op.operands,Call.operands,hcal,ea]) _ hs);have h2:=Sl (v:=.slice none 0 0) rfl (Zb x (by simp[Zw,Op.operands,Call.operands,hcal,ea]) _ hx);refine⟨.slice none 0 0, ?_,.JN 0 0⟩;have hr:=oV (ty:=o.type) hue hz w;simp[execOp,Zw,resolve,hcal,invoke,builtin,ea,et,hr,h1,h2]
        ·cases e
       ·cases e
      ·cases e
    ·cases e
   ·cases e
  ·cases e
end
end Go.CE

namespace Go.CE
open Go Go.RowKit

def Q3:List Prop->Prop
 |[]=>True
 |p::l=>p/\Q3 l
abbrev tt:=List (Nat×Hint)
def told(sc:tt)(q:Nat):Option Hint×tt:=match sc with
 |(k,h)::l=>bif MQ k q then(some h,l)else(none,sc)
 |[]=>(none,[])
structure RR where
 Qx:List Rec
 T:Tm
 H:Qm
 n:Nat
 sc:tt
 q:Nat
 L:List Prop
def more(p:Option Prop)(L:List Prop):List Prop:=match p with|some p=>p::L|none=>L
def Ia(P:Program)(F:FuncId->Bool)(B:Lo)(ops:Array Oper):List Oper->Tm->Qm->Nat->tt->Nat->List Prop->Option RR
 |[],T,H,n,sc,q,L=>some ⟨[],T,H,n,sc,q,L⟩
 |o::l,T,H,n,sc,q,L=>
  bif JY T o.dst then
   bif Region.wanted o (XT ops T)then
    match told sc q with
    |(h,sc')=>match LW P F B T o H n h with
     |some ⟨⟨.ret v,H1,n1,R,W⟩,p⟩=>match Ia P F B ops l (V1 T o.dst v) H1 n1 sc' (q+1) (more p L)with
      |some r=>some {r with Qx:=⟨o,true,v,T,H,H1,n,n1,R,W⟩::r.Qx}
      |none=>none
     |_=>none
   else match Ia P F B ops l (V1 T o.dst undef) H n sc (q+1) L with
    |some r=>some {r with Qx:=⟨o,false,undef,T,H,H,n,n,[],[]⟩::r.Qx}
    |none=>none
  else none
inductive SR where
 |at (c:CF) (H:Qm) (n:Nat)
 |fin (out:OO) (H:Qm) (n:Nat)
structure ST where
 r:SR
 W:List Nat
 L:List Prop
def Fx(P:Program)(F:FuncId->Bool)(B:Lo)(c:CF)(H:Qm)(n:Nat)(f:Operand)(params:Array Tmp)(assign body:Code)(k:List Item)(keys:List Nat)(out:Value)(UM:Qm)(n':Nat)(W:List Nat):Option (CF×Qm×Prop):=
 match Zi c.tmps f with
 |some fv=>match US c H n params assign body with
  |some (H1,l,ds,_)=>match P8 F H1 fv #[.func (.yield l) #[] #[]]with
   |some (.enter g args,_)=>match Wt P g args with
    |some c1=>some ({c with todo:=.endRangeFunc l::k,defers:=ds++c.defers},UM++H1,RJ P B c1 (keys.map fun k=>(k,Qs H1 k)) (l+1) out UM n' W)
    |none=>none
   |_=>none
  |none=>none
 |none=>none
section
variable {P:Program} {F:FuncId->Bool} {B:Lo}
theorem dS{p:Option Prop}{L:List Prop}(h:Q3 (more p L)):(∀x,p=some x->x)/\Q3 L:=by
 cases p with
 |none=>exact⟨(fun x h=>by cases h),h⟩
 |some p=>exact⟨(fun x e=>by cases e;exact h.1),h.2⟩
theorem sM{c:CF}{H:Qm}{n:Nat}(XY:P.follows .mixedOrders=true){id:Nat}{ops:Array Oper}{draw:Bool}{k:List Item}{Qx:List Rec}{T':Tm}{H':Qm}{n':Nat}(hm:c.mode=.run)
 (ht:c.todo=.code (.region id ops draw)::k) (hs:∀x∈Qx,bj c.tmps.len x) (hk:∀x∈Qx,PB P B ops x) (PR:K2 Qx c.tmps H n T' H' n') (hmap:Qx.map (·.o)=ops.toList) (hd:(!draw || (Vf 0 ops.toList && indep ops 0 Qx (Jf ops.toList [])))=true):
 GoJ P B c H n {c with tmps:=T',todo:=k} H' n' (KI Qx) (Ui Qx):=by
 have hown:=Us (l:=ops.toList) (l2:=[]) (by rw[List.append_nil];exact hmap) rfl;have hlen:Qx.length=ops.size:=by have:=congrArg MO hmap;simpa using this
 refine⟨ZW Qx _ _ _ _ _ _ PR hs,fun S μ w fr cs Z QF hB hS hf XK hR=> ?_⟩;obtain⟨a,b,d⟩:=XK.running hm;rw[ht]at d;obtain⟨L',e,hL⟩:=d.code;cases draw with
 |false=>
  obtain⟨μ',A',w',hp,hT,ZQ⟩:=ax (fr:=fr) (cs:=cs) (k:=L') a Qx 0 c.tmps H n T' H' n' [] PR hs hk (fun j r hj=>by rw[Nj];exact hown j r hj) rfl S μ w fr.tmps QF hB hS hf hR b;rw[List.append_nil,hlen]at ZQ;exact⟨{fr with tmps:=A',todo:=L'},w',μ',hp,⟨XK.fn,hT,fun _=>hL.mono (hp.mu hf),XK.defers.mono (hp.mu hf),XK.mode.mono (hp.mu hf),XK.kind,XK.round.mono (hp.mu hf)⟩,rfl,rfl,
   .head (Wg a e) (ZQ.trans (.one (Vi a)))⟩
 |true=>
  simp only[Bool.not_true,Bool.false_or,YB]at hd;have hedge:∀(q:Nat) o,ops[q]? =some o->∀e∈o.after,Region.binds .any e=true->e.on<q:=by
   intro q o ho e he hb;have:=Jc ops.toList 0 hd.1 q o (by rw[MX];exact ho) e he hb;omega
  have hbef:=ti ops.toList (fun q o ho=>hedge q o (by simpa using ho));have VE:Setup P B ops Qx (Jf ops.toList []) c.tmps H n T' H' n':=⟨PR,hs,hown,hlen,by simpa using hbef.1,SL Qx _ 0 hd.2,hedge⟩
  obtain⟨μ',A',w',hp,hT,ZQ⟩:=gj XY VE hk QF hS hR hf hB (fr:=fr) (cs:=cs) (id:=id) (k:=L') a b e;exact⟨{fr with tmps:=A',todo:=L'},w',μ',hp,⟨XK.fn,hT,fun _=>hL.mono (hp.mu hf),XK.defers.mono (hp.mu hf),XK.mode.mono (hp.mu hf),XK.kind,XK.round.mono (hp.mu hf)⟩,rfl,rfl,ZQ⟩
def Mv(P:Program)(B:Lo)(c:CF)(H:Qm)(n:Nat)(R W:List Nat):SR->Prop
 | .at c' H' n'=>GoJ P B c H n c' H' n' R W
 | .fin out H' n'=>FJ P B c H n out H' n' R W
theorem GoJ.srj{c c':CF}{H H':Qm}{n n':Nat}{R R' W W':List Nat}{r:SR}(h:GoJ P B c H n c' H' n' R W)(k:Mv P B c' H' n' R' W' r):Mv P B c H n (R++R') (W++W') r:=by
 cases r with
 | «at»=>exact h.trans k
 |fin=>exact h.fj k
theorem xj(hF:∀g,F g=true->Q8 P g=true)(XY:P.follows .mixedOrders=true){c c':CF}{H H':Qm}{n n':Nat}{f:Operand}{params:Array Tmp}{assign body:Code}{k:List Item}{keys W:List Nat}{out:Value}{UM:Qm}{p:Prop}(hu:Under H n)(hm:c.mode=.run)(ht:c.todo=.code (.rangeFunc f params assign body)::k)
 (h:Fx P F B c H n f params assign body k keys out UM n' W=some (c',H',p)) (hp:p):∃R,GoJ P B c H n c' H' n' R W:=by
 unfold Fx at h;split at h
 ·rename_i fv hfv;split at h
  ·rename_i H1 l ds R1 ho;split at h
   ·rename_i g args R2 hc;split at h
    ·rename_i c1 he;simp only[YO,YR]at h;obtain⟨rfl,rfl,rfl⟩:=h;have SM:Under H1 (l+1):=hu.shape (TK (P:=P) (B:=B) hu ho).1;have Vt:=RJ.recS SM hp;refine⟨R1++R2++keys, ?_⟩;have:P6 P F X7 (S5 c1 H1 (l+1) ⟨.ret out,UM++H1,n',keys,W⟩) c H n=some (.go {c with todo:=.endRangeFunc l::k,defers:=ds++c.defers} (UM++H1) n' (R1++R2++keys) W):=by
      unfold P6;simp only[hm,ht,hfv,ho,hc,he,PY]
     exact Vx hF XY (QL P B) Vt hu this
    ·cases h
   ·cases h
  ·cases h
 ·cases h
end
end Go.CE
