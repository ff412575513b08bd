/- CE: calls whose arguments are known, at the level of worlds. -/
import Derived.Test.YtncjjangllkokaaZRQ06
import Derived.Laws.StructEq
set_option linter.all false
open Nat renaming le_refl->NZ,beq->NH,ble->Oo,blt->NO,lt_or_ge->Oe,zero_add->Ob,ble_eq_true_of_le->Od
open Option renaming map_some->Oh
open Array renaming mem_of_getElem? ->Om,getElem?_toList->NM
open List renaming getElem?_eq_none->Oc,mem_cons_of_mem->NS,mem_append_left->NK,mem_append_right->NT,mem_append->OD,range'->Oa,length->NG,getElem?_append_right->NL,getElem?_map->NX
namespace Go.CE
open Go Go.RowKit

def Xw:Vj:=fun _ _ _ _=>none
theorem QL(P:Program)(B:Lo):WB P B Xw:=fun _ _ _ _ _ _ h=>by cases h
noncomputable def nc(P:Program)(F:FuncId->Bool)(Xt:Vj)(fuel:Nat)(f:FuncId)(args:Array Value)(H:Qp)(n:Nat):Option Rs:=
 Option.rec none (fun c=>CF.rec (fun fn T todo ds mode ro=>CM.rec (Tm.rec (fun len tr=>T8 P F Xt fuel n fn len tr todo ds ro H n [] []) T) none (fun _=>none) mode) c) (Wo P f args)
theorem bK{P:Program}{F:FuncId->Bool}{Xt:Vj}{fuel:Nat}{f:FuncId}{args:Array Value}{H:Qp}{n:Nat}{s:Rs}(h:nc P F Xt fuel f args H n=some s):∃c,Wo P f args=some c/\nC P F Xt fuel n c H n [] []=some s:=by
 unfold nc at h;cases hc:Wo P f args with
 |none=>rw[hc]at h;cases h
 |some c=>
  rw[hc]at h;obtain⟨fn,⟨len,tr⟩,todo,ds,mode,ro⟩:=c;cases mode with
  |run=>
   refine⟨_,rfl, ?_⟩;rw[<-mO,<-mP];exact h
  |ret=>cases h
  |ZH v=>cases h
theorem w5{P:Program}{F:FuncId->Bool}{Xt:Vj}{B:Lo}(Wl:WB P B Xt)(hF:∀g,F g=true->QA P g=true)(XS:P.follows .mixedOrders=true){fuel:Nat}{f:FuncId}{args:Array Value}{H:Qp}{n:Nat}{s:Rs}(h:nc P F Xt fuel f args H n=some s)(hu:Under H n):Under s.H s.n:=by
 obtain⟨c,_,hr⟩:=bK h;obtain⟨Rr,Wr,hfj,_,_,_,_⟩:=KO (B:=B) hF XS Wl fuel n c H n [] [] s hu (fun i hi=>by simp at hi) (fun i hi=>by simp at hi) hr;exact hu.shape hfj.shape
theorem rq{P:Program}{F:FuncId->Bool}{Xt:Vj}(hF:∀g,F g=true->QA P g=true)(XS:P.follows .mixedOrders=true){fuel:Nat}{f:FuncId}{args args':Array Value}{H:Qp}{n:Nat}{s:Rs}(h:nc P F Xt fuel f args H n=some s)(hu:Under H n){w:World}{μ:Mu}
 {I:World->Prop} {hI:∀w1 w2:World,(∀b,b<w.heap.size->w2.heap[b]? =w1.heap[b]?)->I w1->I w2} (Wl:WB P ⟨w.heap.size,I,hI⟩ Xt) (hi:I w) (QD:Ok w.heap.size (fun i=>i<n) μ (Qu H) w) (hv:VRs μ args args') (hf:∀i,n<=i->μ i=none):
 Calls P f args' w fun e w'=> ∃Zf μ',Post w.heap.size (fun i=>i<n) n s.n s.W μ μ' H s.H w w'/\OR2 μ' s.out Zf/\e=Zf.ending:=by
 obtain⟨c,hc,hr⟩:=bK h;obtain⟨Rr,Wr,hfj,a1,a2,a3,a4⟩:=KO (B:=⟨w.heap.size,I,hI⟩) hF XS Wl fuel n c H n [] [] s hu (fun i hi=>by simp at hi) (fun i hi=>by simp at hi) hr;have hfj:=hfj.lists (fun i hi=>by simpa using a1 i hi) (fun i hi=>by simpa using a2 i hi) a4;intro cs;obtain⟨Zf,w',μ',hp,ho,he⟩:=hfj.sem _ μ w _ cs QD ⟨NZ _,hi⟩ (fun _ hi=>hi) (fun i hi _=>hf i hi) (Ui hc hv) (fun i _ hi=>hi);obtain⟨frE,h1,h2,h3⟩:=he.1 rfl;refine⟨Zf.ending,w',frE,⟨Zf,μ',hp,ho,rfl⟩, ?_,h2,h3⟩;cases Zf with
 |ret v=>exact h1
 |ZH v=>exact h1
def MZ(w:World)(Zv off:Nat)(cs:Array Value):Prop:=Zv<w.heap.size/\∀(i:Nat) v,cs[i]? =some v->w.cell? ⟨Zv,off+i,none⟩=some v
def uw(l:List (Nat×Nat)):Mu:=fun i=>(l[i]?).map fun x=>⟨x.1,x.2,0,false,SB⟩
def P5(i:Nat):List (Array Value×TypeId)->Qp
 |[]=>[]
 |(cs,t)::l=>(i,.cells cs t (1,1))::P5 (i+1) l
theorem T7:∀(l:List (Array Value×TypeId)) (i k:Nat),Qu (P5 i l) k=if i<=k then(l[k-i]?).map fun x=>.cells x.1 x.2 (1,1)else none
 |[],i,k=>by simp[P5,Qu]
 |(cs,t)::l,i,k=>by
  simp only[P5];rw[QZ,T7 l (i+1) k];by_cases e:k=i
  ·subst e;simp
  ·rw[if_neg e];by_cases h:i<=k
   ·rw[if_pos h,if_pos (by omega),show k-i=(k-(i+1))+1 by omega];simp
   ·rw[if_neg h,if_neg (by omega)]
theorem HJ{w:World}{l:List (Array Value×TypeId)}{at':List (Nat×Nat)}(hl:at'.length=l.length)(h:∀(i:Nat) x a,l[i]? =some x->at'[i]? =some a->MZ w a.1 a.2 x.1/\x.1.all af=true):Ok w.heap.size (fun i=>i<l.length) (uw at') (Qu (P5 0 l)) w:=by
 have key:∀i o,i<l.length->Qu (P5 0 l) i=some o->∃x a,l[i]? =some x/\at'[i]? =some a/\o=.cells x.1 x.2 (1,1):=by
  intro i o hi ho;rw[T7,if_pos (Nat.zero_le _),Nat.sub_zero]at ho;have h1:l[i]? =some l[i]:=by simp[hi]
  have h2:at'[i]? =some (at'[i]'(by omega)):=by simp[hl ▸ hi]
  rw[h1]at ho;simp only[Oh,YO]at ho;exact⟨_,_,h1,h2,ho.symm⟩
 refine⟨fun i o hi ho _=> ?_,fun i o im hi ho _ QI=> ?_,fun i j oi oj a b hi hj _ Wc _ _ _ ha _ hra _=> ?_,fun i o hi ho hr=> ?_,fun i j oi oj a b x hi hj Wc Wb hr=> ?_⟩
 ·obtain⟨x,a,h1,h2,rfl⟩:=key i o hi ho;obtain⟨⟨_,hc⟩,haf⟩:=h i x a h1 h2;refine⟨⟨a.1,a.2,0,false,SB⟩,by simp[uw,h2],.inr ⟨by simp,fun k v hv=>⟨v,hc k v hv,Jk (Array.all_eq_true'.1 haf v (Om hv))⟩⟩⟩
 ·obtain⟨x,a,h1,h2,rfl⟩:=key i o hi ho;simp only[uw,h2,Oh,YO]at QI;subst QI;exact⟨(h i x a h1 h2).1.1,(fun h=>by cases h),fun _=>(h i x a h1 h2).1.1⟩
 ·obtain⟨x,q,h1,h2,_⟩:=key i oi hi Wc;simp only[uw,h2,Oh,YO]at ha;subst ha;cases hra
 ·obtain⟨x,a,_,_,rfl⟩:=key i o hi ho;exact hr.elim
 ·obtain⟨x,a,_,_,rfl⟩:=key i oi hi Wc;exact hr.elim
theorem bP(l:List (Array Value×TypeId)):Under (P5 0 l) l.length:=by
 intro i hi;rw[T7,if_pos (Nat.zero_le _),Nat.sub_zero,Oc (by omega)];rfl
theorem BM{at':List (Nat×Nat)}:∀i,at'.length<=i->uw at' i=none:=fun i hi=>by simp[uw,Oc hi]
end Go.CE

namespace Go.CE
open Go Go.RowKit

def FN(p:Value->Value->Bool):List Value->List Value->Bool
 |[],[]=>true
 |x::l,y::m=>p x y && FN p l m
 |_,_=>false
theorem Kh{p:Value->Value->Bool}(hp:∀x y,p x y=true->x=y):∀(l m:List Value),FN p l m=true->l=m
 |[],[],_=>rfl
 |x::l,y::m,h=>by
  simp only[FN,YB]at h;rw[hp x y h.1,Kh hp l m h.2]
 |[],_::_,h=>by cases h
 |_::_,[],h=>by cases h
def Iw:List UInt8->List UInt8->Bool
 |[],[]=>true
 |x::l,y::m=>NH x.toNat y.toNat && Iw l m
 |_,_=>false
theorem mV:∀(l m:List UInt8),Iw l m=true->l=m
 |[],[],_=>rfl
 |x::l,y::m,h=>by
  simp only[Iw,YB]at h;rw[UInt8.toNat_inj.1 (YE h.1),mV l m h.2]
 |[],_::_,h=>by cases h
 |_::_,[],h=>by cases h
def Me:Value->Value->Bool
 | .bool a,.bool b=>a==b
 | .int k a,.int l b=>decide (k=l) && YM a b
 | .slice (some ⟨a,o,none⟩) n s,.slice (some ⟨b,p,none⟩) m t=>NH a b && NH o p && NH n m && NH s t
 | .slice none n s,.slice none m t=>NH n m && NH s t
 | .string a,.string b=>Iw a.data.toList b.data.toList
 | .pointer (some ⟨a,o,none⟩),.pointer (some ⟨b,p,none⟩)=>NH a b && NH o p
 | .func (.func g) x y,.func (.func g') x' y'=>NH g g' && (NH x.toList.length 0 && (NH y.toList.length 0 && (NH x'.toList.length 0 && NH y'.toList.length 0)))
 |_,_=>false
theorem FL{a b:Int}(h:YM a b=true):a=b:=by
 rw[fg]at h;simpa using h
theorem mT(x y:Value)(h:Me x y=true):x=y:=by
 unfold Me at h;split at h
 ·simp only[beq_iff_eq]at h;rw[h]
 ·simp only[YB,decide_eq_true_eq]at h;rw[h.1,FL h.2]
 ·simp only[YB]at h;obtain⟨⟨⟨h1,h2⟩,h3⟩,h4⟩:=h;rw[YE h1,YE h2,YE h3,YE h4]
 ·simp only[YB]at h;rw[YE h.1,YE h.2]
 ·rename_i a b;obtain⟨a⟩:=a;obtain⟨b⟩:=b;simp only at h;rw[Array.ext' (mV _ _ h)]
 ·simp only[YB]at h;rw[YE h.1,YE h.2]
 ·rename_i x y _ x' y';simp only[YB,Nat.beq_eq]at h;obtain⟨h1,h2,h3,h4,h5⟩:=h;have e:∀z:Array Value,z.toList.length=0->z=#[]:=fun z hz=>by
   have:=List.eq_nil_of_length_eq_zero hz;exact Array.ext' this
  rw[h1,e x h2,e y h3,e x' h4,e y' h5]
 ·cases h
def Cc:Nat->Value->Value->Bool
 |f+1,.agg x,.agg y=>FN (Cc f) x.toList y.toList
 |f+1,.tuple x,.tuple y=>FN (Cc f) x.toList y.toList
 |_,x,y=>Me x y
theorem Uq:∀(f:Nat) (x y:Value),Cc f x y=true->x=y
 |0,x,y,h=>mT x y (by simpa[Cc]using h)
 |f+1,x,y,h=>by
  unfold Cc at h;split at h
  ·rename_i f' a b e;cases e;rw[Array.ext' (Kh (Uq f) _ _ h)]
  ·rename_i f' a b e;cases e;rw[Array.ext' (Kh (Uq f) _ _ h)]
  ·exact mT _ _ h
def wc(H:Qp)(x:Nat×Array Value×TypeId):Bool:=match Qu H x.1 with
 |some (.cells ds t (0,0))=>FN (Cc 1) ds.toList x.2.1.toList && NH t x.2.2
 |_=>false
def zG(x:Option Rs)(out:Value)(bs:List (Nat×Array Value×TypeId)):Bool:=match x with
 |some ⟨.ret v,H,_,_,[]⟩=>Cc 3 v out && bs.all (wc H)
 |_=>false
theorem y8{x:Option Rs}{out:Value}{bs:List (Nat×Array Value×TypeId)}(h:zG x out bs=true):∃s,x=some s/\s.out=.ret out/\s.W=[]/\∀y∈bs,Qu s.H y.1=some (.cells y.2.1 y.2.2 (0,0)):=by
 unfold zG at h;split at h
 ·rename_i v H n R;simp only[YB]at h;refine⟨_,rfl,by rw[Uq 3 _ _ h.1],rfl,fun y hy=> ?_⟩;have:=List.all_eq_true.1 h.2 y hy;unfold wc at this;split at this
  ·rename_i ds t hg;simp only[YB]at this;have e1:=Array.ext' (Kh (Uq 1) _ _ this.1);have e2:=YE this.2;simp only;rw[hg,e1,e2]
  ·cases this
 ·cases h
theorem Ch{P:Program}{F:FuncId->Bool}{Xt:Vj}(hF:∀g,F g=true->QA P g=true)(XS:P.follows .mixedOrders=true){fuel:Nat}{f:FuncId}{args args':Array Value}{l:List (Array Value×TypeId)}{at':List (Nat×Nat)}{out:Value}{bs:List (Nat×Array Value×TypeId)}
 (h:zG (nc P F Xt fuel f args (P5 0 l) l.length) out bs=true) {w:World} {I:World->Prop} {hI:∀w1 w2:World,(∀b,b<w.heap.size->w2.heap[b]? =w1.heap[b]?)->I w1->I w2} (Wl:WB P ⟨w.heap.size,I,hI⟩ Xt) (hi:I w) (hl:at'.length=l.length) (hlies:∀(i:Nat) x a,l[i]? =some x->at'[i]? =some a->MZ w a.1 a.2 x.1/\x.1.all af=true) (hv:VRs (uw at') args args'):
 Calls P f args' w fun e w'=> ∃v' n' H' μ',e=.returned v'/\Post w.heap.size (fun i=>i<l.length) l.length n' [] (uw at') μ' (P5 0 l) H' w w'/\VR μ' out v'/\(∀y∈bs,Qu H' y.1=some (.cells y.2.1 y.2.2 (0,0)))/\Under H' n'/\Below w.heap.size w w':=by
 obtain⟨s,hs,ho,hW,hb⟩:=y8 h;obtain hc:=rq hF XS hs (bP l) Wl hi (HJ hl hlies) hv (fun i hi=>BM i (by omega));intro cs;obtain⟨e,w',fr,⟨Zf,μ',hp,ZU,he⟩,h1,h2,h3⟩:=hc cs;refine⟨e,w',fr, ?_,h1,h2,h3⟩;rw[ho]at ZU;rw[hW]at hp;cases ZU with
 |ret Vt=>exact⟨_,s.n,s.H,μ',he,hp,Vt,hb,w5 Wl hF XS hs (bP l),⟨hp.os,hp.tape,hp.output,hp.grow,fun b hb=>hp.frame b hb fun i hi=>by simp at hi⟩⟩
end Go.CE

namespace Go.CE
open Go Go.RowKit

def FM:Obj->Obj->Bool
 | .cells a t (x,y),.cells b u (z,v)=>FN (Cc 1) a.toList b.toList && NH t u && NH x z && NH y v
 |_,_=>false
theorem wm{a b:Obj}(h:FM a b=true):a=b:=by
 unfold FM at h;split at h
 ·simp only[YB]at h;obtain⟨⟨⟨h1,h2⟩,h3⟩,h4⟩:=h;rw[Array.ext' (Kh (Uq 1) _ _ h1),YE h2,YE h3,YE h4]
 ·cases h
def hasAll(H:Qp):Qp->Bool
 |[]=>true
 |(i,o)::l=>(match Qu H i with|some x=>FM x o|none=>false) && hasAll H l
theorem YK{H:Qp}:∀{l:Qp},hasAll H l=true->∀i o,Qu l i=some o->Qu H i=some o
 |[],_,i,o,ho=>by cases ho
 |(k,x)::l,h,i,o,ho=>by
  simp only[hasAll,YB]at h;rw[QZ]at ho;by_cases e:i=k
  ·subst e;rw[if_pos rfl]at ho;simp only[YO]at ho;subst ho;have h1:=h.1;split at h1
   ·rename_i y hy;rw[hy,wm h1]
   ·cases h1
  ·rw[if_neg e]at ho;exact YK h.2 i o ho
structure Memo where
 g:FuncId
 args:Array Value
 H0:Qp
 n:Nat
 out:Value
 news:Qp
 n':Nat
def within(n n':Nat)(l:Qp):Bool:=l.all fun x=>Oo n x.1 && NO x.1 n'
def QP(m:Memo)(x:Option Rs):Bool:=match x with
 |some ⟨.ret v,H,n',R,[]⟩=>Cc 3 v m.out && NH n' m.n' && hasAll H m.news && within m.n m.n' m.news && within 0 m.n m.H0 && R.all (fun i=>Oo m.n i || (Qu m.H0 i).isSome)
 |_=>false
noncomputable def Memo.run(P:Program)(F:FuncId->Bool)(Xt:Vj)(fuel:Nat)(m:Memo):Option Rs:=nc P F Xt fuel m.g m.args m.H0 m.n
def XQ:List Memo->Vj
 |[],_,_,_,_=>none
 |m::l,g,args,H,n=>bif NH m.n n && NH m.g g && FN (Cc 1) args.toList m.args.toList && hasAll H m.H0 then some ⟨.ret m.out,m.news++H,m.n',m.H0.map (·.1),[]⟩else XQ l g args H n
theorem ZM:∀(l H:Qp) (i:Nat),Qu (l++H) i=match Qu l i with|some o=>some o|none=>Qu H i
 |[],H,i=>rfl
 |(k,o)::l,H,i=>by
  rw[List.cons_append,QZ,QZ];by_cases e:i=k
  ·rw[if_pos e,if_pos e]
  ·rw[if_neg e,if_neg e];exact ZM l H i
theorem bM{n n':Nat}:∀{l:Qp},within n n' l=true->∀i o,Qu l i=some o->n<=i/\i<n'
 |[],_,i,o,ho=>by cases ho
 |(k,x)::l,h,i,o,ho=>by
  simp only[within,List.all_cons,YB]at h;rw[QZ]at ho;by_cases e:i=k
  ·subst e;exact⟨YL h.1.1,YL h.1.2⟩
  ·rw[if_neg e]at ho;exact bM h.2 i o ho
theorem Vh{n n':Nat}{l:Qp}(h:within n n' l=true){i:Nat}(hi:i<n\/n'<=i):Qu l i=none:=by
 cases hg:Qu l i with
 |none=>rfl
 |some o=>have:=bM h i o hg;omega
theorem dR{l:Qp}{i:Nat}{o:Obj}(h:Qu l i=some o):i∈l.map (·.1):=by
 induction l with
 |nil=>cases h
 |cons p l ih=>
  obtain⟨k,x⟩:=p;rw[QZ]at h;by_cases e:i=k
  ·subst e;simp
  ·rw[if_neg e]at h;exact NS _ (ih h)
theorem gA{m:Memo}{x:Option Rs}(h:QP m x=true):∃H R,x=some ⟨.ret m.out,H,m.n',R,[]⟩/\(∀i o,Qu m.news i=some o->Qu H i=some o)/\within m.n m.n' m.news=true/\within 0 m.n m.H0=true/\∀i∈R,i<m.n->∃o,Qu m.H0 i=some o:=by
 unfold QP at h;split at h
 ·rename_i v H n' R;simp only[YB]at h;obtain⟨⟨⟨⟨⟨h1,h2⟩,h3⟩,h4⟩,h5⟩,h6⟩:=h;refine⟨H,R,by rw[Uq 3 _ _ h1,YE h2],YK h3,h4,h5,fun i hi hl=> ?_⟩;have:=List.all_eq_true.1 h6 i hi;simp only[Bool.or_eq_true]at this;rcases this with h|h
  ·have:=YL h;omega
  ·exact Option.isSome_iff_exists.1 h
 ·cases h
theorem QY{P:Program}{F:FuncId->Bool}{Xt:Vj}{B:Lo}(hF:∀g,F g=true->QA P g=true)(XS:P.follows .mixedOrders=true)(Wl:WB P B Xt){fuel:Nat}{m:Memo}{l:List Memo}(hm:QP m (m.run P F Xt fuel)=true)(hl:WB P B (XQ l)):WB P B (XQ (m::l)):=by
 intro g args H n s hu h;simp only[XQ]at h;cases hq:(NH m.n n && NH m.g g && FN (Cc 1) args.toList m.args.toList && hasAll H m.H0)with
 |false=>
  rw[hq]at h;exact hl g args H n s hu h
 |true=>
  rw[hq]at h;simp only[cond_true,YO]at h;simp only[YB]at hq;obtain⟨⟨⟨q1,q2⟩,q3⟩,q4⟩:=hq;obtain rfl:=YE q1;obtain rfl:=YE q2;obtain rfl:=Array.ext' (Kh (Uq 1) _ _ q3);have hH:=YK q4;subst h;obtain⟨Hs,R,VN,hnews,hw,hw0,hR0⟩:=gA hm;obtain⟨c,hc,hr⟩:=bK VN;have hu0:Under m.H0 m.n:=fun i hi=>Vh hw0 (.inr hi)
  obtain⟨Rr,Wr,hfj,a1,a2,a3,a4⟩:=KO (B:=B) hF XS Wl fuel m.n c m.H0 m.n [] [] _ hu0 (fun i hi=>by simp at hi) (fun i hi=>by simp at hi) hr;have hfj:=hfj.lists (fun i hi=>by simpa using a1 i hi) (fun i hi=>by simpa using a2 i hi) a4;have hle:m.n<=m.n':=hfj.shape.le;have JL:∀i,i<m.n\/m.n'<=i->Qu (m.news++H) i=Qu H i:=fun i hi=>by
   rw[ZM,Vh hw hi]
  have Ug:∀i o,m.n<=i->Qu (m.news++H) i=some o->Qu Hs i=some o:=by
   intro i o h1 h2;rw[ZM]at h2;cases hg:Qu m.news i with
   |some x=>
    rw[hg]at h2;rw[hnews i x hg];exact h2
   |none=>
    rw[hg,hu i h1]at h2;cases h2
  refine⟨⟨hle,fun i hi _=>JL i (.inl hi),fun i hi=>JL i (.inr hi),fun _ h=>by simp at h,fun _ h=>by simp at h⟩,fun S μ w args' cs QD hB hS hf hv hR=> ?_⟩;simp only at hf hR ⊢;have hok0:Ok B (fun i=>S i/\∃o,Qu m.H0 i=some o) μ (Qu m.H0) w:=by
   refine⟨fun i o hi ho hl=>QD.rel i o hi.1 (hH i o ho) hl,fun i o im hi ho hl=>QD.low i o im hi.1 (hH i o ho) hl,fun i j oi oj a b hi hj Pr Wc Wb=>QD.inj i j oi oj a b hi.1 hj.1 Pr (hH i oi Wc) (hH j oj Wb),
    fun i o hi ho=>QD.Y0 i o hi.1 (hH i o ho),fun i j oi oj a b x hi hj Wc Wb=>QD.sep i j oi oj a b x hi.1 hj.1 (hH i oi Wc) (hH j oj Wb)⟩
  obtain⟨Zf,w',μ',hp,ho,he⟩:=hfj.sem _ μ w _ cs hok0 hB (fun i hi=>hS i hi.1) hf (Ui hc hv) (fun i hi hl=>by
   obtain⟨o,ho⟩:=hR0 i hi hl;exact⟨hR i (dR ho) hl,o,ho⟩)
  simp only at hp ho;have hold:∀i im,S i->μ i=some im->μ' i=some im:=fun i im hi h=>by
   have:=hS i hi;rw[hp.ext i (by omega)];exact h
  have hext:Ext μ μ':=hp.mu hf;have XC:∀i im o,m.n<=i->i<m.n'->Qu (m.news++H) i=some o->live o->μ' i=some im->im.rw=true/\w.heap.size<=im.Zv:=by
   intro i im o h1 h2 h3 h4 h5;obtain⟨x,y⟩:=hp.fresh i im o h1 h2 (Ug i o h1 h3) h4 h5;exact⟨x,y.elim id fun⟨k,hk,_⟩=>by simp at hk⟩
  have hOld:∀i o,S i->Qu (m.news++H) i=some o->live o->∃im,μ i=some im/\μ' i=some im/\Qu H i=some o/\im.Zv<w.heap.size:=by
   intro i o hi ho hl;have:=hS i hi;rw[JL i (.inl this)]at ho;obtain⟨im,QI,_⟩:=QD.rel i o hi ho hl;exact⟨im,QI,hold i im hi QI,ho,(QD.low i o im hi ho hl QI).1⟩
  refine⟨Zf,w',μ',⟨⟨fun i o hi ho hl=> ?_,fun i o im hi ho hl QI=> ?_,fun i j oi oj a b hi hj Pr Wc Wb hli VW ha hb hra Km=> ?_,fun i o hi ho hr=> ?_,fun i j oi oj a b x hi hj Wc Wb Y8 VW ha hb Km hx=> ?_⟩,hle,hp.ext,fun i hi _=>JL i (.inl hi),hp.grow,fun b hb _=>hp.frame b hb fun i hi=>by simp at hi,fun i hi=>by simp at hi,
   fun i im o h1 h2 h3 h4 h5=>⟨(XC i im o h1 h2 h3 h4 h5).1,.inl (XC i im o h1 h2 h3 h4 h5).2⟩,fun i im o hi ho hr hm b x hx=> ?_,hp.os,hp.tape,hp.output⟩,ho,he⟩
  ·rcases hi with hi|hi
   ·obtain⟨im,QI,QR,UD,Xm⟩:=hOld i o hi ho hl;obtain⟨im2,WA,hr2⟩:=QD.rel i o hi UD hl;rw[QI]at WA;cases WA;exact⟨im,QR,hr2.keep hext (hp.frame _ Xm fun i hi=>by simp at hi)⟩
   ·exact hp.ok.rel i o (.inr hi) (Ug i o hi.1 ho) hl
  ·rcases hi with hi|hi
   ·obtain⟨im2,WA,QR,UD,Xm⟩:=hOld i o hi ho hl;rw[QI]at QR;cases QR;exact⟨Nat.lt_of_lt_of_le Xm hp.grow,(QD.low i o im hi UD hl WA).2⟩
   ·exact hp.ok.low i o im (.inr hi) (Ug i o hi.1 ho) hl QI
  ·rcases hi with hi|hi <;> rcases hj with hj|hj
   ·obtain⟨im,h1,h2,h3,_⟩:=hOld i oi hi Wc hli;obtain⟨jm,k1,k2,k3,_⟩:=hOld j oj hj Wb VW;rw[ha]at h2;cases h2;rw[hb]at k2;cases k2;exact QD.inj i j oi oj a b hi hj Pr h3 k3 hli VW h1 k1 hra Km
   ·obtain⟨im,h1,h2,h3,h4⟩:=hOld i oi hi Wc hli;rw[ha]at h2;cases h2;have:=(XC j b oj hj.1 hj.2 Wb VW hb).2;omega
   ·obtain⟨im,h1,h2,h3,h4⟩:=hOld j oj hj Wb VW;rw[hb]at h2;cases h2;have:=(XC i a oi hi.1 hi.2 Wc hli ha).2;omega
   ·exact hp.ok.inj i j oi oj a b (.inr hi) (.inr hj) Pr (Ug i oi hi.1 Wc) (Ug j oj hj.1 Wb) hli VW ha hb hra Km
  ·rcases hi with hi|hi
   ·have:=hS i hi;rw[JL i (.inl this)]at ho;obtain⟨im,QI,hf⟩:=QD.Y0 i o hi ho hr;exact⟨im,hold i im hi QI,fun b x hx=>by rw[hp.frame b (Y3 QD hi ho hr QI hx) fun i hi=>by simp at hi];exact hf b x hx⟩
   ·exact hp.ok.Y0 i o (.inr hi) (Ug i o hi.1 ho) hr
  ·have oldR:∀i oi a,S i->Qu (m.news++H) i=some oi->μ' i=some a->Ws oi->Qu H i=some oi/\μ i=some a:=by
    intro i oi a hi Wc ha hr;have:=hS i hi;rw[JL i (.inl this)]at Wc;rw[hp.ext i (by omega)]at ha;exact⟨Wc,ha⟩
   rcases hi with hi|hi <;> rcases hj with hj|hj
   ·obtain⟨h1,h2⟩:=oldR i oi a hi Wc ha Y8;obtain⟨jm,k1,k2,k3,_⟩:=hOld j oj hj Wb VW;rw[hb]at k2;cases k2;exact QD.sep i j oi oj a b x hi hj h1 k3 Y8 VW h2 k1 Km hx
   ·obtain⟨h1,h2⟩:=oldR i oi a hi Wc ha Y8;have:=(XC j b oj hj.1 hj.2 Wb VW hb).2;have:=Y3 QD hi h1 Y8 h2 hx;omega
   ·obtain⟨jm,k1,k2,k3,k4⟩:=hOld j oj hj Wb VW;rw[hb]at k2;cases k2;rcases hp.rf i a oi (.inl hi) (Ug i oi hi.1 Wc) Y8 ha b.Zv x hx with e|⟨k,VV,ko,hSk,_,hko,hkr,Sw,hkb⟩|⟨k,hk,_⟩
    ·omega
    ·exact QD.sep k j ko oj VV b x hSk.1 hj (hH k ko hko) k3 hkr VW Sw k1 Km hkb
    ·simp at hk
   ·exact hp.ok.sep i j oi oj a b x (.inr hi) (.inr hj) (Ug i oi hi.1 Wc) (Ug j oj hj.1 Wb) Y8 VW ha hb Km hx
  ·have Y1:m.n<=i/\i<m.n':=hi.elim id fun h=>by simp at h
   rcases hp.rf i im o (.inl Y1) (Ug i o Y1.1 ho) hr hm b x hx with e|⟨k,VV,ko,hSk,hkn,hko,c⟩|⟨k,hk,_⟩
   ·exact .inl e
   ·exact .inr (.inl ⟨k,VV,ko,hSk.1,hkn,hH k ko hko,c⟩)
   ·simp at hk
theorem Zg(P:Program)(B:Lo):WB P B (XQ []):=fun _ _ _ _ _ _ h=>by cases h
end Go.CE

namespace Go.CE
open Go Go.RowKit
noncomputable section

section
variable {P:Program} {fr:Frame} {cs:List Frame} {w:World} {A:Array Value} {ops:Array Oper} {i:Nat} {l:List Nat} {k:List Item} {o:Oper}
theorem step_defer{c:Call}{f:Operand}{d:Deferred}(hm:fr.mode=.run)(hr:fr.roundOf=none)(ho:ops[i]? =some o)(hw:Region.wanted o (yielded ops A)=true)(Zi:o.op=.defer c)(hc:c.callee=.value f)
 (hd:(Deferred.ofValue ((Xj fr A ops (i::l) k).eval f) (c.args.map (Xj fr A ops (i::l) k).eval)).run P w=.ok d w):
 step P (lone (Xj fr A ops (i::l) k) cs w)=.next (lone {(Xj fr A ops (i::l) k).finish undef with defers:=d::fr.defers} cs w):=by
 refine step_lone_go ?_;have he:(Xj fr A ops (i::l) k).oper? =some o:=by simp[Frame.oper?,Xj,ho]
 simp only[stepG,show(Xj fr A ops (i::l) k).mode=.run from hm];unfold stepG.exec;simp only[Xj,ho,Oh,hw,Option.getD_some,if_true];unfold stepG.oper;simp only[Frame.oper?,ho,hr];unfold stepG.apply;simp only[Xj,hr]at hd;simp[execOp,Zi,resolve,hc,hd,Sem.runT_eq,Frame.finish,ho]
theorem pz{cal:Frame}{c:Call}{v:Value}(hm:fr.mode=.run)(hk:fr.kind=.deferred)(hr:fr.roundOf=none)(ho:ops[i]? =some o)(hw:Region.wanted o (yielded ops A)=true)(Zi:o.op=.call c)(hc:c.callee=.builtin .recover)(ha:c.args=#[])
 (hcal:cal.mode=.panicking [{v,recovered:=false}]):
 step P (lone (Xj fr A ops (i::l) k) (cal::cs) w)=.next (lone ((Xj fr A ops (i::l) k).finish v) ({cal with mode:=.panicking [{v,recovered:=true}]}::cs) w):=by
 refine step_lone_go ?_;simp only[stepG,show(Xj fr A ops (i::l) k).mode=.run from hm];unfold stepG.exec;simp only[Xj,ho,Oh,hw,Option.getD_some,if_true];unfold stepG.oper;simp only[Frame.oper?,ho,hr];unfold stepG.apply;simp[execOp,Zi,resolve,hc,ha,invoke,builtin,Sem.runT_eq,tryRecover,hk,hcal,Frame.finish,ho]
theorem ej{cal:Frame}{c:Call}(hm:fr.mode=.run)(hr:fr.roundOf=none)(ho:ops[i]? =some o)(hw:Region.wanted o (yielded ops A)=true)(Zi:o.op=.call c)(hc:c.callee=.builtin .recover)(ha:c.args=#[])(hk:fr.kind=.deferred)
 (hcal:cal.mode=.returning):
 step P (lone (Xj fr A ops (i::l) k) (cal::cs) w)=.next (lone ((Xj fr A ops (i::l) k).finish .nilIface) (cal::cs) w):=by
 refine step_lone_go ?_;simp only[stepG,show(Xj fr A ops (i::l) k).mode=.run from hm];unfold stepG.exec;simp only[Xj,ho,Oh,hw,Option.getD_some,if_true];unfold stepG.oper;simp only[Frame.oper?,ho,hr];unfold stepG.apply;simp[execOp,Zi,resolve,hc,ha,invoke,builtin,Sem.runT_eq,tryRecover,hk,hcal,Frame.finish,ho]
theorem Jm{g:FuncId}{args:Array Value}{d:Deferred}{ds:List Deferred}{fn:Fn}{ys:Array Value}(hm:fr.mode≠.run)(hd:fr.defers=d::ds)(ht:d.target=.fn fn ys)(hi:(invoke d.target d.args).run P w=.ok (.enter g args) w):
 step P (lone fr cs w)=.next (lone (Frame.enter P g args .deferred) ({fr with defers:=ds}::cs) w):=by
 obtain⟨t,a⟩:=d;simp only at ht;subst ht;refine step_lone_go ?_;cases hmode:fr.mode with
 |run=>exact absurd hmode hm
 |returning=>simp[stepG,unwind,hd,callDeferred,hmode,Sem.runT_eq,hi]
 |panicking ch=>simp[stepG,unwind,hd,callDeferred,hmode,Sem.runT_eq,hi]
def Gx(cal:Frame):Frame:=match cal.mode with
 | .panicking [{recovered:=true,..}]=>{cal with mode:=.returning}
 |_=>cal
theorem bV{cal:Frame}{fn:Func}{v:Value}(hm:fr.mode=.returning)(hd:fr.defers=[])(hk:fr.kind=.deferred)(hf:P.funcs[fr.fn]? =some fn)(hr:(results fn fr.tmps).run P w=.ok v w)
 (hcal:cal.mode=.returning\/∃v,cal.mode=.panicking [{v,recovered:=true}]):
 step P (lone fr (cal::cs) w)=.next (lone {cal with mode:=.returning} cs w):=by
 refine step_lone_go ?_;rcases hcal with h|⟨v,h⟩
 ·have:cal={cal with mode:=.returning}:=by cases cal;simp_all
  rw[<-this];simp[stepG,unwind,doReturn,hm,hd,hk,hf,Sem.runT_eq,hr,h]
 ·simp[stepG,unwind,doReturn,hm,hd,hk,hf,Sem.runT_eq,hr,h]
end

def LY(o:Oper):Bool:=match o.op with
 | .defer _=>true
 | .call c=>match c.callee with
   | .builtin .recover=>true
   |_=>false
 |_=>false
def TG:List Oper->List Oper×List Oper
 |[]=>([],[])
 |o::l=>bif LY o then([],o::l)else(o::(TG l).1,(TG l).2)
theorem jt:∀l:List Oper,(TG l).1++(TG l).2=l
 |[]=>rfl
 |o::l=>by
  simp only[TG];cases LY o with
  |true=>rfl
  |false=>simp[jt l]
def CI(P:Program)(F:FuncId->Bool)(Xt:Vj)(fuel:Nat):CF->Qp->Nat->Option Rs:=fun c H n=>
 CF.rec (fun fn T todo ds mode ro=>CM.rec (Tm.rec (fun len tr=>T8 P F Xt fuel n fn len tr todo ds ro H n [] []) T) none (fun _=>none) mode) c
theorem bg{P:Program}{F:FuncId->Bool}{Xt:Vj}{B:Lo}(hF:∀g,F g=true->QA P g=true)(XS:P.follows .mixedOrders=true)(Wl:WB P B Xt)(fuel:Nat):fw P B (CI P F Xt fuel):=by
 intro c H n s hu h;have hr:nC P F Xt fuel n c H n [] []=some s:=by
  unfold CI at h;obtain⟨fn,⟨len,tr⟩,todo,ds,mode,ro⟩:=c;cases mode with
  |run=>
   rw[<-mO,<-mP];exact h
  |ret=>cases h
  |ZH v=>cases h
 obtain⟨Rr,Wr,hfj,a1,a2,a3,a4⟩:=KO hF XS Wl fuel n c H n [] [] s hu (fun i hi=>by simp at hi) (fun i hi=>by simp at hi) hr;exact hfj.lists (fun i hi=>by simpa using a1 i hi) (fun i hi=>by simpa using a2 i hi) a4
structure MS where
 c:CF
 H:Qp
 n:Nat
 R:List Nat
 W:List Nat
def Mh(c:CF):Bool:=match c.todo with
 | .code (.region _ ops false)::_=>ops.toList.any LY
 |_=>false
def lh(P:Program)(F:FuncId->Bool)(Xt:Vj)(fu:Nat)(b:Nat):Nat->MS->Option MS
 |0,_=>none
 |k+1,m=>
  bif (match m.c.mode with| .run=>Mh m.c|_=>m.c.defers.isEmpty)then some m else
  match Ps P F Xt (CI P F Xt fu) m.c m.H m.n with
  |some (.go c' H' n' R' W')=>lh P F Xt fu b k ⟨c',H',n',ZT b R' m.R,ZT b W' m.W⟩
  |_=>none
structure N1 where
 T:Tm
 H:Qp
 n:Nat
 o:Oper
 post:List Oper
 Qy:List Rec
def sm(P:Program)(F:FuncId->Bool)(Xt:Vj)(fu:Nat)(ops:Array Oper)(c:CF)(H:Qp)(n:Nat):Option N1:=
 match TG ops.toList with
 |(pre,o::post)=>match ey P F Xt (CI P F Xt fu) ops pre c.tmps H n with
  |some (Qy,.ok T H' n')=>bif JO T o.dst && Region.wanted o (XI ops T)then some ⟨T,H',n',o,post,Qy⟩else none
  |_=>none
 |_=>none
def EF:CM->Option Value
 | .run=>none
 | .ret=>some .nilIface
 | .ZH v=>some v
def ez(P:Program)(F:FuncId->Bool)(Xt:Vj)(fu:Nat)(b:Nat)(g:FuncId)(args:Array Value)(pv:Value)(H:Qp)(n:Nat)(R W:List Nat):Option MS:=
 match Wo P g args with
 |some cd=>match lh P F Xt fu b 10000 ⟨cd,H,n,R,W⟩with
  |some m1=>match m1.c.mode,m1.c.todo with
   | .run,.code (.region _ ops false)::todo=>match sm P F Xt fu ops m1.c m1.H m1.n with
     |some s=>match s.o.op with
      | .call c=>match c.callee with
        | .builtin .recover=>bif c.args.isEmpty then
         match ey P F Xt (CI P F Xt fu) ops s.post (Vy s.T s.o.dst pv) s.H s.n with
         |some (recs2,.ok T2 H2 n2)=>match lh P F Xt fu b 10000 ⟨{m1.c with tmps:=T2,todo:=todo},H2,n2,ZT b (K7 recs2) (ZT b (K7 s.Qy) m1.R),ZT b (VU recs2) (ZT b (VU s.Qy) m1.W)⟩with
          |some m2=>match m2.c.mode,m2.c.defers,j4 P m2.c.fn m2.H m2.c.tmps with
           | .ret,[],some (_,R3)=>some ⟨m2.c,m2.H,m2.n,ZT b R3 m2.R,m2.W⟩
           |_,_,_=>none
          |none=>none
         |_=>none
          else none
        |_=>none
      |_=>none
     |none=>none
   |_,_=>none
  |none=>none
 |none=>none
def FY(P:Program)(F:FuncId->Bool)(Xt:Vj)(fu:Nat)(f:FuncId)(args:Array Value)(H:Qp)(n:Nat):Option Rs:=
 match Wo P f args with
 |some c0=>match lh P F Xt fu n 10000 ⟨c0,H,n,[],[]⟩with
  |some m1=>match m1.c.mode,m1.c.todo,m1.c.defers with
   | .run,.code (.region _ ops false)::todo,[]=>match sm P F Xt fu ops m1.c m1.H m1.n with
     |some s=>match s.o.op,s.post with
      | .defer c,[]=>match c.callee with
        | .value x=>match Zd s.T x with
          |some (.func (.func g) xs ys)=>bif c.args.isEmpty && F g then
           match lh P F Xt fu n 100000 ⟨{m1.c with tmps:=Vy s.T s.o.dst undef,todo:=todo},s.H,s.n,ZT n (K7 s.Qy) m1.R,ZT n (VU s.Qy) m1.W⟩with
           |some m2=>match EF m2.c.mode,m2.c.defers with
            |some pv,[]=>match ez P F Xt fu n g (xs++ys) pv m2.H m2.n m2.R m2.W with
             |some m3=>match j4 P m2.c.fn m3.H m2.c.tmps with
              |some (v,R4)=>some ⟨.ret v,m3.H,m3.n,ZT n R4 m3.R,m3.W⟩
              |none=>none
             |none=>none
            |_,_=>none
           |none=>none
            else none
          |_=>none
        |_=>none
      |_,_=>none
     |none=>none
   |_,_,_=>none
  |none=>none
 |none=>none

section
variable {P:Program} {F:FuncId->Bool} {Xt:Vj} {B:Lo}
theorem GoJ.refl(c:CF)(H:Qp)(n:Nat):GoJ P B c H n c H n [] []:=⟨Shape.same _ _ _,fun _ μ w fr _ _ QD _ _ _ XC _=>⟨fr,w,μ,Post.refl QD,XC,rfl,rfl,Steps.refl _ _⟩⟩
theorem GoJ.trans{c c' c'':CF}{H H' H'':Qp}{n n' n'':Nat}{R R' W W':List Nat}(h:GoJ P B c H n c' H' n' R W)(k:GoJ P B c' H' n' c'' H'' n'' R' W'):GoJ P B c H n c'' H'' n'' (R++R') (W++W'):=by
 refine⟨h.shape.trans k.shape,fun S μ w fr cs Z QD hB hS hf XC hR=> ?_⟩;have l1:=h.shape.le;have l2:=k.shape.le;obtain⟨Up,w1,μ1,hp,U4,hr,hfn,XZ⟩:=h.sem S μ w fr cs Z QD hB hS (fun q a b=>hf q a (by omega)) XC (fun q hq Xm=>hR q (NK _ hq) Xm);obtain⟨fr2,w2,μ2,JU,hfr2,hr2,hfn2,hst2⟩:=k.sem _ μ1 w1 Up cs Z hp.ok (hB.post QD hp) (fun q hq=>hq.elim (fun e=>by have:=hS q e;omega) (fun e=>e.2))
  (fun q a b=>by rw[hp.ext q (by omega)];exact hf q (by omega) b) U4 (fun q hq Xm=>by
   rcases Oe q n with h1|h1
   ·exact .inl (hR q (NT _ hq) h1)
   ·exact .inr ⟨h1,Xm⟩)
 exact⟨fr2,w2,μ2,hp.trans JU,hfr2,hr2.trans hr,hfn2.trans hfn,XZ.trans hst2⟩
theorem JF(hF:∀g,F g=true->QA P g=true)(XS:P.follows .mixedOrders=true)(Wl:WB P B Xt){fu b:Nat}:∀(k:Nat) (m m':MS),Under m.H m.n->lh P F Xt fu b k m=some m'->
 ∃R W,GoJ P B m.c m.H m.n m'.c m'.H m'.n R W/\(∀i,i<b->(i∈m'.R<->i∈m.R\/i∈R))/\(∀i,i<b->(i∈m'.W<->i∈m.W\/i∈W))
 |0,m,m',hu,h=>by simp[lh]at h
 |k+1,m,m',hu,h=>by
  simp only[lh]at h;cases hq:(match m.c.mode with| .run=>Mh m.c|_=>m.c.defers.isEmpty)with
  |true=>
   rw[hq]at h;simp only[cond_true,YO]at h;subst h;exact⟨[],[],GoJ.refl _ _ _,fun i _=>by simp,fun i _=>by simp⟩
  |false=>
   rw[hq]at h;simp only[cond_false]at h;split at h
   ·rename_i c' H' n' R' W' hs;have JL:GoJ P B m.c m.H m.n c' H' n' R' W':=Vx hF XS Wl (bg hF XS Wl fu) hu hs;obtain⟨R,W,h1,h2,h3⟩:=JF hF XS Wl k ⟨c',H',n',ZT b R' m.R,ZT b W' m.W⟩ m' (hu.shape JL.shape) h;refine⟨_,_,JL.trans h1,fun i hi=> ?_,fun i hi=> ?_⟩
    ·rw[h2 i hi,Zo hi,OD,or_assoc]
    ·rw[h3 i hi,Zo hi,OD,or_assoc]
   ·cases h
structure Sofar (B:Lo) (S:Nat->Prop) (n N:Nat) (W:List Nat) (μ0 μ:Mu) (H0 H:Qp) (m:Nat) (w0 w:World):Prop where
 post:Post B S n m W μ0 μ H0 H w0 w
 has:B.has w
 free:YU μ m N
variable {S:Nat->Prop} {n N m m2:Nat} {W W2 R2:List Nat} {μ0 μ:Mu} {H0 H H2:Qp} {w0 w:World}
theorem Sofar.goj(s:Sofar B S n N W μ0 μ H0 H m w0 w)(hS:∀i,S i->i<n){c c':CF}(h:GoJ P B c H m c' H2 m2 R2 W2)(hN:m2<=N)(hR:∀i∈R2,i<n->S i){Z:Bot}{fr:Frame}(XC:FrR Z μ c fr)(cs:List Frame):
 ∃fr' w' μ',Sofar B S n N (W++W2) μ0 μ' H0 H2 m2 w0 w'/\FrR Z μ' c' fr'/\fr'.roundOf=fr.roundOf/\fr'.fn=fr.fn/\Steps P (lone fr cs w) (lone fr' cs w')/\Ext μ μ':=by
 have l1:=s.post.le;have l2:=h.shape.le;have hf:YU μ m m2:=fun q a b=>s.free q a (by omega)
 obtain⟨fr',w',μ',hp,h1,h2,h3,h4⟩:=h.sem _ μ w fr cs Z s.post.ok s.has (fun i hi=>hi.elim (fun e=>by have:=hS i e;omega) (fun e=>e.2)) hf XC
  (fun q hq Xm=>by
   rcases Oe q n with h1|h1
   ·exact .inl (hR q hq h1)
   ·exact .inr ⟨h1,Xm⟩)
 exact⟨fr',w',μ',⟨s.post.trans hp,s.has.post s.post.ok hp,fun q a b=>by rw[hp.ext q (by omega)];exact s.free q (by omega) b⟩,h1,h2,h3,h4,hp.mu hf⟩
theorem Sofar.seq(s:Sofar B S n N W μ0 μ H0 H m w0 w)(hS:∀i,S i->i<n){ops:Array Oper}{Qy:List Rec}{len:Nat}{T T2:Tm}(P7:Kk Qy T H m T2 H2 m2)(hs:∀r∈Qy,aJ len r)(hk:∀r∈Qy,Pz P B ops r)(i:Nat)
 (ho:∀(j:Nat) r,Qy[j]? =some r->ops[i+j]? =some r.o) (hl:T.len=len) (hN:m2<=N) (hR:∀i∈K7 Qy,i<n->S i) {fr:Frame} {A:Array Value} (hm:fr.mode=.run) (hT:TR μ T A) (rest:List Nat) (k:List Item) (cs:List Frame):
 ∃A' w' μ',Sofar B S n N (W++VU Qy) μ0 μ' H0 H2 m2 w0 w'/\TR μ' T2 A'/\Ext μ μ'/\Steps P (lone (Xj fr A ops (Oa i Qy.length++rest) k) cs w) (lone (Xj fr A' ops rest k) cs w'):=by
 have l1:=s.post.le;have l2:=(ZN Qy _ _ _ _ _ _ P7 hs).le;have hf:YU μ m m2:=fun q a b=>s.free q a (by omega)
 obtain⟨μ',A',w',hp,h1,h2⟩:=TH (fr:=fr) (cs:=cs) (k:=k) hm Qy i T H m T2 H2 m2 rest P7 hs hk ho hl _ μ w A s.post.ok s.has (fun i hi=>hi.elim (fun e=>by have:=hS i e;omega) (fun e=>e.2)) hf
  (fun q hq Xm=>by
   rcases Oe q n with h1|h1
   ·exact .inl (hR q hq h1)
   ·exact .inr ⟨h1,Xm⟩) hT
 exact⟨A',w',μ',⟨s.post.trans hp,s.has.post s.post.ok hp,fun q a b=>by rw[hp.ext q (by omega)];exact s.free q (by omega) b⟩,h1,hp.mu hf,h2⟩
theorem SQ(hF:∀g,F g=true->QA P g=true)(XS:P.follows .mixedOrders=true)(Wl:WB P B Xt){fu:Nat}{ops:Array Oper}{c:CF}{H:Qp}{n:Nat}{s:N1}(hu:Under H n)(h:sm P F Xt fu ops c H n=some s):
 ∃pre,ops.toList=pre++s.o::s.post/\(∀r∈s.Qy,aJ c.tmps.len r)/\(∀r∈s.Qy,Pz P B ops r)/\Kk s.Qy c.tmps H n s.T s.H s.n/\s.Qy.map (·.o)=pre/\Under s.H s.n/\JO s.T s.o.dst=true/\Region.wanted s.o (XI ops s.T)=true:=by
 unfold sm at h;have he:=jt ops.toList;split at h
 ·rename_i pre o post hsp;rw[hsp]at he;split at h
  ·rename_i Qy T H' n' hr;cases hd:(JO T o.dst && Region.wanted o (XI ops T))with
   |false=>rw[hd]at h;cases h
   |true=>
    rw[<-ZS h];simp only[YB]at hd;obtain⟨h1,h2,h3,h4,h5⟩:=UK hF (bg hF XS Wl fu) Wl (len:=c.tmps.len) pre c.tmps H n Qy _ rfl hu hr;exact⟨pre,he.symm,h1,h2,h3,h4,h5,hd.1,hd.2⟩
  ·cases h
 ·cases h
theorem fp:∀(l:List Rec) (T:Tm) (H:Qp) (n:Nat) (T':Tm) (H':Qp) (n':Nat),Kk l T H n T' H' n'->T'.len=T.len
 |[],T,H,n,T',H',n',h=>by
  obtain⟨rfl,_,_⟩:=h;rfl
 |r::l,T,H,n,T',H',n',h=>by
  obtain⟨_,_,_,h4⟩:=h;rw[fp l _ _ _ _ _ _ h4,VX]
theorem j3{B:Lo}{S:Nat->Prop}{μ:Mu}{H:Qp}{n:Nat}{w:World}{T:Tm}{A:Array Value}{f:FuncId}{v:Value}{R:List Nat}(hu:Under H n)(QD:Ok B S μ (Qu H) w)(ht:TR μ T A)(hv:j4 P f H T=some (v,R))(hR:∀i∈R,i<n->S i):
 ∃fn v',P.funcs[f]? =some fn/\(results fn A).run P w=.ok v' w/\VR μ v v':=by
 unfold j4 at hv;rw[Tu,NM]at hv;split at hv
 ·rename_i fn hfn;split at hv
  ·rename_i vs R1 hvs;simp only[YO,YR]at hv;obtain⟨rfl,rfl⟩:=hv;obtain⟨vs',h1,h2⟩:=Pd hu QD ht _ _ _ hvs hR;refine⟨fn,_,hfn, ?_,oP h2⟩;rw[ca,Array.mapM_eq_mapM_toList];simp only[Sem.run_bind,Sem.run_map,h1,Result.andThen_ok,Sem.run_pure]
  ·cases hv
 ·cases hv
theorem range_split{a b:Nat}{m:Nat}(h:m=a+(b+1)):Oa 0 m=Oa 0 a++a::Oa (a+1) b:=by
 subst h;have:=List.range'_append_1 (s:=0) (m:=a) (n:=b+1);rw[<-this,Ob,List.range'_succ]
def rC(μ:Mu)(pv:Value)(cal:Frame):Prop:=(pv=.nilIface/\cal.mode=.returning)\/∃v',VR μ pv v'/\cal.mode=.panicking [{v:=v',recovered:=false}]
theorem cc(hF:∀g,F g=true->QA P g=true)(XS:P.follows .mixedOrders=true)(Wl:WB P B Xt){fu b:Nat}{g:FuncId}{args:Array Value}{pv:Value}{R0 W0:List Nat}{m3:MS}(hu:Under H m)(h:ez P F Xt fu b g args pv H m R0 W0=some m3):
 ∃Rr Wr,Shape H m m3.H m3.n Rr Wr/\(∀i,i<b->(i∈m3.R<->i∈R0\/i∈Rr))/\(∀i,i<b->(i∈m3.W<->i∈W0\/i∈Wr))/\
  ∀(S:Nat->Prop) (n N:Nat) (W:List Nat) (μ0 μ:Mu) (H0:Qp) (w0 w:World),Sofar B S n N W μ0 μ H0 H m w0 w->(∀i,S i->i<n)->m3.n<=N->(∀i∈Rr,i<n->S i)->∀(args':Array Value) (cal:Frame) (cs:List Frame),VRs μ args args'->rC μ pv cal->
   ∃w' μ',Sofar B S n N (W++Wr) μ0 μ' H0 m3.H m3.n w0 w'/\Ext μ μ'/\Steps P (lone (Frame.enter P g args' .deferred) (cal::cs) w) (lone {cal with mode:=.returning} cs w'):=by
 unfold ez at h;split at h
 ·rename_i cd hcd;split at h
  ·rename_i m1 hm1;obtain⟨R1,W1,g1,a1,b1⟩:=JF hF XS Wl 10000 ⟨cd,H,m,R0,W0⟩ m1 hu hm1;have St:Under m1.H m1.n:=hu.shape g1.shape;split at h
   ·rename_i id ops todo hmode1 htodo1;split at h
    ·rename_i s hs;obtain⟨pre,e1,e2,e3,e4,e5,e6,e7,e8⟩:=SQ hF XS Wl St hs;split at h
     ·rename_i c Zi;split at h
      ·rename_i hcal;cases hca:c.args.isEmpty with
       |false=>rw[hca]at h;cases h
       |true=>
        rw[hca]at h;simp only[cond_true]at h;split at h
        ·rename_i recs2 T2 H2 n2 hr2;obtain⟨f1,f2,f3,f4,f5⟩:=UK hF (bg hF XS Wl fu) Wl (len:=m1.c.tmps.len) s.post (Vy s.T s.o.dst pv) s.H s.n recs2 _ (by rw[VX];exact fp _ _ _ _ _ _ _ e4) e6 hr2;split at h
         ·rename_i m2 hm2;obtain⟨R7,W7,g7,a7,b7⟩:=JF hF XS Wl 10000 _ m2 f5 hm2;simp only at g7 a7 b7;have hu2:Under m2.H m2.n:=f5.shape g7.shape;split at h
          ·rename_i hmode2 hds2 hres;rename_i vres R3;simp only[YO]at h;subst h;have sh4:=ZN s.Qy _ _ _ _ _ _ e4 e2;have sh5:=ZN recs2 _ _ _ _ _ _ f3 f1;have Yb:=((g1.shape.trans sh4).trans sh5).trans g7.shape;have hca':c.args=#[]:=by simpa[Array.isEmpty]using hca
           refine⟨(((R1++K7 s.Qy)++K7 recs2)++R7)++R3,((W1++VU s.Qy)++VU recs2)++W7,⟨Yb.le,Yb.keep,Yb.top,fun i hi=>NK _ (Yb.sub i hi),Yb.wlt⟩,fun i hi=> ?_,fun i hi=> ?_, ?_⟩
           ·simp only[OD];rw[Zo hi,a7 i hi,Zo hi,Zo hi,a1 i hi];simp only[or_assoc]
           ·simp only[OD];rw[b7 i hi,Zo hi,Zo hi,b1 i hi];simp only[or_assoc]
           ·intro S n N W μ0 μ H0 w0 w hs0 hS hN hR args' cal cs hv hun;simp only at hN;have l1:=g1.shape.le;have l2:=sh4.le;have l3:=sh5.le;have l4:=g7.shape.le;simp only[OD]at hR;have hfr0:FrR ⟨[],.deferred⟩ μ cd (Frame.enter P g args' .deferred):=mW .deferred hcd hv;obtain⟨Up,w1,μ1,s1,U4,hro1,_,st1,x1⟩:=hs0.goj hS g1 (by omega) (fun i hi=>hR i (.inl (.inl (.inl (.inl hi))))) hfr0 (cal::cs);have hro1:Up.roundOf=none:=hro1;obtain⟨ha,hb,hd⟩:=U4.running hmode1;rw[htodo1]at hd;obtain⟨L',hL,hL'⟩:=hd.code;have hlen:ops.size=pre.length+(s.post.length+1):=by
             have:=congrArg NG e1;simp at this;omega
            have hat:ops[pre.length]? =some s.o:=by
             rw[<-NM,e1,NL (NZ _)];simp
            have hplen:s.Qy.length=pre.length:=by have:=congrArg NG e5;simpa using this
            have hown1:∀(j:Nat) r,s.Qy[j]? =some r->ops[0+j]? =some r.o:=by
             intro j r hj;rw[Ob];exact Ud (l:=ops.toList) (l2:=s.o::s.post) (by rw[e5];exact e1.symm) rfl j r hj
            obtain⟨A1,w2,μ2,s2,hT2,x2,st2⟩:=s1.seq hS e4 e2 e3 0 hown1 rfl (by omega) (fun i hi=>hR i (.inl (.inl (.inl (.inr hi))))) ha hb (pre.length::Oa (pre.length+1) s.post.length) L' (cal::cs);have Y1:step P (lone Up (cal::cs) w1)=.next (lone (Xj Up Up.tmps ops (Oa 0 ops.size) L') (cal::cs) w1):=ZW ha hL;rw[range_split hlen]at Y1;rw[hplen]at st2;have Uu:Region.wanted s.o (yielded ops A1)=true:=by rw[UG hT2];exact e8
            have hk1:Up.kind=.deferred:=U4.kind
            -- the operation itself
            have Vu:∃v' cal1,VR μ2 pv v'/\(cal1.mode=.returning\/∃v,cal1.mode=.panicking [{v,recovered:=true}])/\{cal1 with mode:=.returning}={cal with mode:=FrameMode.returning}/\
             step P (lone (Xj Up A1 ops (pre.length::Oa (pre.length+1) s.post.length) L') (cal::cs) w2)=.next (lone ((Xj Up A1 ops (pre.length::Oa (pre.length+1) s.post.length) L').finish v') (cal1::cs) w2):=by
             rcases hun with ⟨rfl,hret⟩|⟨v',Vt,hpan⟩
             ·exact⟨.nilIface,cal,.nilIface,.inl hret,rfl,ej ha hro1 hat Uu Zi hcal hca' hk1 hret⟩
             ·exact⟨v',{cal with mode:=.panicking [{v:=v',recovered:=true}]},(Vt.mono x1).mono x2,.inr ⟨v',rfl⟩,rfl,pz ha hk1 hro1 hat Uu Zi hcal hca' hpan⟩
            obtain⟨v',cal1,Vt,hcal1,hcalr,st3⟩:=Vu;rw[Yx hat]at st3;have hdst:=KP e7;have hT3:TR μ2 (Vy s.T s.o.dst pv) (putA A1 v' s.o.dst):=hT2.putA hdst Vt;have hown2:∀(j:Nat) r,recs2[j]? =some r->ops[pre.length+1+j]? =some r.o:=by
             intro j r hj;have e:(recs2.map (·.o))[j]? =some r.o:=by rw[NX,hj];rfl
             rw[f4]at e;rw[<-NM,e1,NL (by omega),show pre.length+1+j-pre.length=j+1 by omega];simpa using e
            have hplen2:recs2.length=s.post.length:=by have:=congrArg NG f4;simpa using this
            obtain⟨A2,w3,μ3,s3,hT4,x3,st4⟩:=s2.seq hS f3 f1 f2 (pre.length+1) hown2 (by rw[VX];exact fp _ _ _ _ _ _ _ e4) (by omega) (fun i hi=>hR i (.inl (.inl (.inr hi)))) ha hT3 [] L' (cal1::cs);rw[List.append_nil,hplen2]at st4;have st5:Steps P (lone (Xj Up A2 ops [] L') (cal1::cs) w3) (lone {Up with tmps:=A2,todo:=L'} (cal1::cs) w3):=.one (Vk ha);have hfr2:FrR ⟨[],.deferred⟩ μ3 {m1.c with tmps:=T2,todo:=todo} {Up with tmps:=A2,todo:=L'}:=
             ⟨U4.fn,hT4,fun _=>(hL'.mono x2).mono x3,(U4.defers.mono x2).mono x3,(U4.mode.mono x2).mono x3,U4.kind,(U4.round.mono x2).mono x3⟩
            obtain⟨fr3,w4,μ4,s4,hfr3,hro3,_,st6,x4⟩:=s3.goj hS g7 (by omega) (fun i hi=>hR i (.inl (.inr hi))) hfr2 (cal1::cs);have hmode3:fr3.mode=.returning:=by
             have:=hfr3.mode;rw[hmode2]at this;generalize fr3.mode=q at this;cases this;rfl
            have hd3:fr3.defers=[]:=by
             have:=hfr3.defers;rw[hds2]at this;exact this.empty
            obtain⟨fn,vr,hfn,hresr,_⟩:=j3 hu2 s4.post.ok hfr3.tmps hres (fun i hi Xm=>by
             rcases Oe i n with h1|h1
             ·exact .inl (hR i (.inr hi) h1)
             ·exact .inr ⟨h1,Xm⟩)
            have st7:=bV (cs:=cs) hmode3 hd3 hfr3.kind (by rw[hfr3.fn];exact hfn) hresr hcal1;rw[hcalr]at st7;refine⟨w4,μ4,by simpa[List.append_assoc]using s4,((x1.trans x2).trans x3).trans x4, ?_⟩;exact st1.trans (.head Y1 (st2.trans (.head st3 (st4.trans (st5.trans (st6.trans (.one st7)))))))
          ·cases h
         ·cases h
        ·cases h
      ·cases h
     ·cases h
    ·cases h
   ·cases h
  ·cases h
 ·cases h
theorem dG{fu b:Nat}:∀(k:Nat) (m m':MS),lh P F Xt fu b k m=some m'->(∀i∈m.W,i<b)->∀i∈m'.W,i<b
 |0,m,m',h,hw=>by simp[lh]at h
 |k+1,m,m',h,hw=>by
  simp only[lh]at h;cases hq:(match m.c.mode with| .run=>Mh m.c|_=>m.c.defers.isEmpty)with
  |true=>
   rw[hq]at h;simp only[cond_true,YO]at h;subst h;exact hw
  |false=>
   rw[hq]at h;simp only[cond_false]at h;split at h
   ·exact dG k _ m' h (Py hw)
   ·cases h
theorem Ai{fu b:Nat}{g:FuncId}{args:Array Value}{pv:Value}{H:Qp}{m:Nat}{R0 W0:List Nat}{m3:MS}(h:ez P F Xt fu b g args pv H m R0 W0=some m3)(hw:∀i∈W0,i<b):∀i∈m3.W,i<b:=by
 unfold ez at h;split at h
 ·split at h
  ·rename_i m1 hm1;have w1:=dG 10000 _ m1 hm1 hw;split at h
   ·split at h
    ·split at h
     ·split at h
      ·have h:=KU h;split at h
       ·split at h
        ·rename_i m2 hm2;have w2:=dG 10000 _ m2 hm2 (Py (Py w1));split at h
         ·simp only[YO]at h;subst h;exact w2
         ·cases h
        ·cases h
       ·cases h
      ·cases h
     ·cases h
    ·cases h
   ·cases h
  ·cases h
 ·cases h
theorem wu(hF:∀g,F g=true->QA P g=true)(XS:P.follows .mixedOrders=true)(Wl:WB P B Xt){fu:Nat}{f:FuncId}{args:Array Value}{H:Qp}{n:Nat}{s0:Rs}(hu:Under H n)(h:FY P F Xt fu f args H n=some s0):
 Shape H n s0.H s0.n s0.R s0.W/\∀(S:Nat->Prop) (μ:Mu) (w:World) (args':Array Value) (cs:List Frame),Ok B S μ (Qu H) w->B.has w->(∀i,S i->i<n)->YU μ n s0.n->VRs μ args args'->(∀i∈s0.R,i<n->S i)->
  ∃Zf w' μ',Post B S n s0.n s0.W μ μ' H s0.H w w'/\OR2 μ' s0.out Zf/\EndsAs P (Frame.enter P f args' .normal) cs w Zf w':=by
 unfold FY at h;split at h
 ·rename_i c0 hc0;split at h
  ·rename_i m1 hm1;obtain⟨R1,W1,g1,a1,b1⟩:=JF hF XS Wl 10000 ⟨c0,H,n,[],[]⟩ m1 hu hm1;have St:Under m1.H m1.n:=hu.shape g1.shape;split at h
   ·rename_i id ops todo hmode1 htodo1 hds1;split at h
    ·rename_i s hs;obtain⟨pre,e1,e2,e3,e4,e5,e6,e7,e8⟩:=SQ hF XS Wl St hs;split at h
     ·rename_i c Zi XF;split at h
      ·rename_i x hcal;split at h
       ·rename_i g xs ys hx;cases hca:(c.args.isEmpty && F g)with
        |false=>rw[hca]at h;cases h
        |true=>
         rw[hca]at h;simp only[cond_true]at h;simp only[YB]at hca;split at h
         ·rename_i m2 hm2;obtain⟨R3,W3,g3,a3,b3⟩:=JF hF XS Wl 100000 _ m2 e6 hm2;simp only at g3 a3 b3;have hu2:Under m2.H m2.n:=e6.shape g3.shape;split at h
          ·rename_i pv hpv hds2;split at h
           ·rename_i m3 hm3;obtain⟨Rr,Wr,sh3,ar,br,hsem⟩:=cc (B:=B) hF XS Wl hu2 hm3;have hu3:Under m3.H m3.n:=hu2.shape sh3;split at h
            ·rename_i v R4 hres;simp only[YO]at h;subst h;have sh2:=ZN s.Qy _ _ _ _ _ _ e4 e2;have Yb:=((g1.shape.trans sh2).trans g3.shape).trans sh3;have hRiff:∀i,i<n->(i∈ZT n R4 m3.R<->i∈((R1++K7 s.Qy)++R3)++Rr\/i∈R4):=fun i hi=>by
              rw[Zo hi,ar i hi,a3 i hi,Zo hi,a1 i hi];simp only[OD,List.not_mem_nil,false_or]
             have hWiff:∀i,i<n->(i∈m3.W<->i∈((W1++VU s.Qy)++W3)++Wr):=fun i hi=>by
              rw[br i hi,b3 i hi,Zo hi,b1 i hi];simp only[OD,List.not_mem_nil,false_or]
             have hWlt:∀i∈m3.W,i<n:=Ai hm3 (dG 100000 _ m2 hm2 (Py (dG 10000 _ m1 hm1 (fun i hi=>by simp at hi))));refine⟨⟨Yb.le,fun i hi hw=>Yb.keep i hi fun e=>hw ((hWiff i hi).2 e),Yb.top,fun i hi=>(hRiff i (hWlt i hi)).2 (.inl (Yb.sub i ((hWiff i (hWlt i hi)).1 hi))),fun i hi=>by have:=hWlt i hi;have:=Yb.le;simp only at *;omega⟩,fun S μ w args' cs QD hB hS hf hv hR=> ?_⟩;simp only at hf hR ⊢;have hR':∀i,i<n->i∈((R1++K7 s.Qy)++R3)++Rr\/i∈R4->S i:=fun i hi h=>hR i ((hRiff i hi).2 h) hi
             have l1:=g1.shape.le;have l2:=sh2.le;have l3:=g3.shape.le;have l4:=sh3.le;have sf0:Sofar B S n m3.n [] μ μ H H n w w:=⟨Post.refl QD,hB,hf⟩
             have hfr0:FrR Bot.no μ c0 (Frame.enter P f args' .normal):=Ui hc0 hv;obtain⟨Up,w1,μ1,s1,U4,hro1,hfn1,st1,x1⟩:=sf0.goj hS g1 (by omega) (fun i hi Xm=>hR' i Xm (.inl (NK _ (NK _ (NK _ hi))))) hfr0 cs;have hro1:Up.roundOf=none:=hro1;obtain⟨ha,hb,hd⟩:=U4.running hmode1;rw[htodo1]at hd;obtain⟨L',hL,hL'⟩:=hd.code;have hd1:Up.defers=[]:=by
              have:=U4.defers;rw[hds1]at this;exact this.empty
             rw[XF]at e1;have hlen:ops.size=pre.length+(0+1):=by
              have:=congrArg NG e1;simp at this;omega
             have hat:ops[pre.length]? =some s.o:=by
              rw[<-NM,e1,NL (NZ _)];simp
             have hplen:s.Qy.length=pre.length:=by have:=congrArg NG e5;simpa using this
             have hown1:∀(j:Nat) r,s.Qy[j]? =some r->ops[0+j]? =some r.o:=by
              intro j r hj;rw[Ob];exact Ud (l:=ops.toList) (l2:=[s.o]) (by rw[e5];exact e1.symm) rfl j r hj
             obtain⟨A1,w2,μ2,s2,hT2,x2,st2⟩:=s1.seq hS e4 e2 e3 0 hown1 rfl (by omega) (fun i hi Xm=>hR' i Xm (.inl (NK _ (NK _ (NT _ hi))))) ha hb (pre.length::Oa (pre.length+1) 0) L' cs;have Y1:step P (lone Up cs w1)=.next (lone (Xj Up Up.tmps ops (Oa 0 ops.size) L') cs w1):=ZW ha hL;rw[range_split hlen]at Y1;rw[hplen]at st2;have Uu:Region.wanted s.o (yielded ops A1)=true:=by rw[UG hT2];exact e8
             have hvx:=mS (fr:=Xj Up A1 ops (pre.length::Oa (pre.length+1) 0) L') hT2 x _ hx;have hca':c.args=#[]:=by simpa[Array.isEmpty]using hca.1
             generalize hgx:(Xj Up A1 ops (pre.length::Oa (pre.length+1) 0) L').eval x=ux at hvx;cases hvx with
             |func q1 q2 q3 q4=>
              rename_i xs' ys';have hdv:(Deferred.ofValue ((Xj Up A1 ops (pre.length::Oa (pre.length+1) 0) L').eval x) (c.args.map (Xj Up A1 ops (pre.length::Oa (pre.length+1) 0) L').eval)).run P w2=.ok {target:=.fn (.func g) ys',args:=xs'} w2:=by
               rw[hgx,hca'];simp[Deferred.ofValue]
              have st3:=step_defer (cs:=cs) (w:=w2) ha hro1 hat Uu Zi hcal hdv;rw[Yx hat]at st3;have hdst:=KP e7;have hT3:TR μ2 (Vy s.T s.o.dst undef) (putA A1 undef s.o.dst):=hT2.putA hdst VR.undef
              -- the frame behind the region
              have st4:step P (lone {Xj Up (putA A1 undef s.o.dst) ops (Oa (pre.length+1) 0) L' with defers:={target:=.fn (.func g) ys',args:=xs'}::Up.defers} cs w2)=
               .next (lone {Up with tmps:=putA A1 undef s.o.dst,todo:=L',defers:={target:=.fn (.func g) ys',args:=xs'}::Up.defers} cs w2):=
               Vk (fr:={Up with defers:={target:=.fn (.func g) ys',args:=xs'}::Up.defers}) (A:=putA A1 undef s.o.dst) (ops:=ops) (k:=L') ha
              have hfr2:FrR ⟨[{target:=.fn (.func g) ys',args:=xs'}],.normal⟩ μ2 {m1.c with tmps:=Vy s.T s.o.dst undef,todo:=todo} {Up with tmps:=putA A1 undef s.o.dst,todo:=L',defers:={target:=.fn (.func g) ys',args:=xs'}::Up.defers}:=
               ⟨U4.fn,hT3,fun _=>hL'.mono x2,by rw[show({m1.c with tmps:=Vy s.T s.o.dst undef,todo:=todo}:CF).defers=[]from hds1];exact .of_empty (by simp[hd1]),U4.mode.mono x2,U4.kind,U4.round.mono x2⟩
              obtain⟨fr3,w3,μ3,s3,hfr3,hro3,hfn3,st5,x3⟩:=s2.goj hS g3 (by omega) (fun i hi Xm=>hR' i Xm (.inl (NK _ (NT _ hi)))) hfr2 cs;have hd3:fr3.defers=[{target:=.fn (.func g) ys',args:=xs'}]:=by
               have:=hfr3.defers;rw[hds2]at this;exact this.empty
              have hun:rC μ3 pv {fr3 with defers:=[]}/\fr3.mode≠.run:=by
               have hm:=hfr3.mode;generalize fr3.mode=q at hm ⊢;cases hcm:m2.c.mode with
               |run=>rw[hcm]at hpv;cases hpv
               |ret=>
                rw[hcm]at hpv hm;cases hm;simp only[EF,YO]at hpv;exact⟨.inl ⟨hpv.symm,rfl⟩,fun e=>by cases e⟩
               |ZH v0=>
                rw[hcm]at hpv hm;cases hm with
                |ZH Vt=>
                 simp only[EF,YO]at hpv;subst hpv;exact⟨.inr ⟨_,Vt,rfl⟩,fun e=>by cases e⟩
              have st6:step P (lone fr3 cs w3)=.next (lone (Frame.enter P g (xs'++ys') .deferred) ({fr3 with defers:=[]}::cs) w3):=
               Jm hun.2 hd3 rfl (S3 (hF g hca.2) _ w3)
              have hvargs:VRs μ3 (xs++ys) (xs'++ys'):=by
               have k1:VRs μ3 xs xs':=(VRs.mono x3 ⟨q1,q3⟩)
               have k2:VRs μ3 ys ys':=(VRs.mono x3 ⟨q2,q4⟩)
               exact k1.append k2
              obtain⟨w4,μ4,s4,x4,st7⟩:=hsem S n m3.n _ μ μ3 H w w3 s3 hS (NZ _) (fun i hi Xm=>hR' i Xm (.inl (NT _ hi))) _ {fr3 with defers:=[]} cs hvargs hun.1
              obtain⟨fn,v',hfn,hresr,Vt⟩:=j3 hu3 s4.post.ok (hfr3.tmps.mono x4) hres (fun i hi Xm=>by
               rcases Oe i n with h1|h1
               ·exact .inl (hR' i h1 (.inr hi))
               ·exact .inr ⟨h1,Xm⟩)
              have hfnE:fr3.fn=f:=by
               have:(Frame.enter P f args' .normal).fn=f:=rfl;rw[hfn3];show Up.fn=f;rw[hfn1,this]
              have JK:({fr3 with defers:=[],mode:=.returning}:Frame).leaving P w4 (.returned v'):=⟨rfl,rfl,hfr3.kind,fn,by rw[<-hfn,hfr3.fn],hresr⟩
              have XZ:Steps P (lone (Frame.enter P f args' .normal) cs w) (lone {fr3 with defers:=[],mode:=.returning} cs w4):=
               st1.trans (.head Y1 (st2.trans (.head st3 (.head st4 (st5.trans (.head st6 st7))))))
              refine⟨.ret v',w4,μ4,s4.post.lists (fun i hi=>by rw[hWiff i hi];simp[List.append_assoc]),.ret Vt,fun _=>⟨_,XZ,hfnE,JK⟩,fun c1 cs' e=> ?_⟩;subst e;exact XZ.trans (.one (step_leave_returned JK))
            ·cases h
           ·cases h
          ·cases h
         ·cases h
       ·cases h
      ·cases h
     ·cases h
    ·cases h
   ·cases h
  ·cases h
 ·cases h
end
def Memo.drun(P:Program)(F:FuncId->Bool)(Xt:Vj)(fuel:Nat)(m:Memo):Option Rs:=FY P F Xt fuel m.g m.args m.H0 m.n
theorem Xa{P:Program}{F:FuncId->Bool}{Xt:Vj}{B:Lo}(hF:∀g,F g=true->QA P g=true)(XS:P.follows .mixedOrders=true)(Wl:WB P B Xt){fuel:Nat}{m:Memo}{l:List Memo}(hm:QP m (m.drun P F Xt fuel)=true)(hl:WB P B (XQ l)):WB P B (XQ (m::l)):=by
 intro g args H n s hu h;simp only[XQ]at h;cases hq:(NH m.n n && NH m.g g && FN (Cc 1) args.toList m.args.toList && hasAll H m.H0)with
 |false=>
  rw[hq]at h;exact hl g args H n s hu h
 |true=>
  rw[hq]at h;simp only[cond_true,YO]at h;simp only[YB]at hq;obtain⟨⟨⟨q1,q2⟩,q3⟩,q4⟩:=hq;obtain rfl:=YE q1;obtain rfl:=YE q2;obtain rfl:=Array.ext' (Kh (Uq 1) _ _ q3);have hH:=YK q4;subst h;obtain⟨Hs,R,VN,hnews,hw,hw0,hR0⟩:=gA hm;have hu0:Under m.H0 m.n:=fun i hi=>Vh hw0 (.inr hi)
  have hsem:=wu (B:=B) hF XS Wl hu0 VN;have hle:m.n<=m.n':=hsem.1.le;have JL:∀i,i<m.n\/m.n'<=i->Qu (m.news++H) i=Qu H i:=fun i hi=>by
   rw[ZM,Vh hw hi]
  have Ug:∀i o,m.n<=i->Qu (m.news++H) i=some o->Qu Hs i=some o:=by
   intro i o h1 h2;rw[ZM]at h2;cases hg:Qu m.news i with
   |some x=>
    rw[hg]at h2;rw[hnews i x hg];exact h2
   |none=>
    rw[hg,hu i h1]at h2;cases h2
  refine⟨⟨hle,fun i hi _=>JL i (.inl hi),fun i hi=>JL i (.inr hi),fun _ h=>by simp at h,fun _ h=>by simp at h⟩,fun S μ w args' cs QD hB hS hf hv hR=> ?_⟩;simp only at hf hR ⊢;have hok0:Ok B (fun i=>S i/\∃o,Qu m.H0 i=some o) μ (Qu m.H0) w:=by
   refine⟨fun i o hi ho hl=>QD.rel i o hi.1 (hH i o ho) hl,fun i o im hi ho hl=>QD.low i o im hi.1 (hH i o ho) hl,fun i j oi oj a b hi hj Pr Wc Wb=>QD.inj i j oi oj a b hi.1 hj.1 Pr (hH i oi Wc) (hH j oj Wb),
    fun i o hi ho=>QD.Y0 i o hi.1 (hH i o ho),fun i j oi oj a b x hi hj Wc Wb=>QD.sep i j oi oj a b x hi.1 hj.1 (hH i oi Wc) (hH j oj Wb)⟩
  obtain⟨Zf,w',μ',hp,ho,he⟩:=hsem.2 _ μ w args' cs hok0 hB (fun i hi=>hS i hi.1) hf hv (fun i hi hl=>by
   obtain⟨o,ho⟩:=hR0 i hi hl;exact⟨hR i (dR ho) hl,o,ho⟩)
  simp only at hp ho;have hold:∀i im,S i->μ i=some im->μ' i=some im:=fun i im hi h=>by
   have:=hS i hi;rw[hp.ext i (by omega)];exact h
  have hext:Ext μ μ':=hp.mu hf;have XC:∀i im o,m.n<=i->i<m.n'->Qu (m.news++H) i=some o->live o->μ' i=some im->im.rw=true/\w.heap.size<=im.Zv:=by
   intro i im o h1 h2 h3 h4 h5;obtain⟨x,y⟩:=hp.fresh i im o h1 h2 (Ug i o h1 h3) h4 h5;exact⟨x,y.elim id fun⟨k,hk,_⟩=>by simp at hk⟩
  have hOld:∀i o,S i->Qu (m.news++H) i=some o->live o->∃im,μ i=some im/\μ' i=some im/\Qu H i=some o/\im.Zv<w.heap.size:=by
   intro i o hi ho hl;have:=hS i hi;rw[JL i (.inl this)]at ho;obtain⟨im,QI,_⟩:=QD.rel i o hi ho hl;exact⟨im,QI,hold i im hi QI,ho,(QD.low i o im hi ho hl QI).1⟩
  refine⟨Zf,w',μ',⟨⟨fun i o hi ho hl=> ?_,fun i o im hi ho hl QI=> ?_,fun i j oi oj a b hi hj Pr Wc Wb hli VW ha hb hra Km=> ?_,fun i o hi ho hr=> ?_,fun i j oi oj a b x hi hj Wc Wb Y8 VW ha hb Km hx=> ?_⟩,hle,hp.ext,fun i hi _=>JL i (.inl hi),hp.grow,fun b hb _=>hp.frame b hb fun i hi=>by simp at hi,fun i hi=>by simp at hi,
   fun i im o h1 h2 h3 h4 h5=>⟨(XC i im o h1 h2 h3 h4 h5).1,.inl (XC i im o h1 h2 h3 h4 h5).2⟩,fun i im o hi ho hr hm b x hx=> ?_,hp.os,hp.tape,hp.output⟩,ho,he⟩
  ·rcases hi with hi|hi
   ·obtain⟨im,QI,QR,UD,Xm⟩:=hOld i o hi ho hl;obtain⟨im2,WA,hr2⟩:=QD.rel i o hi UD hl;rw[QI]at WA;cases WA;exact⟨im,QR,hr2.keep hext (hp.frame _ Xm fun i hi=>by simp at hi)⟩
   ·exact hp.ok.rel i o (.inr hi) (Ug i o hi.1 ho) hl
  ·rcases hi with hi|hi
   ·obtain⟨im2,WA,QR,UD,Xm⟩:=hOld i o hi ho hl;rw[QI]at QR;cases QR;exact⟨Nat.lt_of_lt_of_le Xm hp.grow,(QD.low i o im hi UD hl WA).2⟩
   ·exact hp.ok.low i o im (.inr hi) (Ug i o hi.1 ho) hl QI
  ·rcases hi with hi|hi <;> rcases hj with hj|hj
   ·obtain⟨im,h1,h2,h3,_⟩:=hOld i oi hi Wc hli;obtain⟨jm,k1,k2,k3,_⟩:=hOld j oj hj Wb VW;rw[ha]at h2;cases h2;rw[hb]at k2;cases k2;exact QD.inj i j oi oj a b hi hj Pr h3 k3 hli VW h1 k1 hra Km
   ·obtain⟨im,h1,h2,h3,h4⟩:=hOld i oi hi Wc hli;rw[ha]at h2;cases h2;have:=(XC j b oj hj.1 hj.2 Wb VW hb).2;omega
   ·obtain⟨im,h1,h2,h3,h4⟩:=hOld j oj hj Wb VW;rw[hb]at h2;cases h2;have:=(XC i a oi hi.1 hi.2 Wc hli ha).2;omega
   ·exact hp.ok.inj i j oi oj a b (.inr hi) (.inr hj) Pr (Ug i oi hi.1 Wc) (Ug j oj hj.1 Wb) hli VW ha hb hra Km
  ·rcases hi with hi|hi
   ·have:=hS i hi;rw[JL i (.inl this)]at ho;obtain⟨im,QI,hf⟩:=QD.Y0 i o hi ho hr;exact⟨im,hold i im hi QI,fun b x hx=>by rw[hp.frame b (Y3 QD hi ho hr QI hx) fun i hi=>by simp at hi];exact hf b x hx⟩
   ·exact hp.ok.Y0 i o (.inr hi) (Ug i o hi.1 ho) hr
  ·have oldR:∀i oi a,S i->Qu (m.news++H) i=some oi->μ' i=some a->Ws oi->Qu H i=some oi/\μ i=some a:=by
    intro i oi a hi Wc ha hr;have:=hS i hi;rw[JL i (.inl this)]at Wc;rw[hp.ext i (by omega)]at ha;exact⟨Wc,ha⟩
   rcases hi with hi|hi <;> rcases hj with hj|hj
   ·obtain⟨h1,h2⟩:=oldR i oi a hi Wc ha Y8;obtain⟨jm,k1,k2,k3,_⟩:=hOld j oj hj Wb VW;rw[hb]at k2;cases k2;exact QD.sep i j oi oj a b x hi hj h1 k3 Y8 VW h2 k1 Km hx
   ·obtain⟨h1,h2⟩:=oldR i oi a hi Wc ha Y8;have:=(XC j b oj hj.1 hj.2 Wb VW hb).2;have:=Y3 QD hi h1 Y8 h2 hx;omega
   ·obtain⟨jm,k1,k2,k3,k4⟩:=hOld j oj hj Wb VW;rw[hb]at k2;cases k2;rcases hp.rf i a oi (.inl hi) (Ug i oi hi.1 Wc) Y8 ha b.Zv x hx with e|⟨k,VV,ko,hSk,_,hko,hkr,Sw,hkb⟩|⟨k,hk,_⟩
    ·omega
    ·exact QD.sep k j ko oj VV b x hSk.1 hj (hH k ko hko) k3 hkr VW Sw k1 Km hkb
    ·simp at hk
   ·exact hp.ok.sep i j oi oj a b x (.inr hi) (.inr hj) (Ug i oi hi.1 Wc) (Ug j oj hj.1 Wb) Y8 VW ha hb Km hx
  ·have Y1:m.n<=i/\i<m.n':=hi.elim id fun h=>by simp at h
   rcases hp.rf i im o (.inl Y1) (Ug i o Y1.1 ho) hr hm b x hx with e|⟨k,VV,ko,hSk,hkn,hko,c⟩|⟨k,hk,_⟩
   ·exact .inl e
   ·exact .inr (.inl ⟨k,VV,ko,hSk.1,hkn,hH k ko hko,c⟩)
   ·simp at hk
end
end Go.CE

namespace Go.CE
open Go Go.RowKit

section
variable {μ μ1:Mu} {ρ:Nat->Nat} {m:Nat}
end

def X4(v:Value):Prop:=∀μ μ1 v',VR μ v v'->VR μ1 v v'
theorem JI{v:Value}(h:af v=true):X4 v:=fun _ _ _ hv=>by rw[RA h hv];exact Jk h
theorem y0:X4 (.chan none):=fun _ _ _ h=>by
 cases h with
 |K0 a b c=>exact .K0 a b c
theorem BS{xs:Array Value}(h:∀x∈xs,X4 x):X4 (.agg xs):=fun μ μ1 v' hv=>by
 cases hv with
 |agg h1 h2=>exact .agg h1 fun i v v' a b=>h v (Om a) μ μ1 v' (h2 i v v' a b)
theorem vG{xs:Array Value}(h:∀x∈xs,X4 x):X4 (.tuple xs):=fun μ μ1 v' hv=>by
 cases hv with
 |tuple h1 h2=>exact .tuple h1 fun i v v' a b=>h v (Om a) μ μ1 v' (h2 i v v' a b)
theorem y1{g:FuncId}{xs ys:Array Value}(h:∀x∈xs,X4 x)(k:∀x∈ys,X4 x):X4 (.func (.func g) xs ys):=fun μ μ1 v' hv=>by
 cases hv with
 |func h1 h2 h3 h4=>exact .func h1 h2 (fun i v v' a b=>h v (Om a) μ μ1 v' (h3 i v v' a b)) (fun i v v' a b=>k v (Om a) μ μ1 v' (h4 i v v' a b))
theorem vH{t:TypeId}{v:Value}(h:X4 v):X4 (.iface t v):=fun μ μ1 v' hv=>by
 cases hv with
 |iface hv=>exact .iface (h μ μ1 _ hv)
theorem r9{xs:Array Value}(h:∀x∈xs,∃d,X4 d/\∀μ v',VR μ x v'->VR μ d v'):∃ds:Array Value,ds.size=xs.size/\(∀d∈ds,X4 d)/\∀μ (xs':Array Value),(∀(i:Nat) v v',xs[i]? =some v->xs'[i]? =some v'->VR μ v v')->∀(i:Nat) v v',ds[i]? =some v->xs'[i]? =some v'->VR μ v v':=by
 have h':∀i:Fin xs.size,∃d,X4 d/\∀μ v',VR μ xs[i] v'->VR μ d v':=fun i=>h xs[i] (Array.getElem_mem i.2)
 refine⟨Array.ofFn fun i=>Classical.choose (h' i),by simp,fun d hd=> ?_,fun μ xs' hx i v v' hv ZY=> ?_⟩
 ·obtain⟨i,hi⟩:=Array.mem_ofFn.1 hd;rw[<-hi];exact(Classical.choose_spec (h' i)).1
 ·rw[Array.getElem?_ofFn]at hv;split at hv
  ·rename_i hi;simp only[YO]at hv;subst hv;exact(Classical.choose_spec (h' ⟨i,hi⟩)).2 μ v' (hx i _ v' (by simp[hi]) ZY)
  ·cases hv
theorem Kg(v:Value):∃d,X4 d/\∀μ v',VR μ v v'->VR μ d v':=by
 have K0:∀{v:Value},(∀μ v',VR μ v v'->(∀b,v'≠.bool b)/\v'.cells=#[v']/\v'.oneCell'=true)->∃d,X4 d/\∀μ v',VR μ v v'->VR μ d v':=
  fun h=>⟨.chan none,y0,fun μ v' hv=>.K0 (h μ v' hv).1 (h μ v' hv).2.1 (h μ v' hv).2.2⟩
 match v with
 | .agg xs=>
   obtain⟨ds,e,hl,hd⟩:=r9 (xs:=xs) fun x _=>Kg x
   refine⟨.agg ds,BS hl,fun μ v' hv=> ?_⟩;cases hv with
   |agg h1 h2=>exact .agg (e.trans h1) (hd μ _ h2)
 | .tuple xs=>
   obtain⟨ds,e,hl,hd⟩:=r9 (xs:=xs) fun x _=>Kg x
   refine⟨.tuple ds,vG hl,fun μ v' hv=> ?_⟩;cases hv with
   |tuple h1 h2=>exact .tuple (e.trans h1) (hd μ _ h2)
 | .func (.func g) xs ys=>
   obtain⟨ds,e,hl,hd⟩:=r9 (xs:=xs) fun x _=>Kg x
   obtain⟨es,e',hl',hd'⟩:=r9 (xs:=ys) fun x _=>Kg x
   refine⟨.func (.func g) ds es,y1 hl hl',fun μ v' hv=> ?_⟩;cases hv with
   |func h1 h2 h3 h4=>exact .func (e.trans h1) (e'.trans h2) (hd μ _ h3) (hd' μ _ h4)
 | .iface t x=>
   obtain⟨d,hl,hd⟩:=Kg x;refine⟨.iface t d,vH hl,fun μ v' hv=> ?_⟩;cases hv with
   |iface hv=>exact .iface (hd μ _ hv)
 | .bool b=>exact⟨_,JI rfl,fun _ _ h=>h⟩
 | .int k n=>exact⟨_,JI rfl,fun _ _ h=>h⟩
 | .string s=>exact⟨_,JI rfl,fun _ _ h=>h⟩
 | .nilFunc=>exact⟨_,JI rfl,fun _ _ h=>h⟩
 | .nilIface=>exact⟨_,JI rfl,fun _ _ h=>h⟩
 | .chan r=>exact K0 fun μ v' h=>by cases h with
   |K0 a b c=>exact⟨a,b,c⟩
   |noCap=>exact⟨(fun b e=>by cases e),rfl,rfl⟩
 | .pointer a=>exact K0 fun μ v' h=>by cases h <;> exact⟨(fun b e=>by cases e),rfl,rfl⟩
 | .slice a n c=>exact K0 fun μ v' h=>by cases h <;> exact⟨(fun b e=>by cases e),rfl,rfl⟩
 | .map r=>exact K0 fun μ v' h=>by cases h <;> exact⟨(fun b e=>by cases e),rfl,rfl⟩
 | .func (.yield l) xs ys=>exact K0 fun μ v' h=>by cases h <;> exact⟨(fun b e=>by cases e),rfl,rfl⟩
 | .func (.method s) xs ys=>exact K0 fun μ v' h=>by cases h
 | .func (.methodOf t s) xs ys=>exact K0 fun μ v' h=>by cases h
 | .func (.via t p f q) xs ys=>exact K0 fun μ v' h=>by cases h with|top a b c=>exact⟨c.nobool a,c.one a⟩
 | .float k b=>exact K0 fun μ v' h=>by cases h
 | .complex k a b=>exact K0 fun μ v' h=>by cases h
termination_by SizeOf.sizeOf v
decreasing_by
 all_goals simp_wf
 all_goals first
  |(have:=Array.sizeOf_lt_of_mem ‹_∈_›;omega)
  |omega
end Go.CE
namespace Go.CE
open Go Go.RowKit
end Go.CE

namespace Go.CE
open Go Go.RowKit

structure GoE (P:Program) (B:Lo) (c0:CF) (H0:Qp) (n:Nat) (c':CF) (H':Qp) (n':Nat) (W:List Nat):Prop where
 under:Under H' n'
 le:n<=n'
 sem:∀(Z:Bot) (μ:Mu) (w:World) (fr:Frame) (cs:List Frame),Ok B (fun i=>i<n) μ (Qu H0) w->B.has w->(∀i,n<=i->μ i=none)->FrR Z μ c0 fr->
  ∃fr' w' μ',Post B (fun i=>i<n) n n' W μ μ' H0 H' w w'/\FrR Z μ' c' fr'/\fr'.roundOf=fr.roundOf/\fr'.fn=fr.fn/\Steps P (lone fr cs w) (lone fr' cs w')
section
variable {P:Program} {B:Lo} {c0 c1 c2:CF} {H0 H1 H2:Qp} {n n1 n2:Nat} {W W1 W2 R2:List Nat}
theorem GoE.refl(hu:Under H0 n):GoE P B c0 H0 n c0 H0 n []:=
 ⟨hu,NZ _,fun _ μ w fr _ QD _ _ XC=>⟨fr,w,μ,Post.refl QD,XC,rfl,rfl,Steps.refl _ _⟩⟩
theorem GoE.lists(h:GoE P B c0 H0 n c1 H1 n1 W)(hW:∀i,i<n->(i∈W1<->i∈W)):GoE P B c0 H0 n c1 H1 n1 W1:=
 ⟨h.under,h.le,fun Z μ w fr cs QD hB hf XC=>let⟨fr',w',μ',hp,a⟩:=h.sem Z μ w fr cs QD hB hf XC;⟨fr',w',μ',hp.lists hW,a⟩⟩
theorem GoE.step(h:GoE P B c0 H0 n c1 H1 n1 W1)(k:GoJ P B c1 H1 n1 c2 H2 n2 R2 W2):GoE P B c0 H0 n c2 H2 n2 (W1++W2):=by
 refine⟨h.under.shape k.shape,Nat.le_trans h.le k.shape.le,fun Z μ w fr cs QD hB hf XC=> ?_⟩;have le1:=h.le;obtain⟨Up,w1,μ1,hp,U4,hr,hfn,XZ⟩:=h.sem Z μ w fr cs QD hB hf XC;obtain⟨fr2,w2,μ2,JU,hfr2,hr2,hfn2,hst2⟩:=k.sem _ μ1 w1 Up cs Z hp.ok (hB.post QD hp) (fun i hi=>hi.elim (fun e=>by omega) (fun e=>e.2)) (fun q a b=>by rw[hp.ext q (by omega)];exact hf q (by omega)) U4
  (fun q _ Xm=>by
   rcases Oe q n with h1|h1
   ·exact .inl h1
   ·exact .inr ⟨h1,Xm⟩)
 exact⟨fr2,w2,μ2,hp.trans JU,hfr2,hr2.trans hr,hfn2.trans hfn,XZ.trans hst2⟩
theorem GoE.fj{out:OO}(h:GoE P B c0 H0 n c1 H1 n1 W1)(k:FJ P B c1 H1 n1 out H2 n2 R2 W2)(μ:Mu)(w:World)(fr:Frame)(cs:List Frame)(QD:Ok B (fun i=>i<n) μ (Qu H0) w)(hB:B.has w)(hf:∀i,n<=i->μ i=none)(XC:FrR Bot.no μ c0 fr):
 ∃Zf w' μ',Post B (fun i=>i<n) n n2 (W1++W2) μ μ' H0 H2 w w'/\OR2 μ' out Zf/\EndsAs P fr cs w Zf w':=by
 have le1:=h.le;obtain⟨Up,w1,μ1,hp,U4,hr,hfn,XZ⟩:=h.sem Bot.no μ w fr cs QD hB hf XC;obtain⟨Zf,w2,μ2,JU,ho,he⟩:=k.sem _ μ1 w1 Up cs hp.ok (hB.post QD hp) (fun i hi=>hi.elim (fun e=>by omega) (fun e=>e.2)) (fun q a b=>by rw[hp.ext q (by omega)];exact hf q (by omega)) U4
  (fun q _ Xm=>by
   rcases Oe q n with h1|h1
   ·exact .inl h1
   ·exact .inr ⟨h1,Xm⟩)
 exact⟨Zf,w2,μ2,hp.trans JU,ho,he.of_steps XZ hr hfn⟩
end

def look:List (Nat×Value)->Nat->Value->Value
 |[],_,d=>d
 |(a,v)::l,t,d=>bif NH a t then v else look l t d
theorem y2(l:List (Nat×Value))(t:Nat)(d:Value):look l t d=d\/∃v,(t,v)∈l/\look l t d=v:=by
 induction l with
 |nil=>exact .inl rfl
 |cons p l ih=>
  obtain⟨a,v⟩:=p;cases hb:NH a t with
  |true=>
   have:=YE hb;subst this;exact .inr ⟨v,by simp,by simp[look]⟩
  |false=>
   simp only[look,hb,cond_false];exact ih.imp id fun⟨v,h1,h2⟩=>⟨v,NS _ h1,h2⟩
def LP(live:List (Nat×Value))(d:Nat->Value):Nat->Nat->List Value
 |0,_=>[]
 |k+1,t=>look live t (d t)::LP live d k (t+1)
theorem b8(live:List (Nat×Value))(d:Nat->Value):∀(k t:Nat),(LP live d k t).length=k
 |0,_=>rfl
 |k+1,t=>by simp[LP,b8 live d k]
theorem z9(live:List (Nat×Value))(d:Nat->Value):∀(k t i:Nat),i<k->(LP live d k t).getD i undef=look live (t+i) (d (t+i))
 |0,_,i,h=>by omega
 |k+1,t,0,_=>rfl
 |k+1,t,i+1,h=>by
  have:=z9 live d k (t+1) i (by omega);rw[show t+(i+1)=t+1+i by omega,<-this];rfl
def Gw(len:Nat)(live:List (Nat×Value))(d:Nat->Value):Tm:=ofList len (LP live d len 0)
theorem HO{len:Nat}{live:List (Nat×Value)}{d:Nat->Value}(hl:len<=16000)(t:Nat):XB (Gw len live d) t=if t<len then look live t (d t)else undef:=by
 have h:=aA (LP live d len 0) 0 .lf t (by rw[b8];omega);have e:XB (Gw len live d) t=(Mo (LP live d len 0) 0 .lf).get t:=rfl;rw[e,h];simp only[Nat.zero_le,true_and,Ob,b8,Nat.sub_zero,Tri.get_lf];split
 ·rename_i ht;rw[z9 live d len 0 t ht,Ob]
 ·rfl
def VF:Item->Bool
 | .endRangeFunc _=>false
 | .inRangeFunc _=>false
 |_=>true
theorem TodoR.plain{μ μ1:Mu}{l L:List Item}(h:TodoR μ l L)(hp:l.all VF=true):TodoR μ1 l L:=by
 induction h with
 |nil=>exact .nil
 |cons hi _ ih=>
  simp only[List.all_cons,YB]at hp;refine .cons ?_ (ih hp.2);cases hi with
  |code c=>exact .code c
  |inBlock id=>exact .inBlock id
  |inLoop c=>exact .inLoop c
  |inScope c=>exact .inScope c
  |beginRound=>exact .beginRound
  |endRF h=>cases hp.1
def QJ(f:FuncId)(len:Nat)(live:List (Nat×Value))(d:Nat->Value)(todo:List Item):CF:=⟨f,Gw len live d,todo,[],.run,none⟩
end Go.CE

namespace Go.CE
open Go Go.RowKit

inductive Hint where
 |val (v:Value)
 |idx (k:Nat)
 |ld (v:Value)
 |raw (v:Value)
 |len (n:Nat)
 |eq (b:Bool)
 |app (cs:Array Value)
 |mk (m:Nat) (cs:Array Value)
 |st (cs:Array Value)
 |call (keys:List Nat) (out:Value) (Ut:Qp) (n':Nat) (W:List Nat)
 |look (v:Value)
 |upd (es:Array MapEntry) (JX:Nat)
 |nil
def Ni:Value->Value->Prop
 | .int k a,.int k' b=>bif decide (k=k')then a=b else False
 | .bool a,.bool b=>a=b
 |u,v=>u=v
theorem Lg{u v:Value}(h:Ni u v):u=v:=by
 unfold Ni at h;split at h
 ·rename_i k a k' b;by_cases e:k=k'
  ·simp only[e,decide_true,cond_true]at h;rw[e,h]
  ·simp[e]at h
 ·rw[h]
 ·exact h
def Ka:Option Nat->Bool
 |none=>true
 |some 0=>true
 |_=>false
def Gu(v:Value)(m:Nat):Prop:=∀μ v',VR μ v v'->∃a c,v'=.slice a m c
theorem ng{P:Program}{t:TypeId}{cs:Array Value}{off:Nat}{v:Value}(h:K5 P t cs off=some v)(w:World):(part t cs off).run P w=.ok v w:=by
 unfold K5 at h;cases ha:nq P t with
 |none=>rw[ha]at h;cases h
 |some b=>
  rw[ha]at h;cases b with
  |true=>
   cases hs:WN P t with
   |none=>rw[hs]at h;cases h
   |some s=>
    rw[hs]at h;dsimp only at h;cases hb:Oo (off+s) cs.size with
    |false=>rw[hb]at h;cases h
    |true=>
     rw[hb]at h;simp only[cond_true,YO]at h;subst h;simp only[part,Sem.run_bind,U7 ha,Result.andThen_ok,if_true,Zm hs,Sem.run_pure]
  |false=>
   simp only at h;simp only[part,Sem.run_bind,U7 ha,Result.andThen_ok,h];rfl
def VH(v:Value):Bool:=af v
def Cd(P:Program)(rec:TypeId->Value->Value->Option Bool):List Field->Array Value->Array Value->Option Bool
 |[],_,_=>some true
 |f::fs,xs,ys=>bif decide (f.name= "_")then Cd P rec fs xs ys else
  match K5 P f.type xs f.offset,K5 P f.type ys f.offset with
  |some a,some b=>match rec f.type a b,Cd P rec fs xs ys with
   |some r,some q=>some (r && q)
   |_,_=>none
  |_,_=>none
def Mq(P:Program):Nat->TypeId->Value->Value->Option Bool
 |0,_,_,_=>none
 |d+1,t,x,y=>match Jl P t,x,y with
  |some (.int _),.int k a,.int k' b=>bif decide (k=k')then some (YM a b)else none
  |some .bool,.bool a,.bool b=>some (bif a then b else !b)
  |some (.struct fs),.agg xs,.agg ys=>bif P.stoodInHeld t then none else Cd P (Mq P d) fs.toList xs ys
  |_,_,_=>none
theorem mU{P:Program}{rec:TypeId->Value->Value->Option Bool}(d:Nat)(Vu:∀t x y r,rec t x y=some r->∀(D:Nat) (w:World),d<=D->(Op.equalIn D t x y).run P w=.ok r w):∀(fs:List Field) (xs ys:Array Value) (r:Bool),Cd P rec fs xs ys=some r->∀(D:Nat) (w:World),d<=D->(Op.eqFields D xs ys fs).run P w=.ok r w
 |[],xs,ys,r,h,D,w,hD=>by
  simp only[Cd,YO]at h;subst h;simp[Op.eqFields]
 |f::fs,xs,ys,r,h,D,w,hD=>by
  unfold Cd at h;by_cases e:f.name= "_"
  ·simp only[e,decide_true,cond_true]at h;simp only[Op.eqFields,e,ne_eq,not_true_eq_false,if_false];exact mU d Vu fs xs ys r h D w hD
  ·simp only[e,decide_false,cond_false]at h;split at h
   ·rename_i a b ha hb;split at h
    ·rename_i r1 q h1 h2;simp only[YO]at h;subst h;have pa:(part f.type xs f.offset).run P w=.ok a w:=ng ha w;have pb:(part f.type ys f.offset).run P w=.ok b w:=ng hb w;simp only[Op.eqFields,e,ne_eq,not_false_eq_true,if_true,Sem.run_bind,pa,Result.andThen_ok,pb,Vu f.type a b r1 h1 D w hD];cases r1 with
     |true=>simpa using mU d Vu fs xs ys q h2 D w hD
     |false=>simp
    ·cases h
   ·cases h
theorem rj{P:Program}:∀(d:Nat) (t:TypeId) (x y:Value) (r:Bool),Mq P d t x y=some r->∀(D:Nat) (w:World),d<=D->(Op.equalIn D t x y).run P w=.ok r w
 |0,t,x,y,r,h,D,w,hD=>by simp[Mq]at h
 |d+1,t,x,y,r,h,D,w,hD=>by
  obtain⟨D,rfl⟩:∃e,D=e+1:=⟨D-1,by omega⟩
  unfold Mq at h;simp only[Z1]at h;split at h
  ·rename_i k0 k a k' b hu;by_cases e:k=k'
   ·subst e;simp only[decide_true,cond_true,YO]at h;rw[run_equalIn_int w D t k k0 a b hu,<-h,fg]
   ·simp[e]at h
  ·rename_i a b hu;simp only[YO]at h;rw[run_equalIn_bool' w D t a b hu,<-h];cases a <;> cases b <;> rfl
  ·rename_i fs xs ys hu;cases hs:P.stoodInHeld t with
   |true=>rw[hs]at h;cases h
   |false=>
    rw[hs]at h;simp only[cond_false]at h;have hf:P.fieldsOf t=fs:=by simp[Program.fieldsOf,hu]
    rw[run_equalIn_struct w D t xs ys (by rw[hf];exact hu) hs,hf];exact mU d (rj d) fs.toList xs ys r h D w (by omega)
  ·cases h
def zV(B:Lo)(b off:Nat)(v:Value):Prop:=∀w,B.has w->∃v',w.cell? ⟨b,off,none⟩=some v'/\∀μ,VR μ v v'
def nv(P:Program)(B:Lo)(g:FuncId)(args:Array Value)(H:Qp)(n:Nat)(out:OO)(H':Qp)(n':Nat)(R W:List Nat):Prop:=
 Shape H n H' n' R W/\∀(S:Nat->Prop) (μ:Mu) (w:World) (args':Array Value) (cs:List Frame),Ok B S μ (Qu H) w->B.has w->(∀i,S i->i<n)->YU μ n n'->VRs μ args args'->(∀i∈R,i<n->S i)->
  ∃Zf w' μ',Post B S n n' W μ μ' H H' w w'/\OR2 μ' out Zf/\EndsAs P (Frame.enter P g args' .normal) cs w Zf w'
def CJ(P:Program)(B:Lo)(g:FuncId)(args:Array Value)(Hs:List (Nat×Option Obj))(n:Nat)(out:Value)(Ut:Qp)(n':Nat)(W:List Nat):Prop:=
 ∀H,Under H n->(∀p∈Hs,Qu H p.1=p.2)->nv P B g args H n (.ret out) (Ut++H) n' (Hs.map (·.1)) W
def RJ(P:Program)(B:Lo)(c:CF)(Hs:List (Nat×Option Obj))(n:Nat)(out:Value)(Ut:Qp)(n':Nat)(W:List Nat):Prop:=
 ∀H,Under H n->(∀p∈Hs,Qu H p.1=p.2)->FJ P B c H n (.ret out) (Ut++H) n' (Hs.map (·.1)) W
open Classical in
noncomputable def RM(c:CF)(H1:Qp)(n:Nat)(s:Rs):CF->Qp->Nat->Option Rs:=fun c' H' m'=>if c'=c/\H'=H1/\m'=n then some s else none
theorem PH(c:CF)(H1:Qp)(n:Nat)(s:Rs):RM c H1 n s c H1 n=some s:=by simp[RM]
theorem RJ.recS{P:Program}{B:Lo}{c:CF}{H1:Qp}{n:Nat}{out:Value}{Ut:Qp}{n':Nat}{W keys:List Nat}(hu:Under H1 n)(h:RJ P B c (keys.map fun k=>(k,Qu H1 k)) n out Ut n' W):fw P B (RM c H1 n ⟨.ret out,Ut++H1,n',keys,W⟩):=by
 intro c' H' m' s _ hs;unfold RM at hs;split at hs
 ·rename_i q;obtain⟨rfl,rfl,rfl⟩:=q;simp only[YO]at hs;subst hs;have:=h H' hu (fun p hp=>by
   obtain⟨k,_,rfl⟩:=List.mem_map.1 hp;rfl)
  rw[List.map_map]at this;have e:keys.map ((fun p:Nat×Option Obj=>p.1) ∘ fun k=>(k,Qu H' k))=keys:=List.map_id' _;rw[e]at this;exact this
 ·cases hs
structure Told where
 s:Rs
 p:Option Prop
def Mi(P:Program)(t:TypeId)(H:Qp)(n:Nat)(s x:Value)(cs':Array Value):Option (CR×Prop):=
 match Jl P t with
 |some (.slice e)=>match inf P e with
  |some i=>match i.zero,i.size with
   |some zv,z+1=>match s with
    | .slice (some ⟨b,0,none⟩) k s'=>match Qu H b with
      |some (.cells cs te (0,0))=>match kY H (z+1) x with
       |some (ns,m,bx)=>bif NH te e && NH s' (z+1) && ones ns && NH zv.cells.size (z+1) && NO 0 m then
        some (⟨.val (.slice (some ⟨n,0,none⟩) (k+m) (z+1)),(n,.cells cs' e (0,0))::S8 H (some b),n+1,[bx,b],[b]⟩,cs.size=k*(z+1)/\k+m<=maxLen/\(k+m)*i.bytes<=140737488355328/\cs++ns=cs')
         else none
       |none=>none
      |_=>none
    |_=>none
   |_,_=>none
  |none=>none
 |_=>none

def JS(P:Program)(t:TypeId)(es:Array MapEntry)(ok:Bool)(k v:Value):Prop:=∀H r JX,Qu H r=some (.map es JX)->S4 P t H ok (.map (some r)) k=some (v,[r])
def fx(P:Program)(t:TypeId)(es:Array MapEntry)(JX:Nat)(k v:Value)(UQ:Array MapEntry)(clk':Nat):Prop:=∀H r,Qu H r=some (.map es JX)->UT P t H (.map (some r)) k v=some (V6 H r (.map UQ clk'),r)
def MI(P:Program)(F:FuncId->Bool)(B:Lo)(T:Tm)(o:Oper)(H:Qp)(n:Nat):Option Hint->Option Told
 |none=>match o.op with
  | .fieldAddr s x f=>match Zd T x with
    |some (.pointer (some ⟨b,off,some 0⟩))=>match Wx P s f (.pointer (some ⟨b,off,none⟩))with
     |some (.pointer (some ⟨b',off',none⟩))=>some ⟨⟨.ret (.pointer (some ⟨b',off',some 0⟩)),H,n,[],[]⟩,none⟩
     |_=>none
    |_=>match b6 P F Xw (fun _ _ _=>none) T o H n with|some s=>some ⟨s,none⟩|none=>none
  |_=>match b6 P F Xw (fun _ _ _=>none) T o H n with|some s=>some ⟨s,none⟩|none=>none
 |some (.val v)=>match b6 P F Xw (fun _ _ _=>none) T o H n with
  |some ⟨.ret u,H1,n1,R,W⟩=>some ⟨⟨.ret v,H1,n1,R,W⟩,some (Ni u v)⟩
  |_=>none
 |some (.idx k)=>match o.op with
  | .indexAddr t x i=>match Zd T x,Zd T i with
    |some (.slice (some ⟨b,off,sp⟩) len _),some (.int _ q)=>match Jl P t with
     |some (.slice e)=>match WN P e with
      |some z=>bif Ka sp then some ⟨⟨.ret (.pointer (some ⟨b,off+k*z,sp⟩)),H,n,[],[]⟩,some (q=(k:Int)/\k<len)⟩else none
      |none=>none
     |_=>none
    |some (.pointer (some ⟨b,off,sp⟩)),some (.int _ q)=>match Jl P t with
     |some (.array len e)=>match WN P e with
      |some z=>bif Ka sp then some ⟨⟨.ret (.pointer (some ⟨b,off+k*z,sp⟩)),H,n,[],[]⟩,some (q=(k:Int)/\k<len)⟩else none
      |none=>none
     |_=>none
    |_,_=>none
  |_=>none
 |some (.ld v)=>match o.op with
  | .load t a=>match Zd T a with
    |some (.pointer (some ⟨b,off,none⟩))=>match Qu H b with
     |some (.cells cs _ _)=>bif NO b n then match nq P t with
      |some true=>match WN P t,v with
       |some z,.agg xs=>some ⟨⟨.ret v,H,n,[b],[]⟩,some (off+z<=cs.size/\cs.extract off (off+z)=xs)⟩
       |_,_=>none
      |some false=>some ⟨⟨.ret v,H,n,[b],[]⟩,some (cs[off]? =some v)⟩
      |none=>none
      else none
     |_=>none
    |_=>none
  |_=>none
 |some (.raw v)=>match o.op with
  | .load t a=>match Zd T a with
    |some (.pointer (some ⟨b,off,some 0⟩))=>match nq P t with
     |some true=>match WN P t,v with
      |some z,.agg xs=>bif NH xs.size z then some ⟨⟨.ret v,H,n,[],[]⟩,some (∀(j:Nat) u,xs[j]? =some u->zV B b (off+j) u)⟩else none
      |_,_=>none
     |some false=>some ⟨⟨.ret v,H,n,[],[]⟩,some (zV B b off v)⟩
     |none=>none
    |_=>none
  |_=>none
 |some (.eq b)=>match o.op with
  | .binOp op t x y _=>match Zd T x,Zd T y with
    |some (.agg xs),some (.agg ys)=>bif P.eqGuardType P.depth t then none else match op with
     | .eql=>match Mq P 100 t (.agg xs) (.agg ys)with
       |some r=>bif VH (.agg xs) && VH (.agg ys)then some ⟨⟨.ret (.bool b),H,n,[],[]⟩,some (r=b)⟩else none
       |none=>none
     | .neq=>match Mq P 100 t (.agg xs) (.agg ys)with
       |some r=>bif VH (.agg xs) && VH (.agg ys)then some ⟨⟨.ret (.bool b),H,n,[],[]⟩,some ((!r)=b)⟩else none
       |none=>none
     |_=>none
    |_,_=>none
  |_=>none
 |some (.len m)=>match o.op with
  | .call c=>match c.callee with
    | .builtin .len=>match c.args.toList,c.argTypes.toList with
      |[x],[t]=>match Zd T x,Jl P t with
       |some v,some (.slice _)=>some ⟨⟨.ret (.int .i64 m),H,n,[],[]⟩,some (Gu v m)⟩
       |_,_=>none
      |_,_=>none
    |_=>none
  |_=>none
 |some (.app cs')=>match o.op with
  | .call c=>match c.callee with
    | .builtin .append=>match c.args.toList,c.argTypes.toList with
      |[s,x],[t,t']=>bif NH t t' then
       match Zd T s,Zd T x with
       |some sv,some xv=>match Mi P t H n sv xv cs' with
        |some (⟨.val v,H1,n1,R,W⟩,p)=>bif R.all (fun i=>NO i n)then some ⟨⟨.ret v,H1,n1,R,W⟩,some p⟩else none
        |_=>none
       |_,_=>none
        else none
      |_,_=>none
    |_=>none
  |_=>none
 |some (.mk m cs)=>match o.op with
  | .makeSlice t l c=>match Zd T l,Zd T c with
    |some x,some y=>match Jl P t with
     |some (.slice e)=>match WN P e with
      |some z=>some ⟨⟨.ret (.slice (some ⟨n,0,none⟩) m z),(n,.cells cs e (0,0))::H,n+1,[],[]⟩,some (S9 P t x y=some (e,cs,m,z))⟩
      |none=>none
     |_=>none
    |_,_=>none
  |_=>none
 |some (.st cs')=>match o.op with
  | .store t a x=>match Zd T a,Zd T x with
    |some (.pointer (some ⟨b,off,none⟩)),some v=>match Qu H b with
     |some (.cells cs te (0,0))=>match WN P t with
      |some z=>bif NO b n && NH v.cells.size z && ones v.cells then some ⟨⟨.ret undef,V6 H b (.cells cs' te (0,0)),n,[b],[b]⟩,some (off+z<=cs.size/\splice cs off v.cells=cs')⟩else none
      |none=>none
     |_=>none
    |_,_=>none
  |_=>none
 |some (.call keys out Ut n' W)=>match o.op with
  | .call _=>match P9 P F (Zd T) o H n with
    |some ⟨.enter g args,H1,n1,R,W1⟩=>bif NH n1 n && W1.isEmpty then some ⟨⟨.ret out,Ut++H1,n',R++keys,W⟩,some (CJ P B g args (keys.map fun k=>(k,Qu H1 k)) n out Ut n' W)⟩else none
    |some ⟨.round l fn tm a b,H1,n1,R,W1⟩=>bif NH n1 n && W1.isEmpty && Oo tm.size 16000 then some ⟨⟨.ret out,Ut++H1,n',R++keys,W⟩,some (RJ P B ⟨fn,ofList tm.size tm.toList,[.code a,.beginRound,.code b],[],.run,some l⟩ (keys.map fun k=>(k,Qu H1 k)) n out Ut n' W)⟩else none
    |_=>none
  |_=>none
 |some (.look v)=>match o.op with
  | .lookup t x k ok=>match Zd T x,Zd T k with
    |some (.map (some r)),some kv=>match Qu H r with
     |some (.map es _)=>bif NO r n then some ⟨⟨.ret v,H,n,[r],[]⟩,some (JS P t es ok kv v)⟩else none
     |_=>none
    |_,_=>none
  |_=>none
 |some (.upd UQ clk')=>match o.op with
  | .mapUpdate t m k x=>match Zd T m,Zd T k,Zd T x with
    |some (.map (some r)),some kv,some v=>match Qu H r with
     |some (.map es JX)=>bif NO r n then some ⟨⟨.ret undef,V6 H r (.map UQ clk'),n,[r],[r]⟩,some (fx P t es JX kv v UQ clk')⟩else none
     |_=>none
    |_,_,_=>none
  |_=>none
 |some .nil=>match o.op with
  | .call c=>match c.callee with
    | .builtin .append=>match c.args.toList,c.argTypes.toList with
      |[s,x],[t,t']=>bif NH t t' then match Zd T s,Zd T x with
       |some (.slice none 0 0),some (.slice none 0 0)=>match Jl P t with
        |some (.slice e)=>match WN P e with
         |some _=>some ⟨⟨.ret (.slice none 0 0),H,n,[],[]⟩,none⟩
         |none=>none
        |_=>none
       |_,_=>none
        else none
      |_,_=>none
    |_=>none
  |_=>none
section
variable {P:Program} {F:FuncId->Bool} {B:Lo} {T:Tm} {o:Oper} {H:Qp} {n:Nat}
theorem YW:fw P B (fun _ _ _=>none):=fun _ _ _ _ _ h=>by cases h
theorem U5{v:Value}{ev:Operand->Option Value}(hd:∀c,o.op≠.defer c)(h:∀(μ:Mu) (w:World) (ρ:Operand->Value),B.has w->(∀x∈o.op.operands,∀v,ev x=some v->VR μ v (ρ x))->∃v',(execOp ρ o).run P w=.ok (.value v') w/\VR μ v v'):
 RB P B o ev H n (.ret v) H n [] []:=fun _ μ w fr _ _ _ _ _ QD hB _ _ XN _ hm ht ho hw=>
 let⟨v',h1,h2⟩:=h μ w fr.eval hB XN
 ⟨.ret v',w,μ,Post.refl QD,.ret h2,JC hm ht ho hw hd h1⟩
theorem TB{s:TypeId}{f b off:Nat}{b' off':Nat}(h:Wx P s f (.pointer (some ⟨b,off,none⟩))=some (.pointer (some ⟨b',off',none⟩)))(w:World):b'=b/\(Instr.fieldAt s (.pointer (some ⟨b,off,none⟩)) f).run P w=.ok (.pointer (some ⟨b',off',none⟩)) w:=by
 unfold Wx at h;simp only[Z1]at h;split at h
 ·rename_i fields hu;cases hfd:fields[f]? with
  |none=>rw[hfd]at h;cases h
  |some fd=>
   rw[hfd]at h;dsimp only at h;split at h
   ·rename_i z hz;simp only[YO,Value.pointer.injEq,Addr.mk.injEq,and_true]at h;obtain⟨rfl,rfl⟩:=h;refine⟨rfl, ?_⟩;simp only[Instr.fieldAt,Sem.run_bind,run_underlying hu,Result.andThen_ok,hfd,Instr.sureAddr,Sem.run_pure,fieldPlace,Zm hz,WL];simp
   ·cases h
 ·cases h
theorem oV{t e:TypeId}{b off len c z k:Nat}{q:Int}{kk:IntKind}(hu:Jl P t=some (.slice e))(hz:WN P e=some z)(hq:q=(k:Int))(hk:k<len)(w:World):
 (Instr.indexAt t (.slice (some ⟨b,off,none⟩) len c) (.int kk q)).run P w=.ok (.pointer (some ⟨b,off+k*z,none⟩)) w:=by
 rw[Z1]at hu;subst hq;have hc:0<=(k:Int)/\(k:Int)<len:=by omega
 simp only[Instr.indexAt,Sem.run_bind,asIntOf,Sem.run_pure,Result.andThen_ok,run_underlying hu,hc,and_self,if_true,Zm hz,WL,Int.toNat_natCast]
theorem dQ{t e:TypeId}{b off len z k:Nat}{q:Int}{kk:IntKind}(hu:Jl P t=some (.array len e))(hz:WN P e=some z)(hq:q=(k:Int))(hk:k<len)(w:World):
 (Instr.indexAt t (.pointer (some ⟨b,off,none⟩)) (.int kk q)).run P w=.ok (.pointer (some ⟨b,off+k*z,none⟩)) w:=by
 rw[Z1]at hu;subst hq;have hc:0<=(k:Int)/\(k:Int)<len:=by omega
 simp only[Instr.indexAt,Sem.run_bind,asIntOf,Sem.run_pure,Result.andThen_ok,run_underlying hu,Instr.sureAddr,hc,and_self,if_true,Zm hz,WL,Int.toNat_natCast]
theorem I8{μ:Mu}{b off k z:Nat}{sp:Option Nat}{v':Value}(hsp:Ka sp=true)(h:VR μ (.pointer (some ⟨b,off,sp⟩)) v'):∃b' off',v'=.pointer (some ⟨b',off',none⟩)/\VR μ (.pointer (some ⟨b,off+k*z,sp⟩)) (.pointer (some ⟨b',off'+k*z,none⟩)):=by
 cases h with
 |ptr har=>
  obtain⟨im,h1,h2,rfl⟩:=har;simp only at h2;subst h2;exact⟨_,_,rfl,.ptr ⟨im,h1,rfl,by simp[Nat.add_assoc]⟩⟩
 |KC _ _ q=>
  cases q with
  |zero=>exact⟨_,_,rfl,.KC _ _ 0⟩
  |succ q=>cases hsp
theorem C9{μ:Mu}{b off len s k z:Nat}{sp:Option Nat}{v':Value}(hsp:Ka sp=true)(h:VR μ (.slice (some ⟨b,off,sp⟩) len s) v'):∃b' off' c',v'=.slice (some ⟨b',off',none⟩) len c'/\VR μ (.pointer (some ⟨b,off+k*z,sp⟩)) (.pointer (some ⟨b',off'+k*z,none⟩)):=by
 cases h with
 |slice har=>
  obtain⟨im,h1,h2,rfl⟩:=har;simp only at h2;subst h2;exact⟨_,_,_,rfl,.ptr ⟨im,h1,rfl,by simp[Nat.add_assoc]⟩⟩
 |rawSlice _ _ q=>
  cases q with
  |zero=>exact⟨_,_,_,rfl,.KC _ _ 0⟩
  |succ q=>cases hsp
theorem mJ{μ:Mu}{k:IntKind}{q:Int}{v':Value}(h:VR μ (.int k q) v'):v'=.int k q:=by cases h;rfl
theorem nE{t e ty:TypeId}{z:Nat}(hu:Jl P t=some (.slice e))(hz:WN P e=some z)(w:World):(Builtin.append_ #[t,t] ty #[.slice none 0 0,.slice none 0 0]).run P w=.ok (.slice none 0 0) w:=by
 rw[Z1]at hu;simp[Builtin.append_,Sem.run_bind,run_underlying hu,Result.andThen_ok,Zm hz,Builtin.lenOf,Builtin.firstCells,Sem.run_pure]
theorem oO(hF:∀g,F g=true->QA P g=true)(hu:Under H n){h:Option Hint}{a:Told}(e:MI P F B T o H n h=some a)(hp:∀p,a.p=some p->p):
 RB P B o (Zd T) H n a.s.out a.s.H a.s.n a.s.R a.s.W/\Shape H n a.s.H a.s.n a.s.R a.s.W:=by
 have plain:∀{s:Rs},b6 P F Xw (fun _ _ _=>none) T o H n=some s->RB P B o (Zd T) H n s.out s.H s.n s.R s.W/\Shape H n s.H s.n s.R s.W:=fun h=>KK hF YW (QL P B) hu h
 have plain':(match b6 P F Xw (fun _ _ _=>none) T o H n with|some s=>some (⟨s,none⟩:Told)|none=>none)=some a->RB P B o (Zd T) H n a.s.out a.s.H a.s.n a.s.R a.s.W/\Shape H n a.s.H a.s.n a.s.R a.s.W:=by
  intro h;split at h
  ·rename_i s hs;simp only[YO]at h;subst h;exact plain hs
  ·cases h
 unfold MI at e;split at e
 ·-- nothing is told
  split at e
  ·rename_i s x f Zi;split at e
   ·rename_i b off hx;split at e
    ·rename_i b' off' hc;simp only[YO]at e;subst e;refine⟨U5 (fun c h=>by rw[Zi]at h;cases h) fun μ w ρ _ XN=> ?_,Shape.same _ _ _⟩;have hv:=XN x (by simp[Zi,Op.operands]) _ hx;obtain⟨rfl,hr⟩:=TB (P:=P) hc w;generalize hg:ρ x=u at hv;cases hv with
     |ptr har=>obtain⟨im,_,h2,_⟩:=har;cases h2
     |KC=>exact⟨_,by simp[execOp,Zi,hg,hr,ji],.KC _ _ 0⟩
    ·cases e
   ·exact plain' e
  ·exact plain' e
 ·-- a value
  rename_i v;split at e
  ·rename_i u H1 n1 R W hs;simp only[YO]at e;subst e;have:=Lg (hp _ rfl);subst this;exact plain hs
  ·cases e
 ·-- an element's address
  rename_i k;split at e
  ·rename_i t x i Zi;split at e
   ·rename_i b off sp len c kk q hx hi;split at e
    ·rename_i el hue;split at e
     ·rename_i z hz;have hsp:Ka sp=true:=by
       cases h:Ka sp with
       |true=>rfl
       |false=>rw[h]at e;cases e
      rw[hsp]at e;simp only[cond_true,YO]at e;subst e;obtain⟨hq,hk⟩:=hp _ rfl;refine⟨U5 (fun c h=>by rw[Zi]at h;cases h) fun μ w ρ _ XN=> ?_,Shape.same _ _ _⟩;obtain⟨b',off',c',h1,h2⟩:=C9 (k:=k) (z:=z) hsp (XN x (by simp[Zi,Op.operands]) _ hx);have h3:=mJ (XN i (by simp[Zi,Op.operands]) _ hi);exact⟨_,by simp[execOp,Zi,h1,h3,oV hue hz hq hk],h2⟩
     ·cases e
    ·cases e
   ·rename_i b off sp kk q hx hi;split at e
    ·rename_i len el hue;split at e
     ·rename_i z hz;have hsp:Ka sp=true:=by
       cases h:Ka sp with
       |true=>rfl
       |false=>rw[h]at e;cases e
      rw[hsp]at e;simp only[cond_true,YO]at e;subst e;obtain⟨hq,hk⟩:=hp _ rfl;refine⟨U5 (fun c h=>by rw[Zi]at h;cases h) fun μ w ρ _ XN=> ?_,Shape.same _ _ _⟩;obtain⟨b',off',h1,h2⟩:=I8 (k:=k) (z:=z) hsp (XN x (by simp[Zi,Op.operands]) _ hx);have h3:=mJ (XN i (by simp[Zi,Op.operands]) _ hi);exact⟨_,by simp[execOp,Zi,h1,h3,dQ hue hz hq hk],h2⟩
     ·cases e
    ·cases e
   ·cases e
  ·cases e
 ·-- a load of one's own
  rename_i v;split at e
  ·rename_i t x Zi;split at e
   ·rename_i b off hx;split at e
    ·rename_i cs te fz hg;have key:NO b n=true->K5 P t cs off=some v->RB P B o (Zd T) H n (.ret v) H n [b] []/\Shape H n H n [b] []:=by
      intro hb hc;refine plain (s:=⟨.ret v,H,n,[b],[]⟩) ?_;have hcop:rK P F (Zd T) o H n=some ⟨.val v,H,n,[b],[]⟩:=by simp[rK,Zi,hx,R8,hg,hc]
      have hcr:P9 P F (Zd T) o H n=some ⟨.val v,H,n,[b],[]⟩:=by simp[P9,hcop,hb]
      simp[b6,Zi,hcr]
     have e:=KU (q:=NO b n) e;have hb:NO b n=true:=by
      have:=hu.lt hg;exact Od this
     split at e
     ·rename_i hag;split at e
      ·rename_i z xs hz _;simp only[YO]at e;subst e;obtain⟨h1,h2⟩:=hp _ rfl;refine key hb ?_;simp only[K5,hag,hz,Od h1,cond_true,h2]
      ·cases e
     ·rename_i hag;simp only[YO]at e;subst e;refine key hb ?_;simp only[K5,hag];exact hp _ rfl
     ·cases e
    ·cases e
   ·cases e
  ·cases e
 ·-- a load of memory Y2 nobody writes
  rename_i v;split at e
  ·rename_i t x Zi;split at e
   ·rename_i b off hx;split at e
    ·rename_i hag;split at e
     ·rename_i z xs hz;cases Z0:NH xs.size z with
      |false=>rw[Z0]at e;cases e
      |true=>
       rw[Z0]at e;simp only[cond_true,YO]at e;subst e;have Z0:=YE Z0;have hc:=hp _ rfl;refine⟨U5 (fun c h=>by rw[Zi]at h;cases h) fun μ w ρ hB XN=> ?_,Shape.same _ _ _⟩;have hv:=XN x (by simp[Zi,Op.operands]) _ hx;have hf:∀j,j<z->∃v,xs[j]? =some v/\w.cell? ⟨b,off+j,none⟩=some ((w.cell? ⟨b,off+j,none⟩).getD undef)/\VR μ v ((w.cell? ⟨b,off+j,none⟩).getD undef):=by
        intro j hj;have Xm:j<xs.size:=by omega
        obtain⟨v',a,b⟩:=hc j xs[j] (by simp[Xm]) w hB;exact⟨xs[j],by simp[Xm],by simp[a],by simpa[a]using b μ⟩
       have hr:=run_loadCells (P:=P) w ⟨b,off,none⟩ z (fun j=>(w.cell? ⟨b,off+j,none⟩).getD undef) (fun j hj=>by
        obtain⟨_,_,hc,_⟩:=hf j hj;rw[WL];exact hc)
       generalize hg:ρ x=u at hv;cases hv with
       |ptr har=>obtain⟨im,_,h2,_⟩:=har;cases h2
       |KC=>
        refine⟨.agg _,by simp[execOp,Zi,hg,Instr.loadAt,Instr.sureAddr,loadVar,U7 hag,Zm hz,ji,hr];rfl,.agg (by simp[Z0]) fun i v v' hv ZY=> ?_⟩;have hi:i<z:=by
         have:=(Array.getElem?_eq_some_iff.1 hv).1;omega
        obtain⟨u,h1,_,h2⟩:=hf i hi;rw[hv]at h1;cases h1;simp[hi]at ZY;rw[<-ZY];exact h2
     ·cases e
    ·rename_i hag;simp only[YO]at e;subst e;have hc:=hp _ rfl;refine⟨U5 (fun c h=>by rw[Zi]at h;cases h) fun μ w ρ hB XN=> ?_,Shape.same _ _ _⟩;have hv:=XN x (by simp[Zi,Op.operands]) _ hx;obtain⟨v',h1,h2⟩:=hc w hB;generalize hg:ρ x=u at hv;cases hv with
     |ptr har=>obtain⟨im,_,h2,_⟩:=har;cases h2
     |KC=>exact⟨v',by simp[execOp,Zi,hg,Instr.loadAt,Instr.sureAddr,loadVar,U7 hag,run_load,ji,h1],h2 μ⟩
    ·cases e
   ·cases e
  ·cases e
 ·-- a comparison of structs
  rename_i b;split at e
  ·rename_i op t x y ty Zi;split at e
   ·rename_i xs ys hx hy;cases hgt:P.eqGuardType P.depth t with
    |true=>rw[hgt]at e;cases e
    |false=>
     rw[hgt]at e;simp only[cond_false]at e;have vals:VH (.agg xs)=true->VH (.agg ys)=true->∀(μ:Mu) (ρ:Operand->Value),(∀x∈o.op.operands,∀v,Zd T x=some v->VR μ v (ρ x))->ρ x=.agg xs/\ρ y=.agg ys:=fun h1 h2 μ ρ XN=>
      ⟨RA h1 (XN x (by simp[Zi,Op.operands]) _ hx),RA h2 (XN y (by simp[Zi,Op.operands]) _ hy)⟩
     split at e
     ·split at e
      ·rename_i r hr;cases hl:(VH (.agg xs) && VH (.agg ys))with
       |false=>simp only[hl]at e;cases e
       |true=>
        simp only[hl,cond_true,YO]at e;subst e;have Km:r=b:=hp _ rfl;subst Km;simp only[YB]at hl;refine⟨U5 (fun c h=>by rw[Zi]at h;cases h) fun μ w ρ _ XN=> ?_,Shape.same _ _ _⟩;obtain⟨e1,e2⟩:=vals hl.1 hl.2 μ ρ XN;refine⟨.bool r, ?_,.bool _⟩;simp[execOp,Zi,e1,e2,run_eqGuard_agg w _ t x y xs ys hgt,run_eql_struct,rj 100 t _ _ r hr 10000 w (by omega)]
      ·cases e
     ·split at e
      ·rename_i r hr;cases hl:(VH (.agg xs) && VH (.agg ys))with
       |false=>simp only[hl]at e;cases e
       |true=>
        simp only[hl,cond_true,YO]at e;subst e;have Km:(!r)=b:=hp _ rfl;subst Km;simp only[YB]at hl;refine⟨U5 (fun c h=>by rw[Zi]at h;cases h) fun μ w ρ _ XN=> ?_,Shape.same _ _ _⟩;obtain⟨e1,e2⟩:=vals hl.1 hl.2 μ ρ XN;refine⟨.bool (!r), ?_,.bool _⟩;simp[execOp,Zi,e1,e2,run_eqGuard_agg w _ t x y xs ys hgt,binOp,Op.equal,Op.maxDepth,rj 100 t _ _ r hr 10000 w (by omega)]
      ·cases e
     ·cases e
   ·cases e
  ·cases e
 ·-- a slice's length
  rename_i m;split at e
  ·rename_i c Zi;split at e
   ·rename_i hc;split at e
    ·rename_i x t ha ht;split at e
     ·rename_i v el hx hu;rw[Z1]at hu;simp only[YO]at e;subst e;refine⟨U5 (fun c h=>by rw[Zi]at h;cases h) fun μ w ρ hB XN=> ?_,Shape.same _ _ _⟩;have ea:c.args=#[x]:=by rw[<-ha]
      have et:c.argTypes=#[t]:=by rw[<-ht]
      obtain⟨a,cp,hv⟩:=hp _ rfl μ _ (XN x (by simp[Zi,Op.operands,Call.operands,hc,ea]) _ hx);refine⟨.int .i64 m, ?_,.int _ _⟩;simp[execOp,Zi,resolve,hc,invoke,builtin,ea,et,hv,Builtin.len_,run_underlying hu,goInt]
     ·cases e
    ·cases e
   ·cases e
  ·cases e
 ·-- append
  rename_i cs';split at e
  ·rename_i c Zi;split at e
   ·rename_i hcal;split at e
    ·rename_i s x t t' ha ht;cases htt:NH t t' with
     |false=>rw[htt]at e;cases e
     |true=>
      rw[htt]at e;simp only[cond_true]at e;split at e
      ·rename_i sv xv hs hx;split at e
       ·rename_i v H1 n1 R W p hap;cases hR:R.all (fun i=>NO i n)with
        |false=>rw[hR]at e;cases e
        |true=>
         rw[hR]at e;simp only[cond_true,YO]at e;subst e;have hpp:p:=hp _ rfl;refine plain (s:=⟨.ret v,H1,n1,R,W⟩) ?_;have hca:VQ P t H n sv xv=some ⟨.val v,H1,n1,R,W⟩:=by
          unfold Mi at hap;unfold VQ;split at hap
          ·rename_i e1 hue;rw[hue];simp only;split at hap
           ·rename_i inf1 hinf;rw[hinf];simp only;split at hap
            ·rename_i zv z hzv Z0;rw[hzv,Z0];simp only;split at hap
             ·rename_i b k s';split at hap
              ·rename_i cs te hg;split at hap
               ·rename_i ns m bx hns;cases hq:(NH te e1 && NH s' (z+1) && ones ns && NH zv.cells.size (z+1) && NO 0 m)with
                |false=>rw[hq]at hap;cases hap
                |true=>
                 rw[hq]at hap;simp only[cond_true,YO,YR,CR.mk.injEq,CN.val.injEq]at hap;obtain⟨⟨rfl,rfl,rfl,rfl,rfl⟩,rfl⟩:=hap;obtain⟨p1,p2,p3,p4⟩:=hpp;simp only[YB]at hq;obtain⟨⟨⟨⟨q1,q2⟩,q3⟩,q4⟩,q5⟩:=hq;have hh:P6 H e1 (z+1) (.slice (some ⟨b,0,none⟩) k s')=some (cs,k,some b):=by
                  simp[P6,hg,YE q1,YE q2,p1]
                 rw[hh,hns];simp only[q3,q4,q5,Od p2,Od p3,Bool.and_self,cond_true,p4];rfl
               ·cases hap
              ·cases hap
             ·cases hap
            ·cases hap
           ·cases hap
          ·cases hap
         have hbr:bare sv=sv:=by
          unfold bare;split
          ·exfalso;unfold Mi at hap;repeat' (first|(cases hap;done)|split at hap)
          ·rfl
         have hcop:rK P F (Zd T) o H n=some ⟨.val v,H1,n1,R,W⟩:=by simp[rK,Zi,hcal,ha,ht,hs,hx,wA,htt,hbr,hca]
         have hcr:P9 P F (Zd T) o H n=some ⟨.val v,H1,n1,R,W⟩:=by
          simp only[P9,hcop,hR,cond_true]
         simp[b6,Zi,hcr]
       ·cases e
      ·cases e
    ·cases e
   ·cases e
  ·cases e
 ·-- make
  rename_i m cs;split at e
  ·rename_i t l c Zi;split at e
   ·rename_i x y hx hy;split at e
    ·rename_i el St;split at e
     ·rename_i z hz;simp only[YO]at e;subst e;have hc:=hp _ rfl;exact plain (s:=⟨.ret (.slice (some ⟨n,0,none⟩) m z),(n,.cells cs el (0,0))::H,n+1,[],[]⟩) (by simp[b6,Zi,P9,rK,hx,hy,hc])
     ·cases e
    ·cases e
   ·cases e
  ·cases e
 ·-- a store
  rename_i cs';split at e
  ·rename_i t ad x Zi;split at e
   ·rename_i b off v hx hy;split at e
    ·rename_i cs te hg;split at e
     ·rename_i z hz;cases hq:(NO b n && NH v.cells.size z && ones v.cells)with
      |false=>rw[hq]at e;cases e
      |true=>
       rw[hq]at e;simp only[cond_true,YO]at e;subst e;obtain⟨h1,h2⟩:=hp _ rfl;simp only[YB]at hq;have XZ:PA P t H v (.pointer (some ⟨b,off,none⟩))=some (V6 H b (.cells cs' te (0,0)),b):=by
        simp only[PA,hg,hz,hq.1.2,hq.2,Od h1,Bool.and_self,cond_true,h2]
       exact plain (s:=⟨.ret undef,V6 H b (.cells cs' te (0,0)),n,[b],[b]⟩) (by simp[b6,Zi,P9,rK,hx,hy,XZ,hq.1.1])
     ·cases e
    ·cases e
   ·cases e
  ·cases e
 ·-- a call
  rename_i keys out Ut n' W;split at e
  ·rename_i c Zi;split at e
   ·rename_i g args H1 n1 R W1 hcr;cases hn:(NH n1 n && W1.isEmpty)with
    |false=>rw[hn]at e;cases e
    |true=>
     rw[hn]at e;simp only[cond_true,YO]at e;subst e;simp only[YB,List.isEmpty_iff]at hn;obtain⟨JZ,rfl⟩:=hn;have JZ:=YE JZ;subst JZ;have St:Under H1 n1:=hu.shape (fi hu (na hcr).1);have hcj:=hp _ rfl H1 St (fun p hp=>by
      obtain⟨k,_,rfl⟩:=List.mem_map.1 hp;rfl)
     have hk:(keys.map fun k=>(k,Qu H1 k)).map (·.1)=keys:=by
      rw[List.map_map];exact List.map_id' _
     rw[hk]at hcj;have Wl:WB P B (fun g' a' H' m'=>open Classical in if g'=g/\a'=args/\H'=H1/\m'=n1 then some ⟨.ret out,Ut++H1,n',keys,W⟩else none):=by
      intro g' a' H' m' s _ h;simp only at h;split at h
      ·rename_i q;obtain⟨rfl,rfl,rfl,rfl⟩:=q;simp only[YO]at h;subst h;exact hcj
      ·cases h
     have:=KK hF YW Wl hu (T:=T) (o:=o) (s:=⟨.ret out,Ut++H1,n',R++keys,W⟩) (by
      simp[b6,Zi,hcr])
     exact this
   ·rename_i l fn tm cda cdb H1 n1 R W1 hcr;cases hn:(NH n1 n && W1.isEmpty && Oo tm.size 16000)with
    |false=>rw[hn]at e;cases e
    |true=>
     rw[hn]at e;simp only[cond_true,YO]at e;subst e;simp only[YB,List.isEmpty_iff]at hn;obtain⟨⟨JZ,rfl⟩,Z0⟩:=hn;have JZ:=YE JZ;subst JZ;have St:Under H1 n1:=hu.shape (fi hu (na hcr).1);have hrj:=hp _ rfl;have Vu:=RJ.recS St hrj;have:=KK hF Vu (QL P B) hu (T:=T) (o:=o) (s:=⟨.ret out,Ut++H1,n',R++keys,W⟩) (by
      simp[b6,Zi,hcr,Z0,PH])
     exact this
   ·cases e
  ·cases e
 ·-- what is found in a map
  rename_i v;split at e
  ·rename_i t x k ok Zi;split at e
   ·rename_i r kv hx hk;split at e
    ·rename_i es JX hg;cases hq:NO r n with
     |false=>rw[hq]at e;cases e
     |true=>
      rw[hq]at e;simp only[cond_true,YO]at e;subst e;have hl:=hp _ rfl H r JX hg;exact plain (s:=⟨.ret v,H,n,[r],[]⟩) (by simp[b6,Zi,P9,rK,hx,hk,hl,hq])
    ·cases e
   ·cases e
  ·cases e
 ·-- what a map becomes
  rename_i UQ clk';split at e
  ·rename_i t m k x Zi;split at e
   ·rename_i r kv v hm hk hx;split at e
    ·rename_i es JX hg;cases hq:NO r n with
     |false=>rw[hq]at e;cases e
     |true=>
      rw[hq]at e;simp only[cond_true,YO]at e;subst e;have hl:=hp _ rfl H r hg;exact plain (s:=⟨.ret undef,V6 H r (.map UQ clk'),n,[r],[r]⟩) (by simp[b6,Zi,P9,rK,hm,hk,hx,hl,hq])
    ·cases e
   ·cases e
  ·cases e
 ·-- nothing behind nothing
  split at e
  ·rename_i c Zi;split at e
   ·rename_i hcal;split at e
    ·rename_i s x t t' ha ht;cases htt:NH t t' with
     |false=>rw[htt]at e;cases e
     |true=>
      rw[htt]at e;simp only[cond_true]at e;have htt:=YE htt;subst htt;split at e
      ·rename_i hs hx;split at e
       ·rename_i el hue;split at e
        ·rename_i z hz;simp only[YO]at e;subst e;have ea:c.args=#[s,x]:=by rw[<-ha]
         have et:c.argTypes=#[t,t]:=by rw[<-ht]
         refine⟨U5 (fun c h=>by rw[Zi]at h;cases h) fun μ w ρ _ XN=> ?_,Shape.same _ _ _⟩;have h1:=RA (v:=.slice none 0 0) rfl (XN s (by simp[Zi,Op.operands,Call.operands,hcal,ea]) _ hs);have h2:=RA (v:=.slice none 0 0) rfl (XN x (by simp[Zi,Op.operands,Call.operands,hcal,ea]) _ hx);refine⟨.slice none 0 0, ?_,.JE 0 0⟩;have hr:=nE (ty:=o.type) hue hz w;simp[execOp,Zi,resolve,hcal,invoke,builtin,ea,et,hr,h1,h2]
        ·cases e
       ·cases e
      ·cases e
    ·cases e
   ·cases e
  ·cases e
end
end Go.CE

namespace Go.CE
open Go Go.RowKit

def Q7:List Prop->Prop
 |[]=>True
 |p::l=>p/\Q7 l
abbrev rD:=List (Nat×Hint)
def told(sc:rD)(q:Nat):Option Hint×rD:=match sc with
 |(k,h)::l=>bif NH k q then(some h,l)else(none,sc)
 |[]=>(none,[])
structure RR where
 Qy:List Rec
 T:Tm
 H:Qp
 n:Nat
 sc:rD
 q:Nat
 L:List Prop
def more(p:Option Prop)(L:List Prop):List Prop:=match p with|some p=>p::L|none=>L
def IG(P:Program)(F:FuncId->Bool)(B:Lo)(ops:Array Oper):List Oper->Tm->Qp->Nat->rD->Nat->List Prop->Option RR
 |[],T,H,n,sc,q,L=>some ⟨[],T,H,n,sc,q,L⟩
 |o::l,T,H,n,sc,q,L=>
  bif JO T o.dst then
   bif Region.wanted o (XI ops T)then
    match told sc q with
    |(h,sc')=>match MI P F B T o H n h with
     |some ⟨⟨.ret v,H1,n1,R,W⟩,p⟩=>match IG P F B ops l (Vy T o.dst v) H1 n1 sc' (q+1) (more p L)with
      |some r=>some {r with Qy:=⟨o,true,v,T,H,H1,n,n1,R,W⟩::r.Qy}
      |none=>none
     |_=>none
   else match IG P F B ops l (Vy T o.dst undef) H n sc (q+1) L with
    |some r=>some {r with Qy:=⟨o,false,undef,T,H,H,n,n,[],[]⟩::r.Qy}
    |none=>none
  else none
inductive SR where
 |at (c:CF) (H:Qp) (n:Nat)
 |fin (out:OO) (H:Qp) (n:Nat)
structure ST where
 r:SR
 W:List Nat
 L:List Prop
def F5(P:Program)(F:FuncId->Bool)(B:Lo)(c:CF)(H:Qp)(n:Nat)(f:Operand)(params:Array Tmp)(assign body:Code)(k:List Item)(keys:List Nat)(out:Value)(Ut:Qp)(n':Nat)(W:List Nat):Option (CF×Qp×Prop):=
 match Zd c.tmps f with
 |some fv=>match U2 c H n params assign body with
  |some (H1,l,ds,_)=>match Pv F H1 fv #[.func (.yield l) #[] #[]]with
   |some (.enter g args,_)=>match Wo P g args with
    |some c1=>some ({c with todo:=.endRangeFunc l::k,defers:=ds++c.defers},Ut++H1,RJ P B c1 (keys.map fun k=>(k,Qu H1 k)) (l+1) out Ut n' W)
    |none=>none
   |_=>none
  |none=>none
 |none=>none
section
variable {P:Program} {F:FuncId->Bool} {B:Lo}
theorem dH{p:Option Prop}{L:List Prop}(h:Q7 (more p L)):(∀x,p=some x->x)/\Q7 L:=by
 cases p with
 |none=>exact⟨(fun x h=>by cases h),h⟩
 |some p=>exact⟨(fun x e=>by cases e;exact h.1),h.2⟩
theorem re{c:CF}{H:Qp}{n:Nat}(XS:P.follows .mixedOrders=true){id:Nat}{ops:Array Oper}{draw:Bool}{k:List Item}{Qy:List Rec}{T':Tm}{H':Qp}{n':Nat}(hm:c.mode=.run)
 (ht:c.todo=.code (.region id ops draw)::k) (hs:∀x∈Qy,aJ c.tmps.len x) (hk:∀x∈Qy,Pz P B ops x) (P7:Kk Qy c.tmps H n T' H' n') (hmap:Qy.map (·.o)=ops.toList) (hd:(!draw || (Vi 0 ops.toList && indep ops 0 Qy (YT ops.toList [])))=true):
 GoJ P B c H n {c with tmps:=T',todo:=k} H' n' (K7 Qy) (VU Qy):=by
 have hown:=Ud (l:=ops.toList) (l2:=[]) (by rw[List.append_nil];exact hmap) rfl;have hlen:Qy.length=ops.size:=by have:=congrArg NG hmap;simpa using this
 refine⟨ZN Qy _ _ _ _ _ _ P7 hs,fun S μ w fr cs Z QD hB hS hf XC hR=> ?_⟩;obtain⟨a,b,d⟩:=XC.running hm;rw[ht]at d;obtain⟨L',e,hL⟩:=d.code;cases draw with
 |false=>
  obtain⟨μ',A',w',hp,hT,XZ⟩:=TH (fr:=fr) (cs:=cs) (k:=L') a Qy 0 c.tmps H n T' H' n' [] P7 hs hk (fun j r hj=>by rw[Ob];exact hown j r hj) rfl S μ w fr.tmps QD hB hS hf hR b;rw[List.append_nil,hlen]at XZ;exact⟨{fr with tmps:=A',todo:=L'},w',μ',hp,⟨XC.fn,hT,fun _=>hL.mono (hp.mu hf),XC.defers.mono (hp.mu hf),XC.mode.mono (hp.mu hf),XC.kind,XC.round.mono (hp.mu hf)⟩,rfl,rfl,
   .head (ZW a e) (XZ.trans (.one (Vk a)))⟩
 |true=>
  simp only[Bool.not_true,Bool.false_or,YB]at hd;have hedge:∀(q:Nat) o,ops[q]? =some o->∀e∈o.after,Region.binds .any e=true->e.on<q:=by
   intro q o ho e he hb;have:=YN ops.toList 0 hd.1 q o (by rw[NM];exact ho) e he hb;omega
  have hbef:=r7 ops.toList (fun q o ho=>hedge q o (by simpa using ho));have V6:Setup P B ops Qy (YT ops.toList []) c.tmps H n T' H' n':=⟨P7,hs,hown,hlen,by simpa using hbef.1,Ss Qy _ 0 hd.2,hedge⟩
  obtain⟨μ',A',w',hp,hT,XZ⟩:=fM XS V6 hk QD hS hR hf hB (fr:=fr) (cs:=cs) (id:=id) (k:=L') a b e;exact⟨{fr with tmps:=A',todo:=L'},w',μ',hp,⟨XC.fn,hT,fun _=>hL.mono (hp.mu hf),XC.defers.mono (hp.mu hf),XC.mode.mono (hp.mu hf),XC.kind,XC.round.mono (hp.mu hf)⟩,rfl,rfl,XZ⟩
def Nh(P:Program)(B:Lo)(c:CF)(H:Qp)(n:Nat)(R W:List Nat):SR->Prop
 | .at c' H' n'=>GoJ P B c H n c' H' n' R W
 | .fin out H' n'=>FJ P B c H n out H' n' R W
theorem GoJ.srj{c c':CF}{H H':Qp}{n n':Nat}{R R' W W':List Nat}{r:SR}(h:GoJ P B c H n c' H' n' R W)(k:Nh P B c' H' n' R' W' r):Nh P B c H n (R++R') (W++W') r:=by
 cases r with
 | «at»=>exact h.trans k
 |fin=>exact h.fj k
theorem vZ(hF:∀g,F g=true->QA P g=true)(XS:P.follows .mixedOrders=true){c c':CF}{H H':Qp}{n n':Nat}{f:Operand}{params:Array Tmp}{assign body:Code}{k:List Item}{keys W:List Nat}{out:Value}{Ut:Qp}{p:Prop}(hu:Under H n)(hm:c.mode=.run)(ht:c.todo=.code (.rangeFunc f params assign body)::k)
 (h:F5 P F B c H n f params assign body k keys out Ut n' W=some (c',H',p)) (hp:p):∃R,GoJ P B c H n c' H' n' R W:=by
 unfold F5 at h;split at h
 ·rename_i fv hfv;split at h
  ·rename_i H1 l ds R1 ho;split at h
   ·rename_i g args R2 hc;split at h
    ·rename_i c1 he;simp only[YO,YR]at h;obtain⟨rfl,rfl,rfl⟩:=h;have St:Under H1 (l+1):=hu.shape (Tt (P:=P) (B:=B) hu ho).1;have Vu:=RJ.recS St hp;refine⟨R1++R2++keys, ?_⟩;have:Ps P F Xw (RM c1 H1 (l+1) ⟨.ret out,Ut++H1,n',keys,W⟩) c H n=some (.go {c with todo:=.endRangeFunc l::k,defers:=ds++c.defers} (Ut++H1) n' (R1++R2++keys) W):=by
      unfold Ps;simp only[hm,ht,hfv,ho,hc,he,PH]
     exact Vx hF XS (QL P B) Vu hu this
    ·cases h
   ·cases h
  ·cases h
 ·cases h
end
end Go.CE
