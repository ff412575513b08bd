/- CE: calls whose arguments are known, at the level of worlds. -/
import Derived.Test.YtncjjangllkokaaZRP06
import Derived.Laws.StructEq
set_option linter.all false
namespace Go.CE
open Go Go.RowKit

def QaK:Orc:=fun _ _ _ _=> none
theorem Qaz (P:Program) (B:Lo):QdD P B QaK:=fun _ _ _ _ _ _ h=> by cases h
noncomputable def QqK (P:Program) (F:FuncId->Bool) (orc:Orc) (fuel:Nat) (f:FuncId) (args:Array Value) (H:Qan) (n:Nat):Option Rs:=
 Option.rec none (fun c=> CF.rec (fun fn T todo ds mode ro=> CM.rec (Tm.rec (fun len tr=> Qkl P F orc fuel n fn len tr todo ds ro H n [] []) T) none (fun _=> none) mode) c) (QbQ P f args)
theorem Qh5 {P:Program} {F:FuncId->Bool} {orc:Orc} {fuel:Nat} {f:FuncId} {args:Array Value} {H:Qan} {n:Nat} {s:Rs} (h:QqK P F orc fuel f args H n=some s):∃c,QbQ P f args=some c/\Qyn P F orc fuel n c H n [] []=some s:=by
 unfold QqK at h;cases hc:QbQ P f args with
 | none=> rw [hc] at h;cases h
 | some c=>
   rw [hc] at h;obtain ⟨fn,⟨len,tr⟩,todo,ds,mode,ro⟩:=c;cases mode with
   | run=>
     refine ⟨_,rfl, ?_⟩;rw [<-Qoi,<-QmS];exact h
   | ret=> cases h
   | pan v=> cases h
theorem Qrk {P:Program} {F:FuncId->Bool} {orc:Orc} {B:Lo} (horc:QdD P B orc) (hF:∀g,F g=true->Qa3 P g=true) (hmix:P.follows .mixedOrders=true) {fuel:Nat} {f:FuncId} {args:Array Value} {H:Qan} {n:Nat} {s:Rs} (h:QqK P F orc fuel f args H n=some s) (hu:Under H n):Under s.H s.n:=by
 obtain ⟨c,_,hr⟩:=Qh5 h;obtain ⟨Rr,Wr,hfj,_,_,_,_⟩:=Qd5 (B:=B) hF hmix horc fuel n c H n [] [] s hu (fun i hi=> by simp at hi) (fun i hi=> by simp at hi) hr;exact hu.shape hfj.shape
theorem QoK {P:Program} {F:FuncId->Bool} {orc:Orc} (hF:∀g,F g=true->Qa3 P g=true) (hmix:P.follows .mixedOrders=true) {fuel:Nat} {f:FuncId} {args args':Array Value} {H:Qan} {n:Nat} {s:Rs} (h:QqK P F orc fuel f args H n=some s) (hu:Under H n) {w:World} {μ:Mu}
 {I:World->Prop} {hI:∀w1 w2:World,(∀b,b < w.heap.size->w2.heap[b]? =w1.heap[b]?)->I w1->I w2} (horc:QdD P ⟨w.heap.size,I,hI⟩ orc) (hi:I w) (hok:Ok w.heap.size (fun i=> i < n) μ (Qao H) w) (hv:VRs μ args args') (hf:∀i,n<=i->μ i=none):
 Calls P f args' w fun e w'=> ∃out' μ',Post w.heap.size (fun i=> i < n) n s.n s.W μ μ' H s.H w w'/\OR2 μ' s.out out'/\e=out'.ending:=by
 obtain ⟨c,hc,hr⟩:=Qh5 h;obtain ⟨Rr,Wr,hfj,a1,a2,a3,a4⟩:=Qd5 (B:=⟨w.heap.size,I,hI⟩) hF hmix horc fuel n c H n [] [] s hu (fun i hi=> by simp at hi) (fun i hi=> by simp at hi) hr;have hfj:=hfj.lists (fun i hi=> by simpa using a1 i hi) (fun i hi=> by simpa using a2 i hi) a4;intro cs;obtain ⟨out',w',μ',hp,ho,he⟩:=hfj.sem _ μ w _ cs hok ⟨Nat.le_refl _,hi⟩ (fun _ hi=> hi) (fun i hi _=> hf i hi) (QcE hc hv) (fun i _ hi=> hi);obtain ⟨frE,h1,h2,h3⟩:=he.1 rfl;refine ⟨out'.ending,w',frE,⟨out',μ',hp,ho,rfl⟩, ?_,h2,h3⟩;cases out' with
 | ret v=> exact h1
 | pan v=> exact h1
def Q4D (w:World) (blk off:Nat) (cs:Array Value):Prop:=blk < w.heap.size/\∀(i:Nat) v,cs[i]? =some v->w.cell? ⟨blk,off+i,none⟩=some v
def Q0F (l:List (Nat×Nat)):Mu:=fun i=> (l[i]?).map fun x=> ⟨x.1,x.2,0,false,Qoy⟩
def QfX (i:Nat):List (Array Value×TypeId)->Qan
 | []=> []
 | (cs,t)::l=> (i,.cells cs t (1,1))::QfX (i+1) l
theorem Qgs:∀(l:List (Array Value×TypeId)) (i k:Nat),Qao (QfX i l) k=if i<=k then (l[k - i]?).map fun x=> .cells x.1 x.2 (1,1) else none
 | [],i,k=> by simp [QfX,Qao]
 | (cs,t)::l,i,k=> by
   simp only [QfX];rw [Qa4,Qgs l (i+1) k];by_cases e:k=i
   ·subst e;simp
   ·rw [if_neg e];by_cases h:i<=k
    ·rw [if_pos h,if_pos (by omega),show k - i=(k - (i+1))+1 by omega];simp
    ·rw [if_neg h,if_neg (by omega)]
theorem Q26 {w:World} {l:List (Array Value×TypeId)} {at':List (Nat×Nat)} (hl:at'.length=l.length) (h:∀(i:Nat) x a,l[i]? =some x->at'[i]? =some a->Q4D w a.1 a.2 x.1/\x.1.all af=true):Ok w.heap.size (fun i=> i < l.length) (Q0F at') (Qao (QfX 0 l)) w:=by
 have key:∀i o,i < l.length->Qao (QfX 0 l) i=some o->∃x a,l[i]? =some x/\at'[i]? =some a/\o=.cells x.1 x.2 (1,1):=by
  intro i o hi ho;rw [Qgs,if_pos (Nat.zero_le _),Nat.sub_zero] at ho;have h1:l[i]? =some l[i]:=by simp [hi]
  have h2:at'[i]? =some (at'[i]'(by omega)):=by simp [hl ▸ hi]
  rw [h1] at ho;simp only [Option.map_some,YO] at ho;exact ⟨_,_,h1,h2,ho.symm⟩
 refine ⟨fun i o hi ho _=> ?_,fun i o im hi ho _ him=> ?_,fun i j oi oj a b hi hj _ hoi _ _ _ ha _ hra _=> ?_,fun i o hi ho hr=> ?_,fun i j oi oj a b x hi hj hoi hoj hr=> ?_⟩
 ·obtain ⟨x,a,h1,h2,rfl⟩:=key i o hi ho;obtain ⟨⟨_,hc⟩,haf⟩:=h i x a h1 h2;refine ⟨⟨a.1,a.2,0,false,Qoy⟩,by simp [Q0F,h2],.inr ⟨by simp,fun k v hv=> ⟨v,hc k v hv,Qhu (Array.all_eq_true'.1 haf v (Array.mem_of_getElem? hv))⟩⟩⟩
 ·obtain ⟨x,a,h1,h2,rfl⟩:=key i o hi ho;simp only [Q0F,h2,Option.map_some,YO] at him;subst him;exact ⟨(h i x a h1 h2).1.1,(fun h=> by cases h),fun _=> (h i x a h1 h2).1.1⟩
 ·obtain ⟨x,q,h1,h2,_⟩:=key i oi hi hoi;simp only [Q0F,h2,Option.map_some,YO] at ha;subst ha;cases hra
 ·obtain ⟨x,a,_,_,rfl⟩:=key i o hi ho;exact hr.elim
 ·obtain ⟨x,a,_,_,rfl⟩:=key i oi hi hoi;exact hr.elim
theorem Qik (l:List (Array Value×TypeId)):Under (QfX 0 l) l.length:=by
 intro i hi;rw [Qgs,if_pos (Nat.zero_le _),Nat.sub_zero,List.getElem?_eq_none (by omega)];rfl
theorem Qxd {at':List (Nat×Nat)}:∀i,at'.length<=i->Q0F at' i=none:=fun i hi=> by simp [Q0F,List.getElem?_eq_none hi]
end Go.CE

namespace Go.CE
open Go Go.RowKit

def eqL (p:Value->Value->Bool):List Value->List Value->Bool
 | [],[]=> true
 | x::l,y::m=> p x y && eqL p l m
 | _,_=> false
theorem Qdv {p:Value->Value->Bool} (hp:∀x y,p x y=true->x=y):∀(l m:List Value),eqL p l m=true->l=m
 | [],[],_=> rfl
 | x::l,y::m,h=> by
   simp only [eqL,YB] at h;rw [hp x y h.1,Qdv hp l m h.2]
 | [],_::_,h=> by cases h
 | _::_,[],h=> by cases h
def Q4a:List UInt8->List UInt8->Bool
 | [],[]=> true
 | x::l,y::m=> Nat.beq x.toNat y.toNat && Q4a l m
 | _,_=> false
theorem QlP:∀(l m:List UInt8),Q4a l m=true->l=m
 | [],[],_=> rfl
 | x::l,y::m,h=> by
   simp only [Q4a,YB] at h;rw [UInt8.toNat_inj.1 (YE h.1),QlP l m h.2]
 | [],_::_,h=> by cases h
 | _::_,[],h=> by cases h
def Q4n:Value->Value->Bool
 | .bool a,.bool b=> a==b
 | .int k a,.int l b=> decide (k=l) && eqq a b
 | .slice (some ⟨a,o,none⟩) n s,.slice (some ⟨b,p,none⟩) m t=> Nat.beq a b && Nat.beq o p && Nat.beq n m && Nat.beq s t
 | .slice none n s,.slice none m t=> Nat.beq n m && Nat.beq s t
 | .string a,.string b=> Q4a a.data.toList b.data.toList
 | .pointer (some ⟨a,o,none⟩),.pointer (some ⟨b,p,none⟩)=> Nat.beq a b && Nat.beq o p
 | .func (.func g) x y,.func (.func g') x' y'=> Nat.beq g g' && (Nat.beq x.toList.length 0 && (Nat.beq y.toList.length 0 && (Nat.beq x'.toList.length 0 && Nat.beq y'.toList.length 0)))
 | _,_=> false
theorem Qzj {a b:Int} (h:eqq a b=true):a=b:=by
 rw [Qjj] at h;simpa using h
theorem QlU (x y:Value) (h:Q4n x y=true):x=y:=by
 unfold Q4n at h;split at h
 ·simp only [beq_iff_eq] at h;rw [h]
 ·simp only [YB,decide_eq_true_eq] at h;rw [h.1,Qzj h.2]
 ·simp only [YB] at h;obtain ⟨⟨⟨h1,h2⟩,h3⟩,h4⟩:=h;rw [YE h1,YE h2,YE h3,YE h4]
 ·simp only [YB] at h;rw [YE h.1,YE h.2]
 ·rename_i a b;obtain ⟨a⟩:=a;obtain ⟨b⟩:=b;simp only at h;rw [Array.ext' (QlP _ _ h)]
 ·simp only [YB] at h;rw [YE h.1,YE h.2]
 ·rename_i x y _ x' y';simp only [YB,Nat.beq_eq] at h;obtain ⟨h1,h2,h3,h4,h5⟩:=h;have e:∀z:Array Value,z.toList.length=0->z=#[]:=fun z hz=> by
   have:=List.eq_nil_of_length_eq_zero hz;exact Array.ext' this
  rw [h1,e x h2,e y h3,e x' h4,e y' h5]
 ·cases h
def eqV:Nat->Value->Value->Bool
 | f+1,.agg x,.agg y=> eqL (eqV f) x.toList y.toList
 | f+1,.tuple x,.tuple y=> eqL (eqV f) x.toList y.toList
 | _,x,y=> Q4n x y
theorem QcR:∀(f:Nat) (x y:Value),eqV f x y=true->x=y
 | 0,x,y,h=> QlU x y (by simpa [eqV] using h)
 | f+1,x,y,h=> by
   unfold eqV at h;split at h
   ·rename_i f' a b e;cases e;rw [Array.ext' (Qdv (QcR f) _ _ h)]
   ·rename_i f' a b e;cases e;rw [Array.ext' (Qdv (QcR f) _ _ h)]
   ·exact QlU _ _ h
def Qth (H:Qan) (x:Nat×Array Value×TypeId):Bool:=match Qao H x.1 with
 | some (.cells ds t (0,0))=> eqL (eqV 1) ds.toList x.2.1.toList && Nat.beq t x.2.2
 | _=> false
def QzG (x:Option Rs) (out:Value) (bs:List (Nat×Array Value×TypeId)):Bool:=match x with
 | some ⟨.ret v,H,_,_,[]⟩=> eqV 3 v out && bs.all (Qth H)
 | _=> false
theorem Quz {x:Option Rs} {out:Value} {bs:List (Nat×Array Value×TypeId)} (h:QzG x out bs=true):∃s,x=some s/\s.out=.ret out/\s.W=[]/\∀y∈bs,Qao s.H y.1=some (.cells y.2.1 y.2.2 (0,0)):=by
 unfold QzG at h;split at h
 ·rename_i v H n R;simp only [YB] at h;refine ⟨_,rfl,by rw [QcR 3 _ _ h.1],rfl,fun y hy=> ?_⟩;have:=List.all_eq_true.1 h.2 y hy;unfold Qth at this;split at this
  ·rename_i ds t hg;simp only [YB] at this;have e1:=Array.ext' (Qdv (QcR 1) _ _ this.1);have e2:=YE this.2;simp only;rw [hg,e1,e2]
  ·cases this
 ·cases h
theorem Qwu {P:Program} {F:FuncId->Bool} {orc:Orc} (hF:∀g,F g=true->Qa3 P g=true) (hmix:P.follows .mixedOrders=true) {fuel:Nat} {f:FuncId} {args args':Array Value} {l:List (Array Value×TypeId)} {at':List (Nat×Nat)} {out:Value} {bs:List (Nat×Array Value×TypeId)}
 (h:QzG (QqK P F orc fuel f args (QfX 0 l) l.length) out bs=true) {w:World} {I:World->Prop} {hI:∀w1 w2:World,(∀b,b < w.heap.size->w2.heap[b]? =w1.heap[b]?)->I w1->I w2} (horc:QdD P ⟨w.heap.size,I,hI⟩ orc) (hi:I w) (hl:at'.length=l.length) (hlies:∀(i:Nat) x a,l[i]? =some x->at'[i]? =some a->Q4D w a.1 a.2 x.1/\x.1.all af=true) (hv:VRs (Q0F at') args args'):
 Calls P f args' w fun e w'=> ∃v' n' H' μ',e=.returned v'/\Post w.heap.size (fun i=> i < l.length) l.length n' [] (Q0F at') μ' (QfX 0 l) H' w w'/\VR μ' out v'/\(∀y∈bs,Qao H' y.1=some (.cells y.2.1 y.2.2 (0,0)))/\Under H' n'/\Below w.heap.size w w':=by
 obtain ⟨s,hs,ho,hW,hb⟩:=Quz h;obtain hc:=QoK hF hmix hs (Qik l) horc hi (Q26 hl hlies) hv (fun i hi=> Qxd i (by omega));intro cs;obtain ⟨e,w',fr,⟨out',μ',hp,hor,he⟩,h1,h2,h3⟩:=hc cs;refine ⟨e,w',fr, ?_,h1,h2,h3⟩;rw [ho] at hor;rw [hW] at hp;cases hor with
 | ret hvr=> exact ⟨_,s.n,s.H,μ',he,hp,hvr,hb,Qrk horc hF hmix hs (Qik l),⟨hp.os,hp.tape,hp.output,hp.grow,fun b hb=> hp.frame b hb fun i hi=> by simp at hi⟩⟩
end Go.CE

namespace Go.CE
open Go Go.RowKit

def Q2u:Obj->Obj->Bool
 | .cells a t (x,y),.cells b u (z,v)=> eqL (eqV 1) a.toList b.toList && Nat.beq t u && Nat.beq x z && Nat.beq y v
 | _,_=> false
theorem Qsb {a b:Obj} (h:Q2u a b=true):a=b:=by
 unfold Q2u at h;split at h
 ·simp only [YB] at h;obtain ⟨⟨⟨h1,h2⟩,h3⟩,h4⟩:=h;rw [Array.ext' (Qdv (QcR 1) _ _ h1),YE h2,YE h3,YE h4]
 ·cases h
def hasAll (H:Qan):Qan->Bool
 | []=> true
 | (i,o)::l=> (match Qao H i with | some x=> Q2u x o | none=> false) && hasAll H l
theorem Qef {H:Qan}:∀{l:Qan},hasAll H l=true->∀i o,Qao l i=some o->Qao H i=some o
 | [],_,i,o,ho=> by cases ho
 | (k,x)::l,h,i,o,ho=> by
   simp only [hasAll,YB] at h;rw [Qa4] at ho;by_cases e:i=k
   ·subst e;rw [if_pos rfl] at ho;simp only [YO] at ho;subst ho;have h1:=h.1;split at h1
    ·rename_i y hy;rw [hy,Qsb h1]
    ·cases h1
   ·rw [if_neg e] at ho;exact Qef h.2 i o ho
structure Memo where
 g:FuncId
 args:Array Value
 H0:Qan
 n:Nat
 out:Value
 news:Qan
 n':Nat
def within (n n':Nat) (l:Qan):Bool:=l.all fun x=> Nat.ble n x.1 && Nat.blt x.1 n'
def Qa7 (m:Memo) (x:Option Rs):Bool:=match x with
 | some ⟨.ret v,H,n',R,[]⟩=> eqV 3 v m.out && Nat.beq n' m.n' && hasAll H m.news && within m.n m.n' m.news && within 0 m.n m.H0 && R.all (fun i=> Nat.ble m.n i || (Qao m.H0 i).isSome)
 | _=> false
noncomputable def Memo.run (P:Program) (F:FuncId->Bool) (orc:Orc) (fuel:Nat) (m:Memo):Option Rs:=QqK P F orc fuel m.g m.args m.H0 m.n
def Qbc:List Memo->Orc
 | [],_,_,_,_=> none
 | m::l,g,args,H,n=> bif Nat.beq m.n n && Nat.beq m.g g && eqL (eqV 1) args.toList m.args.toList && hasAll H m.H0 then some ⟨.ret m.out,m.news++H,m.n',m.H0.map (·.1),[]⟩ else Qbc l g args H n
theorem Qbz:∀(l H:Qan) (i:Nat),Qao (l++H) i=match Qao l i with | some o=> some o | none=> Qao H i
 | [],H,i=> rfl
 | (k,o)::l,H,i=> by
   rw [List.cons_append,Qa4,Qa4];by_cases e:i=k
   ·rw [if_pos e,if_pos e]
   ·rw [if_neg e,if_neg e];exact Qbz l H i
theorem Qir {n n':Nat}:∀{l:Qan},within n n' l=true->∀i o,Qao l i=some o->n<=i/\i < n'
 | [],_,i,o,ho=> by cases ho
 | (k,x)::l,h,i,o,ho=> by
   simp only [within,List.all_cons,YB] at h;rw [Qa4] at ho;by_cases e:i=k
   ·subst e;exact ⟨YL h.1.1,YL h.1.2⟩
   ·rw [if_neg e] at ho;exact Qir h.2 i o ho
theorem QbT {n n':Nat} {l:Qan} (h:within n n' l=true) {i:Nat} (hi:i < n\/n'<=i):Qao l i=none:=by
 cases hg:Qao l i with
 | none=> rfl
 | some o=> have:=Qir h i o hg;omega
theorem Qim {l:Qan} {i:Nat} {o:Obj} (h:Qao l i=some o):i∈l.map (·.1):=by
 induction l with
 | nil=> cases h
 | cons p l ih=>
   obtain ⟨k,x⟩:=p;rw [Qa4] at h;by_cases e:i=k
   ·subst e;simp
   ·rw [if_neg e] at h;exact List.mem_cons_of_mem _ (ih h)
theorem QkE {m:Memo} {x:Option Rs} (h:Qa7 m x=true):∃H R,x=some ⟨.ret m.out,H,m.n',R,[]⟩/\(∀i o,Qao m.news i=some o->Qao H i=some o)/\within m.n m.n' m.news=true/\within 0 m.n m.H0=true/\∀i∈R,i < m.n->∃o,Qao m.H0 i=some o:=by
 unfold Qa7 at h;split at h
 ·rename_i v H n' R;simp only [YB] at h;obtain ⟨⟨⟨⟨⟨h1,h2⟩,h3⟩,h4⟩,h5⟩,h6⟩:=h;refine ⟨H,R,by rw [QcR 3 _ _ h1,YE h2],Qef h3,h4,h5,fun i hi hl=> ?_⟩;have:=List.all_eq_true.1 h6 i hi;simp only [Bool.or_eq_true] at this;rcases this with h | h
  ·have:=YL h;omega
  ·exact Option.isSome_iff_exists.1 h
 ·cases h
theorem Qa1 {P:Program} {F:FuncId->Bool} {orc:Orc} {B:Lo} (hF:∀g,F g=true->Qa3 P g=true) (hmix:P.follows .mixedOrders=true) (horc:QdD P B orc) {fuel:Nat} {m:Memo} {l:List Memo} (hm:Qa7 m (m.run P F orc fuel)=true) (hl:QdD P B (Qbc l)):QdD P B (Qbc (m::l)):=by
 intro g args H n s hu h;simp only [Qbc] at h;cases hq:(Nat.beq m.n n && Nat.beq m.g g && eqL (eqV 1) args.toList m.args.toList && hasAll H m.H0) with
 | false=>
   rw [hq] at h;exact hl g args H n s hu h
 | true=>
   rw [hq] at h;simp only [cond_true,YO] at h;simp only [YB] at hq;obtain ⟨⟨⟨q1,q2⟩,q3⟩,q4⟩:=hq;obtain rfl:=YE q1;obtain rfl:=YE q2;obtain rfl:=Array.ext' (Qdv (QcR 1) _ _ q3);have hH:=Qef q4;subst h;obtain ⟨Hs,R,hrun,hnews,hw,hw0,hR0⟩:=QkE hm;obtain ⟨c,hc,hr⟩:=Qh5 hrun;have hu0:Under m.H0 m.n:=fun i hi=> QbT hw0 (.inr hi)
   obtain ⟨Rr,Wr,hfj,a1,a2,a3,a4⟩:=Qd5 (B:=B) hF hmix horc fuel m.n c m.H0 m.n [] [] _ hu0 (fun i hi=> by simp at hi) (fun i hi=> by simp at hi) hr;have hfj:=hfj.lists (fun i hi=> by simpa using a1 i hi) (fun i hi=> by simpa using a2 i hi) a4;have hle:m.n<=m.n':=hfj.shape.le;have hgo:∀i,i < m.n\/m.n'<=i->Qao (m.news++H) i=Qao H i:=fun i hi=> by
    rw [Qbz,QbT hw hi]
   have hgn:∀i o,m.n<=i->Qao (m.news++H) i=some o->Qao Hs i=some o:=by
    intro i o h1 h2;rw [Qbz] at h2;cases hg:Qao m.news i with
    | some x=>
      rw [hg] at h2;rw [hnews i x hg];exact h2
    | none=>
      rw [hg,hu i h1] at h2;cases h2
   refine ⟨⟨hle,fun i hi _=> hgo i (.inl hi),fun i hi=> hgo i (.inr hi),fun _ h=> by simp at h,fun _ h=> by simp at h⟩,fun S μ w args' cs hok hB hS hf hv hR=> ?_⟩;simp only at hf hR ⊢;have hok0:Ok B (fun i=> S i/\∃o,Qao m.H0 i=some o) μ (Qao m.H0) w:=by
    refine ⟨fun i o hi ho hl=> hok.rel i o hi.1 (hH i o ho) hl,fun i o im hi ho hl=> hok.low i o im hi.1 (hH i o ho) hl,fun i j oi oj a b hi hj hij hoi hoj=> hok.inj i j oi oj a b hi.1 hj.1 hij (hH i oi hoi) (hH j oj hoj),
     fun i o hi ho=> hok.reg i o hi.1 (hH i o ho),fun i j oi oj a b x hi hj hoi hoj=> hok.sep i j oi oj a b x hi.1 hj.1 (hH i oi hoi) (hH j oj hoj)⟩
   obtain ⟨out',w',μ',hp,ho,he⟩:=hfj.sem _ μ w _ cs hok0 hB (fun i hi=> hS i hi.1) hf (QcE hc hv) (fun i hi hl=> by
    obtain ⟨o,ho⟩:=hR0 i hi hl;exact ⟨hR i (Qim ho) hl,o,ho⟩)
   simp only at hp ho;have hold:∀i im,S i->μ i=some im->μ' i=some im:=fun i im hi h=> by
    have:=hS i hi;rw [hp.ext i (by omega)];exact h
   have hext:Ext μ μ':=hp.mu hf;have hfr:∀i im o,m.n<=i->i < m.n'->Qao (m.news++H) i=some o->live o->μ' i=some im->im.rw=true/\w.heap.size<=im.blk:=by
    intro i im o h1 h2 h3 h4 h5;obtain ⟨x,y⟩:=hp.fresh i im o h1 h2 (hgn i o h1 h3) h4 h5;exact ⟨x,y.elim id fun ⟨k,hk,_⟩=> by simp at hk⟩
   have hOld:∀i o,S i->Qao (m.news++H) i=some o->live o->∃im,μ i=some im/\μ' i=some im/\Qao H i=some o/\im.blk < w.heap.size:=by
    intro i o hi ho hl;have:=hS i hi;rw [hgo i (.inl this)] at ho;obtain ⟨im,him,_⟩:=hok.rel i o hi ho hl;exact ⟨im,him,hold i im hi him,ho,(hok.low i o im hi ho hl him).1⟩
   refine ⟨out',w',μ',⟨⟨fun i o hi ho hl=> ?_,fun i o im hi ho hl him=> ?_,fun i j oi oj a b hi hj hij hoi hoj hli hlj ha hb hra hrb=> ?_,fun i o hi ho hr=> ?_,fun i j oi oj a b x hi hj hoi hoj hri hlj ha hb hrb hx=> ?_⟩,hle,hp.ext,fun i hi _=> hgo i (.inl hi),hp.grow,fun b hb _=> hp.frame b hb fun i hi=> by simp at hi,fun i hi=> by simp at hi,
    fun i im o h1 h2 h3 h4 h5=> ⟨(hfr i im o h1 h2 h3 h4 h5).1,.inl (hfr i im o h1 h2 h3 h4 h5).2⟩,fun i im o hi ho hr hm b x hx=> ?_,hp.os,hp.tape,hp.output⟩,ho,he⟩
   ·rcases hi with hi | hi
    ·obtain ⟨im,him,him',ho',hlt⟩:=hOld i o hi ho hl;obtain ⟨im2,him2,hr2⟩:=hok.rel i o hi ho' hl;rw [him] at him2;cases him2;exact ⟨im,him',hr2.keep hext (hp.frame _ hlt fun i hi=> by simp at hi)⟩
    ·exact hp.ok.rel i o (.inr hi) (hgn i o hi.1 ho) hl
   ·rcases hi with hi | hi
    ·obtain ⟨im2,him2,him',ho',hlt⟩:=hOld i o hi ho hl;rw [him] at him';cases him';exact ⟨Nat.lt_of_lt_of_le hlt hp.grow,(hok.low i o im hi ho' hl him2).2⟩
    ·exact hp.ok.low i o im (.inr hi) (hgn i o hi.1 ho) hl him
   ·rcases hi with hi | hi <;> rcases hj with hj | hj
    ·obtain ⟨im,h1,h2,h3,_⟩:=hOld i oi hi hoi hli;obtain ⟨jm,k1,k2,k3,_⟩:=hOld j oj hj hoj hlj;rw [ha] at h2;cases h2;rw [hb] at k2;cases k2;exact hok.inj i j oi oj a b hi hj hij h3 k3 hli hlj h1 k1 hra hrb
    ·obtain ⟨im,h1,h2,h3,h4⟩:=hOld i oi hi hoi hli;rw [ha] at h2;cases h2;have:=(hfr j b oj hj.1 hj.2 hoj hlj hb).2;omega
    ·obtain ⟨im,h1,h2,h3,h4⟩:=hOld j oj hj hoj hlj;rw [hb] at h2;cases h2;have:=(hfr i a oi hi.1 hi.2 hoi hli ha).2;omega
    ·exact hp.ok.inj i j oi oj a b (.inr hi) (.inr hj) hij (hgn i oi hi.1 hoi) (hgn j oj hj.1 hoj) hli hlj ha hb hra hrb
   ·rcases hi with hi | hi
    ·have:=hS i hi;rw [hgo i (.inl this)] at ho;obtain ⟨im,him,hf⟩:=hok.reg i o hi ho hr;exact ⟨im,hold i im hi him,fun b x hx=> by rw [hp.frame b (Qfc hok hi ho hr him hx) fun i hi=> by simp at hi];exact hf b x hx⟩
    ·exact hp.ok.reg i o (.inr hi) (hgn i o hi.1 ho) hr
   ·have oldR:∀i oi a,S i->Qao (m.news++H) i=some oi->μ' i=some a->Qcu oi->Qao H i=some oi/\μ i=some a:=by
     intro i oi a hi hoi ha hr;have:=hS i hi;rw [hgo i (.inl this)] at hoi;rw [hp.ext i (by omega)] at ha;exact ⟨hoi,ha⟩
    rcases hi with hi | hi <;> rcases hj with hj | hj
    ·obtain ⟨h1,h2⟩:=oldR i oi a hi hoi ha hri;obtain ⟨jm,k1,k2,k3,_⟩:=hOld j oj hj hoj hlj;rw [hb] at k2;cases k2;exact hok.sep i j oi oj a b x hi hj h1 k3 hri hlj h2 k1 hrb hx
    ·obtain ⟨h1,h2⟩:=oldR i oi a hi hoi ha hri;have:=(hfr j b oj hj.1 hj.2 hoj hlj hb).2;have:=Qfc hok hi h1 hri h2 hx;omega
    ·obtain ⟨jm,k1,k2,k3,k4⟩:=hOld j oj hj hoj hlj;rw [hb] at k2;cases k2;rcases hp.rf i a oi (.inl hi) (hgn i oi hi.1 hoi) hri ha b.blk x hx with e | ⟨k,kim,ko,hSk,_,hko,hkr,hkm,hkb⟩ | ⟨k,hk,_⟩
     ·omega
     ·exact hok.sep k j ko oj kim b x hSk.1 hj (hH k ko hko) k3 hkr hlj hkm k1 hrb hkb
     ·simp at hk
    ·exact hp.ok.sep i j oi oj a b x (.inr hi) (.inr hj) (hgn i oi hi.1 hoi) (hgn j oj hj.1 hoj) hri hlj ha hb hrb hx
   ·have hin:m.n<=i/\i < m.n':=hi.elim id fun h=> by simp at h
    rcases hp.rf i im o (.inl hin) (hgn i o hin.1 ho) hr hm b x hx with e | ⟨k,kim,ko,hSk,hkn,hko,c⟩ | ⟨k,hk,_⟩
    ·exact .inl e
    ·exact .inr (.inl ⟨k,kim,ko,hSk.1,hkn,hH k ko hko,c⟩)
    ·simp at hk
theorem Qbf (P:Program) (B:Lo):QdD P B (Qbc []):=fun _ _ _ _ _ _ h=> by cases h
end Go.CE

namespace Go.CE
open Go Go.RowKit
noncomputable section

section
variable {P:Program} {fr:Frame} {cs:List Frame} {w:World} {A:Array Value} {ops:Array Oper} {i:Nat} {l:List Nat} {k:List Item} {o:Oper}
theorem step_defer {c:Call} {f:Operand} {d:Deferred} (hm:fr.mode=.run) (hr:fr.roundOf=none) (ho:ops[i]? =some o) (hw:Region.wanted o (yielded ops A)=true) (hop:o.op=.defer c) (hc:c.callee=.value f)
 (hd:(Deferred.ofValue ((QaO fr A ops (i::l) k).eval f) (c.args.map (QaO fr A ops (i::l) k).eval)).run P w=.ok d w):
 step P (lone (QaO fr A ops (i::l) k) cs w)=.next (lone {(QaO fr A ops (i::l) k).finish undef with defers:=d::fr.defers} cs w):=by
 refine step_lone_go ?_;have he:(QaO fr A ops (i::l) k).oper? =some o:=by simp [Frame.oper?,QaO,ho]
 simp only [stepG,show (QaO fr A ops (i::l) k).mode=.run from hm];unfold stepG.exec;simp only [QaO,ho,Option.map_some,hw,Option.getD_some,if_true];unfold stepG.oper;simp only [Frame.oper?,ho,hr];unfold stepG.apply;simp only [QaO,hr] at hd;simp [execOp,hop,resolve,hc,hd,Sem.runT_eq,Frame.finish,ho]
theorem Qpp {cal:Frame} {c:Call} {v:Value} (hm:fr.mode=.run) (hk:fr.kind=.deferred) (hr:fr.roundOf=none) (ho:ops[i]? =some o) (hw:Region.wanted o (yielded ops A)=true) (hop:o.op=.call c) (hc:c.callee=.builtin .recover) (ha:c.args=#[])
 (hcal:cal.mode=.panicking [{v,recovered:=false}]):
 step P (lone (QaO fr A ops (i::l) k) (cal::cs) w)=.next (lone ((QaO fr A ops (i::l) k).finish v) ({cal with mode:=.panicking [{v,recovered:=true}]}::cs) w):=by
 refine step_lone_go ?_;simp only [stepG,show (QaO fr A ops (i::l) k).mode=.run from hm];unfold stepG.exec;simp only [QaO,ho,Option.map_some,hw,Option.getD_some,if_true];unfold stepG.oper;simp only [Frame.oper?,ho,hr];unfold stepG.apply;simp [execOp,hop,resolve,hc,ha,invoke,builtin,Sem.runT_eq,tryRecover,hk,hcal,Frame.finish,ho]
theorem QiA {cal:Frame} {c:Call} (hm:fr.mode=.run) (hr:fr.roundOf=none) (ho:ops[i]? =some o) (hw:Region.wanted o (yielded ops A)=true) (hop:o.op=.call c) (hc:c.callee=.builtin .recover) (ha:c.args=#[]) (hk:fr.kind=.deferred)
 (hcal:cal.mode=.returning):
 step P (lone (QaO fr A ops (i::l) k) (cal::cs) w)=.next (lone ((QaO fr A ops (i::l) k).finish .nilIface) (cal::cs) w):=by
 refine step_lone_go ?_;simp only [stepG,show (QaO fr A ops (i::l) k).mode=.run from hm];unfold stepG.exec;simp only [QaO,ho,Option.map_some,hw,Option.getD_some,if_true];unfold stepG.oper;simp only [Frame.oper?,ho,hr];unfold stepG.apply;simp [execOp,hop,resolve,hc,ha,invoke,builtin,Sem.runT_eq,tryRecover,hk,hcal,Frame.finish,ho]
theorem QgT {g:FuncId} {args:Array Value} {d:Deferred} {ds:List Deferred} {fn:Fn} {ys:Array Value} (hm:fr.mode≠.run) (hd:fr.defers=d::ds) (ht:d.target=.fn fn ys) (hi:(invoke d.target d.args).run P w=.ok (.enter g args) w):
 step P (lone fr cs w)=.next (lone (Frame.enter P g args .deferred) ({fr with defers:=ds}::cs) w):=by
 obtain ⟨t,a⟩:=d;simp only at ht;subst ht;refine step_lone_go ?_;cases hmode:fr.mode with
 | run=> exact absurd hmode hm
 | returning=> simp [stepG,unwind,hd,callDeferred,hmode,Sem.runT_eq,hi]
 | panicking ch=> simp [stepG,unwind,hd,callDeferred,hmode,Sem.runT_eq,hi]
def QzZ (cal:Frame):Frame:=match cal.mode with
 | .panicking [{recovered:=true,..}]=> {cal with mode:=.returning}
 | _=> cal
theorem QhI {cal:Frame} {fn:Func} {v:Value} (hm:fr.mode=.returning) (hd:fr.defers=[]) (hk:fr.kind=.deferred) (hf:P.funcs[fr.fn]? =some fn) (hr:(results fn fr.tmps).run P w=.ok v w)
 (hcal:cal.mode=.returning\/∃v,cal.mode=.panicking [{v,recovered:=true}]):
 step P (lone fr (cal::cs) w)=.next (lone {cal with mode:=.returning} cs w):=by
 refine step_lone_go ?_;rcases hcal with h | ⟨v,h⟩
 ·have:cal={cal with mode:=.returning}:=by cases cal;simp_all
  rw [<-this];simp [stepG,unwind,doReturn,hm,hd,hk,hf,Sem.runT_eq,hr,h]
 ·simp [stepG,unwind,doReturn,hm,hd,hk,hf,Sem.runT_eq,hr,h]
end

def Q4u (o:Oper):Bool:=match o.op with
 | .defer _=> true
 | .call c=> match c.callee with
   | .builtin .recover=> true
   | _=> false
 | _=> false
def QhP:List Oper->List Oper×List Oper
 | []=> ([],[])
 | o::l=> bif Q4u o then ([],o::l) else (o::(QhP l).1,(QhP l).2)
theorem Ql7:∀l:List Oper,(QhP l).1++(QhP l).2=l
 | []=> rfl
 | o::l=> by
   simp only [QhP];cases Q4u o with
   | true=> rfl
   | false=> simp [Ql7 l]
def Q3u (P:Program) (F:FuncId->Bool) (orc:Orc) (fuel:Nat):CF->Qan->Nat->Option Rs:=fun c H n=>
 CF.rec (fun fn T todo ds mode ro=> CM.rec (Tm.rec (fun len tr=> Qkl P F orc fuel n fn len tr todo ds ro H n [] []) T) none (fun _=> none) mode) c
theorem Qhw {P:Program} {F:FuncId->Bool} {orc:Orc} {B:Lo} (hF:∀g,F g=true->Qa3 P g=true) (hmix:P.follows .mixedOrders=true) (horc:QdD P B orc) (fuel:Nat):Qut P B (Q3u P F orc fuel):=by
 intro c H n s hu h;have hr:Qyn P F orc fuel n c H n [] []=some s:=by
  unfold Q3u at h;obtain ⟨fn,⟨len,tr⟩,todo,ds,mode,ro⟩:=c;cases mode with
  | run=>
    rw [<-Qoi,<-QmS];exact h
  | ret=> cases h
  | pan v=> cases h
 obtain ⟨Rr,Wr,hfj,a1,a2,a3,a4⟩:=Qd5 hF hmix horc fuel n c H n [] [] s hu (fun i hi=> by simp at hi) (fun i hi=> by simp at hi) hr;exact hfj.lists (fun i hi=> by simpa using a1 i hi) (fun i hi=> by simpa using a2 i hi) a4
structure MS where
 c:CF
 H:Qan
 n:Nat
 R:List Nat
 W:List Nat
def Q44 (c:CF):Bool:=match c.todo with
 | .code (.region _ ops false)::_=> ops.toList.any Q4u
 | _=> false
def QwP (P:Program) (F:FuncId->Bool) (orc:Orc) (fu:Nat) (b:Nat):Nat->MS->Option MS
 | 0,_=> none
 | k+1,m=>
   bif (match m.c.mode with | .run=> Q44 m.c | _=> m.c.defers.isEmpty) then some m else
   match Qg9 P F orc (Q3u P F orc fu) m.c m.H m.n with
   | some (.go c' H' n' R' W')=> QwP P F orc fu b k ⟨c',H',n',Qdf b R' m.R,Qdf b W' m.W⟩
   | _=> none
structure SpR where
 T:Tm
 H:Qan
 n:Nat
 o:Oper
 post:List Oper
 recs:List Rec
def Qyj (P:Program) (F:FuncId->Bool) (orc:Orc) (fu:Nat) (ops:Array Oper) (c:CF) (H:Qan) (n:Nat):Option SpR:=
 match QhP ops.toList with
 | (pre,o::post)=> match QuI P F orc (Q3u P F orc fu) ops pre c.tmps H n with
   | some (recs,.ok T H' n')=> bif Qg4 T o.dst && Region.wanted o (QaU ops T) then some ⟨T,H',n',o,post,recs⟩ else none
   | _=> none
 | _=> none
def Q1D:CM->Option Value
 | .run=> none
 | .ret=> some .nilIface
 | .pan v=> some v
def QoE (P:Program) (F:FuncId->Bool) (orc:Orc) (fu:Nat) (b:Nat) (g:FuncId) (args:Array Value) (pv:Value) (H:Qan) (n:Nat) (R W:List Nat):Option MS:=
 match QbQ P g args with
 | some cd=> match QwP P F orc fu b 10000 ⟨cd,H,n,R,W⟩ with
   | some m1=> match m1.c.mode,m1.c.todo with
     | .run,.code (.region _ ops false)::todo=> match Qyj P F orc fu ops m1.c m1.H m1.n with
       | some s=> match s.o.op with
         | .call c=> match c.callee with
           | .builtin .recover=> bif c.args.isEmpty then
            match QuI P F orc (Q3u P F orc fu) ops s.post (QeV s.T s.o.dst pv) s.H s.n with
            | some (recs2,.ok T2 H2 n2)=> match QwP P F orc fu b 10000 ⟨{m1.c with tmps:=T2,todo:=todo},H2,n2,Qdf b (QgJ recs2) (Qdf b (QgJ s.recs) m1.R),Qdf b (QeY recs2) (Qdf b (QeY s.recs) m1.W)⟩ with
              | some m2=> match m2.c.mode,m2.c.defers,Q1a P m2.c.fn m2.H m2.c.tmps with
                | .ret,[],some (_,R3)=> some ⟨m2.c,m2.H,m2.n,Qdf b R3 m2.R,m2.W⟩
                | _,_,_=> none
              | none=> none
            | _=> none
             else none
           | _=> none
         | _=> none
       | none=> none
     | _,_=> none
   | none=> none
 | none=> none
def Q1v (P:Program) (F:FuncId->Bool) (orc:Orc) (fu:Nat) (f:FuncId) (args:Array Value) (H:Qan) (n:Nat):Option Rs:=
 match QbQ P f args with
 | some c0=> match QwP P F orc fu n 10000 ⟨c0,H,n,[],[]⟩ with
   | some m1=> match m1.c.mode,m1.c.todo,m1.c.defers with
     | .run,.code (.region _ ops false)::todo,[]=> match Qyj P F orc fu ops m1.c m1.H m1.n with
       | some s=> match s.o.op,s.post with
         | .defer c,[]=> match c.callee with
           | .value x=> match evC s.T x with
             | some (.func (.func g) xs ys)=> bif c.args.isEmpty && F g then
              match QwP P F orc fu n 100000 ⟨{m1.c with tmps:=QeV s.T s.o.dst undef,todo:=todo},s.H,s.n,Qdf n (QgJ s.recs) m1.R,Qdf n (QeY s.recs) m1.W⟩ with
              | some m2=> match Q1D m2.c.mode,m2.c.defers with
                | some pv,[]=> match QoE P F orc fu n g (xs++ys) pv m2.H m2.n m2.R m2.W with
                  | some m3=> match Q1a P m2.c.fn m3.H m2.c.tmps with
                    | some (v,R4)=> some ⟨.ret v,m3.H,m3.n,Qdf n R4 m3.R,m3.W⟩
                    | none=> none
                  | none=> none
                | _,_=> none
              | none=> none
               else none
             | _=> none
           | _=> none
         | _,_=> none
       | none=> none
     | _,_,_=> none
   | none=> none
 | none=> none

section
variable {P:Program} {F:FuncId->Bool} {orc:Orc} {B:Lo}
theorem GoJ.refl (c:CF) (H:Qan) (n:Nat):GoJ P B c H n c H n [] []:=⟨Shape.same _ _ _,fun _ μ w fr _ _ hok _ _ _ hfr _=> ⟨fr,w,μ,Post.refl hok,hfr,rfl,rfl,Steps.refl _ _⟩⟩
theorem GoJ.trans {c c' c'':CF} {H H' H'':Qan} {n n' n'':Nat} {R R' W W':List Nat} (h:GoJ P B c H n c' H' n' R W) (k:GoJ P B c' H' n' c'' H'' n'' R' W'):GoJ P B c H n c'' H'' n'' (R++R') (W++W'):=by
 refine ⟨h.shape.trans k.shape,fun S μ w fr cs Z hok hB hS hf hfr hR=> ?_⟩;have l1:=h.shape.le;have l2:=k.shape.le;obtain ⟨fr1,w1,μ1,hp,hfr1,hr,hfn,hst⟩:=h.sem S μ w fr cs Z hok hB hS (fun q a b=> hf q a (by omega)) hfr (fun q hq hlt=> hR q (List.mem_append_left _ hq) hlt);obtain ⟨fr2,w2,μ2,hp2,hfr2,hr2,hfn2,hst2⟩:=k.sem _ μ1 w1 fr1 cs Z hp.ok (hB.post hok hp) (fun q hq=> hq.elim (fun e=> by have:=hS q e;omega) (fun e=> e.2))
  (fun q a b=> by rw [hp.ext q (by omega)];exact hf q (by omega) b) hfr1 (fun q hq hlt=> by
   rcases Nat.lt_or_ge q n with h1 | h1
   ·exact .inl (hR q (List.mem_append_right _ hq) h1)
   ·exact .inr ⟨h1,hlt⟩)
 exact ⟨fr2,w2,μ2,hp.trans hp2,hfr2,hr2.trans hr,hfn2.trans hfn,hst.trans hst2⟩
theorem Qev (hF:∀g,F g=true->Qa3 P g=true) (hmix:P.follows .mixedOrders=true) (horc:QdD P B orc) {fu b:Nat}:∀(k:Nat) (m m':MS),Under m.H m.n->QwP P F orc fu b k m=some m'->
 ∃R W,GoJ P B m.c m.H m.n m'.c m'.H m'.n R W/\(∀i,i < b->(i∈m'.R<->i∈m.R\/i∈R))/\(∀i,i < b->(i∈m'.W<->i∈m.W\/i∈W))
 | 0,m,m',hu,h=> by simp [QwP] at h
 | k+1,m,m',hu,h=> by
   simp only [QwP] at h;cases hq:(match m.c.mode with | .run=> Q44 m.c | _=> m.c.defers.isEmpty) with
   | true=>
     rw [hq] at h;simp only [cond_true,YO] at h;subst h;exact ⟨[],[],GoJ.refl _ _ _,fun i _=> by simp,fun i _=> by simp⟩
   | false=>
     rw [hq] at h;simp only [cond_false] at h;split at h
     ·rename_i c' H' n' R' W' hs;have hgo:GoJ P B m.c m.H m.n c' H' n' R' W':=Qcr hF hmix horc (Qhw hF hmix horc fu) hu hs;obtain ⟨R,W,h1,h2,h3⟩:=Qev hF hmix horc k ⟨c',H',n',Qdf b R' m.R,Qdf b W' m.W⟩ m' (hu.shape hgo.shape) h;refine ⟨_,_,hgo.trans h1,fun i hi=> ?_,fun i hi=> ?_⟩
      ·rw [h2 i hi,Qbv hi,List.mem_append,or_assoc]
      ·rw [h3 i hi,Qbv hi,List.mem_append,or_assoc]
     ·cases h
structure Sofar (B:Lo) (S:Nat->Prop) (n N:Nat) (W:List Nat) (μ0 μ:Mu) (H0 H:Qan) (m:Nat) (w0 w:World):Prop where
 post:Post B S n m W μ0 μ H0 H w0 w
 has:B.has w
 free:QiU μ m N
variable {S:Nat->Prop} {n N m m2:Nat} {W W2 R2:List Nat} {μ0 μ:Mu} {H0 H H2:Qan} {w0 w:World}
theorem Sofar.goj (s:Sofar B S n N W μ0 μ H0 H m w0 w) (hS:∀i,S i->i < n) {c c':CF} (h:GoJ P B c H m c' H2 m2 R2 W2) (hN:m2<=N) (hR:∀i∈R2,i < n->S i) {Z:Bot} {fr:Frame} (hfr:FrR Z μ c fr) (cs:List Frame):
 ∃fr' w' μ',Sofar B S n N (W++W2) μ0 μ' H0 H2 m2 w0 w'/\FrR Z μ' c' fr'/\fr'.roundOf=fr.roundOf/\fr'.fn=fr.fn/\Steps P (lone fr cs w) (lone fr' cs w')/\Ext μ μ':=by
 have l1:=s.post.le;have l2:=h.shape.le;have hf:QiU μ m m2:=fun q a b=> s.free q a (by omega)
 obtain ⟨fr',w',μ',hp,h1,h2,h3,h4⟩:=h.sem _ μ w fr cs Z s.post.ok s.has (fun i hi=> hi.elim (fun e=> by have:=hS i e;omega) (fun e=> e.2)) hf hfr
  (fun q hq hlt=> by
   rcases Nat.lt_or_ge q n with h1 | h1
   ·exact .inl (hR q hq h1)
   ·exact .inr ⟨h1,hlt⟩)
 exact ⟨fr',w',μ',⟨s.post.trans hp,s.has.post s.post.ok hp,fun q a b=> by rw [hp.ext q (by omega)];exact s.free q (by omega) b⟩,h1,h2,h3,h4,hp.mu hf⟩
theorem Sofar.seq (s:Sofar B S n N W μ0 μ H0 H m w0 w) (hS:∀i,S i->i < n) {ops:Array Oper} {recs:List Rec} {len:Nat} {T T2:Tm} (hch:Qe1 recs T H m T2 H2 m2) (hs:∀r∈recs,QpQ len r) (hk:∀r∈recs,QgS P B ops r) (i:Nat)
 (ho:∀(j:Nat) r,recs[j]? =some r->ops[i+j]? =some r.o) (hl:T.len=len) (hN:m2<=N) (hR:∀i∈QgJ recs,i < n->S i) {fr:Frame} {A:Array Value} (hm:fr.mode=.run) (hT:TR μ T A) (rest:List Nat) (k:List Item) (cs:List Frame):
 ∃A' w' μ',Sofar B S n N (W++QeY recs) μ0 μ' H0 H2 m2 w0 w'/\TR μ' T2 A'/\Ext μ μ'/\Steps P (lone (QaO fr A ops (List.range' i recs.length++rest) k) cs w) (lone (QaO fr A' ops rest k) cs w'):=by
 have l1:=s.post.le;have l2:=(Qb7 recs _ _ _ _ _ _ hch hs).le;have hf:QiU μ m m2:=fun q a b=> s.free q a (by omega)
 obtain ⟨μ',A',w',hp,h1,h2⟩:=QhF (fr:=fr) (cs:=cs) (k:=k) hm recs i T H m T2 H2 m2 rest hch hs hk ho hl _ μ w A s.post.ok s.has (fun i hi=> hi.elim (fun e=> by have:=hS i e;omega) (fun e=> e.2)) hf
  (fun q hq hlt=> by
   rcases Nat.lt_or_ge q n with h1 | h1
   ·exact .inl (hR q hq h1)
   ·exact .inr ⟨h1,hlt⟩) hT
 exact ⟨A',w',μ',⟨s.post.trans hp,s.has.post s.post.ok hp,fun q a b=> by rw [hp.ext q (by omega)];exact s.free q (by omega) b⟩,h1,hp.mu hf,h2⟩
theorem QkJ (hF:∀g,F g=true->Qa3 P g=true) (hmix:P.follows .mixedOrders=true) (horc:QdD P B orc) {fu:Nat} {ops:Array Oper} {c:CF} {H:Qan} {n:Nat} {s:SpR} (hu:Under H n) (h:Qyj P F orc fu ops c H n=some s):
 ∃pre,ops.toList=pre++s.o::s.post/\(∀r∈s.recs,QpQ c.tmps.len r)/\(∀r∈s.recs,QgS P B ops r)/\Qe1 s.recs c.tmps H n s.T s.H s.n/\s.recs.map (·.o)=pre/\Under s.H s.n/\Qg4 s.T s.o.dst=true/\Region.wanted s.o (QaU ops s.T)=true:=by
 unfold Qyj at h;have he:=Ql7 ops.toList;split at h
 ·rename_i pre o post hsp;rw [hsp] at he;split at h
  ·rename_i recs T H' n' hr;cases hd:(Qg4 T o.dst && Region.wanted o (QaU ops T)) with
   | false=> rw [hd] at h;cases h
   | true=>
     rw [<-Qb8 h];simp only [YB] at hd;obtain ⟨h1,h2,h3,h4,h5⟩:=Qdb hF (Qhw hF hmix horc fu) horc (len:=c.tmps.len) pre c.tmps H n recs _ rfl hu hr;exact ⟨pre,he.symm,h1,h2,h3,h4,h5,hd.1,hd.2⟩
  ·cases h
 ·cases h
theorem QjL:∀(l:List Rec) (T:Tm) (H:Qan) (n:Nat) (T':Tm) (H':Qan) (n':Nat),Qe1 l T H n T' H' n'->T'.len=T.len
 | [],T,H,n,T',H',n',h=> by
   obtain ⟨rfl,_,_⟩:=h;rfl
 | r::l,T,H,n,T',H',n',h=> by
   obtain ⟨_,_,_,h4⟩:=h;rw [QjL l _ _ _ _ _ _ h4,Qdh]
theorem QsU {B:Lo} {S:Nat->Prop} {μ:Mu} {H:Qan} {n:Nat} {w:World} {T:Tm} {A:Array Value} {f:FuncId} {v:Value} {R:List Nat} (hu:Under H n) (hok:Ok B S μ (Qao H) w) (ht:TR μ T A) (hv:Q1a P f H T=some (v,R)) (hR:∀i∈R,i < n->S i):
 ∃fn v',P.funcs[f]? =some fn/\(results fn A).run P w=.ok v' w/\VR μ v v':=by
 unfold Q1a at hv;rw [Qig,Array.getElem?_toList] at hv;split at hv
 ·rename_i fn hfn;split at hv
  ·rename_i vs R1 hvs;simp only [YO,YR] at hv;obtain ⟨rfl,rfl⟩:=hv;obtain ⟨vs',h1,h2⟩:=QeJ hu hok ht _ _ _ hvs hR;refine ⟨fn,_,hfn, ?_,QoY h2⟩;rw [Qiw,Array.mapM_eq_mapM_toList];simp only [Sem.run_bind,Sem.run_map,h1,Result.andThen_ok,Sem.run_pure]
  ·cases hv
 ·cases hv
theorem range_split {a b:Nat} {m:Nat} (h:m=a+(b+1)):List.range' 0 m=List.range' 0 a++a::List.range' (a+1) b:=by
 subst h;have:=List.range'_append_1 (s:=0) (m:=a) (n:=b+1);rw [<-this,Nat.zero_add,List.range'_succ]
def Qw4 (μ:Mu) (pv:Value) (cal:Frame):Prop:=(pv=.nilIface/\cal.mode=.returning)\/∃v',VR μ pv v'/\cal.mode=.panicking [{v:=v',recovered:=false}]
theorem QoD (hF:∀g,F g=true->Qa3 P g=true) (hmix:P.follows .mixedOrders=true) (horc:QdD P B orc) {fu b:Nat} {g:FuncId} {args:Array Value} {pv:Value} {R0 W0:List Nat} {m3:MS} (hu:Under H m) (h:QoE P F orc fu b g args pv H m R0 W0=some m3):
 ∃Rr Wr,Shape H m m3.H m3.n Rr Wr/\(∀i,i < b->(i∈m3.R<->i∈R0\/i∈Rr))/\(∀i,i < b->(i∈m3.W<->i∈W0\/i∈Wr))/\
  ∀(S:Nat->Prop) (n N:Nat) (W:List Nat) (μ0 μ:Mu) (H0:Qan) (w0 w:World),Sofar B S n N W μ0 μ H0 H m w0 w->(∀i,S i->i < n)->m3.n<=N->(∀i∈Rr,i < n->S i)->∀(args':Array Value) (cal:Frame) (cs:List Frame),VRs μ args args'->Qw4 μ pv cal->
   ∃w' μ',Sofar B S n N (W++Wr) μ0 μ' H0 m3.H m3.n w0 w'/\Ext μ μ'/\Steps P (lone (Frame.enter P g args' .deferred) (cal::cs) w) (lone {cal with mode:=.returning} cs w'):=by
 unfold QoE at h;split at h
 ·rename_i cd hcd;split at h
  ·rename_i m1 hm1;obtain ⟨R1,W1,g1,a1,b1⟩:=Qev hF hmix horc 10000 ⟨cd,H,m,R0,W0⟩ m1 hu hm1;have hu1:Under m1.H m1.n:=hu.shape g1.shape;split at h
   ·rename_i id ops todo hmode1 htodo1;split at h
    ·rename_i s hs;obtain ⟨pre,e1,e2,e3,e4,e5,e6,e7,e8⟩:=QkJ hF hmix horc hu1 hs;split at h
     ·rename_i c hop;split at h
      ·rename_i hcal;cases hca:c.args.isEmpty with
       | false=> rw [hca] at h;cases h
       | true=>
         rw [hca] at h;simp only [cond_true] at h;split at h
         ·rename_i recs2 T2 H2 n2 hr2;obtain ⟨f1,f2,f3,f4,f5⟩:=Qdb hF (Qhw hF hmix horc fu) horc (len:=m1.c.tmps.len) s.post (QeV s.T s.o.dst pv) s.H s.n recs2 _ (by rw [Qdh];exact QjL _ _ _ _ _ _ _ e4) e6 hr2;split at h
          ·rename_i m2 hm2;obtain ⟨R7,W7,g7,a7,b7⟩:=Qev hF hmix horc 10000 _ m2 f5 hm2;simp only at g7 a7 b7;have hu2:Under m2.H m2.n:=f5.shape g7.shape;split at h
           ·rename_i hmode2 hds2 hres;rename_i vres R3;simp only [YO] at h;subst h;have sh4:=Qb7 s.recs _ _ _ _ _ _ e4 e2;have sh5:=Qb7 recs2 _ _ _ _ _ _ f3 f1;have shAll:=((g1.shape.trans sh4).trans sh5).trans g7.shape;have hca':c.args=#[]:=by simpa [Array.isEmpty] using hca
            refine ⟨(((R1++QgJ s.recs)++QgJ recs2)++R7)++R3,((W1++QeY s.recs)++QeY recs2)++W7,⟨shAll.le,shAll.keep,shAll.top,fun i hi=> List.mem_append_left _ (shAll.sub i hi),shAll.wlt⟩,fun i hi=> ?_,fun i hi=> ?_, ?_⟩
            ·simp only [List.mem_append];rw [Qbv hi,a7 i hi,Qbv hi,Qbv hi,a1 i hi];simp only [or_assoc]
            ·simp only [List.mem_append];rw [b7 i hi,Qbv hi,Qbv hi,b1 i hi];simp only [or_assoc]
            ·intro S n N W μ0 μ H0 w0 w hs0 hS hN hR args' cal cs hv hun;simp only at hN;have l1:=g1.shape.le;have l2:=sh4.le;have l3:=sh5.le;have l4:=g7.shape.le;simp only [List.mem_append] at hR;have hfr0:FrR ⟨[],.deferred⟩ μ cd (Frame.enter P g args' .deferred):=QlG .deferred hcd hv;obtain ⟨fr1,w1,μ1,s1,hfr1,hro1,_,st1,x1⟩:=hs0.goj hS g1 (by omega) (fun i hi=> hR i (.inl (.inl (.inl (.inl hi))))) hfr0 (cal::cs);have hro1:fr1.roundOf=none:=hro1;obtain ⟨ha,hb,hd⟩:=hfr1.running hmode1;rw [htodo1] at hd;obtain ⟨L',hL,hL'⟩:=hd.code;have hlen:ops.size=pre.length+(s.post.length+1):=by
              have:=congrArg List.length e1;simp at this;omega
             have hat:ops[pre.length]? =some s.o:=by
              rw [<-Array.getElem?_toList,e1,List.getElem?_append_right (Nat.le_refl _)];simp
             have hplen:s.recs.length=pre.length:=by have:=congrArg List.length e5;simpa using this
             have hown1:∀(j:Nat) r,s.recs[j]? =some r->ops[0+j]? =some r.o:=by
              intro j r hj;rw [Nat.zero_add];exact Qdd (l:=ops.toList) (l2:=s.o::s.post) (by rw [e5];exact e1.symm) rfl j r hj
             obtain ⟨A1,w2,μ2,s2,hT2,x2,st2⟩:=s1.seq hS e4 e2 e3 0 hown1 rfl (by omega) (fun i hi=> hR i (.inl (.inl (.inl (.inr hi))))) ha hb (pre.length::List.range' (pre.length+1) s.post.length) L' (cal::cs);have hin:step P (lone fr1 (cal::cs) w1)=.next (lone (QaO fr1 fr1.tmps ops (List.range' 0 ops.size) L') (cal::cs) w1):=QbB ha hL;rw [range_split hlen] at hin;rw [hplen] at st2;have hwant:Region.wanted s.o (yielded ops A1)=true:=by rw [Qd7 hT2];exact e8
             have hk1:fr1.kind=.deferred:=hfr1.kind
             -- the operation itself
             have hrec:∃v' cal1,VR μ2 pv v'/\(cal1.mode=.returning\/∃v,cal1.mode=.panicking [{v,recovered:=true}])/\{cal1 with mode:=.returning}={cal with mode:=FrameMode.returning}/\
              step P (lone (QaO fr1 A1 ops (pre.length::List.range' (pre.length+1) s.post.length) L') (cal::cs) w2)=.next (lone ((QaO fr1 A1 ops (pre.length::List.range' (pre.length+1) s.post.length) L').finish v') (cal1::cs) w2):=by
              rcases hun with ⟨rfl,hret⟩ | ⟨v',hvr,hpan⟩
              ·exact ⟨.nilIface,cal,.nilIface,.inl hret,rfl,QiA ha hro1 hat hwant hop hcal hca' hk1 hret⟩
              ·exact ⟨v',{cal with mode:=.panicking [{v:=v',recovered:=true}]},(hvr.mono x1).mono x2,.inr ⟨v',rfl⟩,rfl,Qpp ha hk1 hro1 hat hwant hop hcal hca' hpan⟩
             obtain ⟨v',cal1,hvr,hcal1,hcalr,st3⟩:=hrec;rw [QeR hat] at st3;have hdst:=Qe6 e7;have hT3:TR μ2 (QeV s.T s.o.dst pv) (putA A1 v' s.o.dst):=hT2.putA hdst hvr;have hown2:∀(j:Nat) r,recs2[j]? =some r->ops[pre.length+1+j]? =some r.o:=by
              intro j r hj;have e:(recs2.map (·.o))[j]? =some r.o:=by rw [List.getElem?_map,hj];rfl
              rw [f4] at e;rw [<-Array.getElem?_toList,e1,List.getElem?_append_right (by omega),show pre.length+1+j - pre.length=j+1 by omega];simpa using e
             have hplen2:recs2.length=s.post.length:=by have:=congrArg List.length f4;simpa using this
             obtain ⟨A2,w3,μ3,s3,hT4,x3,st4⟩:=s2.seq hS f3 f1 f2 (pre.length+1) hown2 (by rw [Qdh];exact QjL _ _ _ _ _ _ _ e4) (by omega) (fun i hi=> hR i (.inl (.inl (.inr hi)))) ha hT3 [] L' (cal1::cs);rw [List.append_nil,hplen2] at st4;have st5:Steps P (lone (QaO fr1 A2 ops [] L') (cal1::cs) w3) (lone {fr1 with tmps:=A2,todo:=L'} (cal1::cs) w3):=.one (Qcx ha);have hfr2:FrR ⟨[],.deferred⟩ μ3 {m1.c with tmps:=T2,todo:=todo} {fr1 with tmps:=A2,todo:=L'}:=
              ⟨hfr1.fn,hT4,fun _=> (hL'.mono x2).mono x3,(hfr1.defers.mono x2).mono x3,(hfr1.mode.mono x2).mono x3,hfr1.kind,(hfr1.round.mono x2).mono x3⟩
             obtain ⟨fr3,w4,μ4,s4,hfr3,hro3,_,st6,x4⟩:=s3.goj hS g7 (by omega) (fun i hi=> hR i (.inl (.inr hi))) hfr2 (cal1::cs);have hmode3:fr3.mode=.returning:=by
              have:=hfr3.mode;rw [hmode2] at this;generalize fr3.mode=q at this;cases this;rfl
             have hd3:fr3.defers=[]:=by
              have:=hfr3.defers;rw [hds2] at this;exact this.empty
             obtain ⟨fn,vr,hfn,hresr,_⟩:=QsU hu2 s4.post.ok hfr3.tmps hres (fun i hi hlt=> by
              rcases Nat.lt_or_ge i n with h1 | h1
              ·exact .inl (hR i (.inr hi) h1)
              ·exact .inr ⟨h1,hlt⟩)
             have st7:=QhI (cs:=cs) hmode3 hd3 hfr3.kind (by rw [hfr3.fn];exact hfn) hresr hcal1;rw [hcalr] at st7;refine ⟨w4,μ4,by simpa [List.append_assoc] using s4,((x1.trans x2).trans x3).trans x4, ?_⟩;exact st1.trans (.head hin (st2.trans (.head st3 (st4.trans (st5.trans (st6.trans (.one st7)))))))
           ·cases h
          ·cases h
         ·cases h
      ·cases h
     ·cases h
    ·cases h
   ·cases h
  ·cases h
 ·cases h
theorem QjG {fu b:Nat}:∀(k:Nat) (m m':MS),QwP P F orc fu b k m=some m'->(∀i∈m.W,i < b)->∀i∈m'.W,i < b
 | 0,m,m',h,hw=> by simp [QwP] at h
 | k+1,m,m',h,hw=> by
   simp only [QwP] at h;cases hq:(match m.c.mode with | .run=> Q44 m.c | _=> m.c.defers.isEmpty) with
   | true=>
     rw [hq] at h;simp only [cond_true,YO] at h;subst h;exact hw
   | false=>
     rw [hq] at h;simp only [cond_false] at h;split at h
     ·exact QjG k _ m' h (Qf3 hw)
     ·cases h
theorem Qww {fu b:Nat} {g:FuncId} {args:Array Value} {pv:Value} {H:Qan} {m:Nat} {R0 W0:List Nat} {m3:MS} (h:QoE P F orc fu b g args pv H m R0 W0=some m3) (hw:∀i∈W0,i < b):∀i∈m3.W,i < b:=by
 unfold QoE at h;split at h
 ·split at h
  ·rename_i m1 hm1;have w1:=QjG 10000 _ m1 hm1 hw;split at h
   ·split at h
    ·split at h
     ·split at h
      ·have h:=QdG h;split at h
       ·split at h
        ·rename_i m2 hm2;have w2:=QjG 10000 _ m2 hm2 (Qf3 (Qf3 w1));split at h
         ·simp only [YO] at h;subst h;exact w2
         ·cases h
        ·cases h
       ·cases h
      ·cases h
     ·cases h
    ·cases h
   ·cases h
  ·cases h
 ·cases h
theorem Qsw (hF:∀g,F g=true->Qa3 P g=true) (hmix:P.follows .mixedOrders=true) (horc:QdD P B orc) {fu:Nat} {f:FuncId} {args:Array Value} {H:Qan} {n:Nat} {s0:Rs} (hu:Under H n) (h:Q1v P F orc fu f args H n=some s0):
 Shape H n s0.H s0.n s0.R s0.W/\∀(S:Nat->Prop) (μ:Mu) (w:World) (args':Array Value) (cs:List Frame),Ok B S μ (Qao H) w->B.has w->(∀i,S i->i < n)->QiU μ n s0.n->VRs μ args args'->(∀i∈s0.R,i < n->S i)->
  ∃out' w' μ',Post B S n s0.n s0.W μ μ' H s0.H w w'/\OR2 μ' s0.out out'/\EndsAs P (Frame.enter P f args' .normal) cs w out' w':=by
 unfold Q1v at h;split at h
 ·rename_i c0 hc0;split at h
  ·rename_i m1 hm1;obtain ⟨R1,W1,g1,a1,b1⟩:=Qev hF hmix horc 10000 ⟨c0,H,n,[],[]⟩ m1 hu hm1;have hu1:Under m1.H m1.n:=hu.shape g1.shape;split at h
   ·rename_i id ops todo hmode1 htodo1 hds1;split at h
    ·rename_i s hs;obtain ⟨pre,e1,e2,e3,e4,e5,e6,e7,e8⟩:=QkJ hF hmix horc hu1 hs;split at h
     ·rename_i c hop hpost;split at h
      ·rename_i x hcal;split at h
       ·rename_i g xs ys hx;cases hca:(c.args.isEmpty && F g) with
        | false=> rw [hca] at h;cases h
        | true=>
          rw [hca] at h;simp only [cond_true] at h;simp only [YB] at hca;split at h
          ·rename_i m2 hm2;obtain ⟨R3,W3,g3,a3,b3⟩:=Qev hF hmix horc 100000 _ m2 e6 hm2;simp only at g3 a3 b3;have hu2:Under m2.H m2.n:=e6.shape g3.shape;split at h
           ·rename_i pv hpv hds2;split at h
            ·rename_i m3 hm3;obtain ⟨Rr,Wr,sh3,ar,br,hsem⟩:=QoD (B:=B) hF hmix horc hu2 hm3;have hu3:Under m3.H m3.n:=hu2.shape sh3;split at h
             ·rename_i v R4 hres;simp only [YO] at h;subst h;have sh2:=Qb7 s.recs _ _ _ _ _ _ e4 e2;have shAll:=((g1.shape.trans sh2).trans g3.shape).trans sh3;have hRiff:∀i,i < n->(i∈Qdf n R4 m3.R<->i∈((R1++QgJ s.recs)++R3)++Rr\/i∈R4):=fun i hi=> by
               rw [Qbv hi,ar i hi,a3 i hi,Qbv hi,a1 i hi];simp only [List.mem_append,List.not_mem_nil,false_or]
              have hWiff:∀i,i < n->(i∈m3.W<->i∈((W1++QeY s.recs)++W3)++Wr):=fun i hi=> by
               rw [br i hi,b3 i hi,Qbv hi,b1 i hi];simp only [List.mem_append,List.not_mem_nil,false_or]
              have hWlt:∀i∈m3.W,i < n:=Qww hm3 (QjG 100000 _ m2 hm2 (Qf3 (QjG 10000 _ m1 hm1 (fun i hi=> by simp at hi))));refine ⟨⟨shAll.le,fun i hi hw=> shAll.keep i hi fun e=> hw ((hWiff i hi).2 e),shAll.top,fun i hi=> (hRiff i (hWlt i hi)).2 (.inl (shAll.sub i ((hWiff i (hWlt i hi)).1 hi))),fun i hi=> by have:=hWlt i hi;have:=shAll.le;simp only at *;omega⟩,fun S μ w args' cs hok hB hS hf hv hR=> ?_⟩;simp only at hf hR ⊢;have hR':∀i,i < n->i∈((R1++QgJ s.recs)++R3)++Rr\/i∈R4->S i:=fun i hi h=> hR i ((hRiff i hi).2 h) hi
              have l1:=g1.shape.le;have l2:=sh2.le;have l3:=g3.shape.le;have l4:=sh3.le;have sf0:Sofar B S n m3.n [] μ μ H H n w w:=⟨Post.refl hok,hB,hf⟩
              have hfr0:FrR Bot.no μ c0 (Frame.enter P f args' .normal):=QcE hc0 hv;obtain ⟨fr1,w1,μ1,s1,hfr1,hro1,hfn1,st1,x1⟩:=sf0.goj hS g1 (by omega) (fun i hi hlt=> hR' i hlt (.inl (List.mem_append_left _ (List.mem_append_left _ (List.mem_append_left _ hi))))) hfr0 cs;have hro1:fr1.roundOf=none:=hro1;obtain ⟨ha,hb,hd⟩:=hfr1.running hmode1;rw [htodo1] at hd;obtain ⟨L',hL,hL'⟩:=hd.code;have hd1:fr1.defers=[]:=by
               have:=hfr1.defers;rw [hds1] at this;exact this.empty
              rw [hpost] at e1;have hlen:ops.size=pre.length+(0+1):=by
               have:=congrArg List.length e1;simp at this;omega
              have hat:ops[pre.length]? =some s.o:=by
               rw [<-Array.getElem?_toList,e1,List.getElem?_append_right (Nat.le_refl _)];simp
              have hplen:s.recs.length=pre.length:=by have:=congrArg List.length e5;simpa using this
              have hown1:∀(j:Nat) r,s.recs[j]? =some r->ops[0+j]? =some r.o:=by
               intro j r hj;rw [Nat.zero_add];exact Qdd (l:=ops.toList) (l2:=[s.o]) (by rw [e5];exact e1.symm) rfl j r hj
              obtain ⟨A1,w2,μ2,s2,hT2,x2,st2⟩:=s1.seq hS e4 e2 e3 0 hown1 rfl (by omega) (fun i hi hlt=> hR' i hlt (.inl (List.mem_append_left _ (List.mem_append_left _ (List.mem_append_right _ hi))))) ha hb (pre.length::List.range' (pre.length+1) 0) L' cs;have hin:step P (lone fr1 cs w1)=.next (lone (QaO fr1 fr1.tmps ops (List.range' 0 ops.size) L') cs w1):=QbB ha hL;rw [range_split hlen] at hin;rw [hplen] at st2;have hwant:Region.wanted s.o (yielded ops A1)=true:=by rw [Qd7 hT2];exact e8
              have hvx:=Qua (fr:=QaO fr1 A1 ops (pre.length::List.range' (pre.length+1) 0) L') hT2 x _ hx;have hca':c.args=#[]:=by simpa [Array.isEmpty] using hca.1
              generalize hgx:(QaO fr1 A1 ops (pre.length::List.range' (pre.length+1) 0) L').eval x=ux at hvx;cases hvx with
              | func q1 q2 q3 q4=>
                rename_i xs' ys';have hdv:(Deferred.ofValue ((QaO fr1 A1 ops (pre.length::List.range' (pre.length+1) 0) L').eval x) (c.args.map (QaO fr1 A1 ops (pre.length::List.range' (pre.length+1) 0) L').eval)).run P w2=.ok {target:=.fn (.func g) ys',args:=xs'} w2:=by
                 rw [hgx,hca'];simp [Deferred.ofValue]
                have st3:=step_defer (cs:=cs) (w:=w2) ha hro1 hat hwant hop hcal hdv;rw [QeR hat] at st3;have hdst:=Qe6 e7;have hT3:TR μ2 (QeV s.T s.o.dst undef) (putA A1 undef s.o.dst):=hT2.putA hdst VR.undef
                -- the frame behind the region
                have st4:step P (lone {QaO fr1 (putA A1 undef s.o.dst) ops (List.range' (pre.length+1) 0) L' with defers:={target:=.fn (.func g) ys',args:=xs'}::fr1.defers} cs w2)=
                 .next (lone {fr1 with tmps:=putA A1 undef s.o.dst,todo:=L',defers:={target:=.fn (.func g) ys',args:=xs'}::fr1.defers} cs w2):=
                 Qcx (fr:={fr1 with defers:={target:=.fn (.func g) ys',args:=xs'}::fr1.defers}) (A:=putA A1 undef s.o.dst) (ops:=ops) (k:=L') ha
                have hfr2:FrR ⟨[{target:=.fn (.func g) ys',args:=xs'}],.normal⟩ μ2 {m1.c with tmps:=QeV s.T s.o.dst undef,todo:=todo} {fr1 with tmps:=putA A1 undef s.o.dst,todo:=L',defers:={target:=.fn (.func g) ys',args:=xs'}::fr1.defers}:=
                 ⟨hfr1.fn,hT3,fun _=> hL'.mono x2,by rw [show ({m1.c with tmps:=QeV s.T s.o.dst undef,todo:=todo}:CF).defers=[] from hds1];exact .of_empty (by simp [hd1]),hfr1.mode.mono x2,hfr1.kind,hfr1.round.mono x2⟩
                obtain ⟨fr3,w3,μ3,s3,hfr3,hro3,hfn3,st5,x3⟩:=s2.goj hS g3 (by omega) (fun i hi hlt=> hR' i hlt (.inl (List.mem_append_left _ (List.mem_append_right _ hi)))) hfr2 cs;have hd3:fr3.defers=[{target:=.fn (.func g) ys',args:=xs'}]:=by
                 have:=hfr3.defers;rw [hds2] at this;exact this.empty
                have hun:Qw4 μ3 pv {fr3 with defers:=[]}/\fr3.mode≠.run:=by
                 have hm:=hfr3.mode;generalize fr3.mode=q at hm ⊢;cases hcm:m2.c.mode with
                 | run=> rw [hcm] at hpv;cases hpv
                 | ret=>
                   rw [hcm] at hpv hm;cases hm;simp only [Q1D,YO] at hpv;exact ⟨.inl ⟨hpv.symm,rfl⟩,fun e=> by cases e⟩
                 | pan v0=>
                   rw [hcm] at hpv hm;cases hm with
                   | pan hvr=>
                     simp only [Q1D,YO] at hpv;subst hpv;exact ⟨.inr ⟨_,hvr,rfl⟩,fun e=> by cases e⟩
                have st6:step P (lone fr3 cs w3)=.next (lone (Frame.enter P g (xs'++ys') .deferred) ({fr3 with defers:=[]}::cs) w3):=
                 QgT hun.2 hd3 rfl (Qi2 (hF g hca.2) _ w3)
                have hvargs:VRs μ3 (xs++ys) (xs'++ys'):=by
                 have k1:VRs μ3 xs xs':=(VRs.mono x3 ⟨q1,q3⟩)
                 have k2:VRs μ3 ys ys':=(VRs.mono x3 ⟨q2,q4⟩)
                 exact k1.append k2
                obtain ⟨w4,μ4,s4,x4,st7⟩:=hsem S n m3.n _ μ μ3 H w w3 s3 hS (Nat.le_refl _) (fun i hi hlt=> hR' i hlt (.inl (List.mem_append_right _ hi))) _ {fr3 with defers:=[]} cs hvargs hun.1
                obtain ⟨fn,v',hfn,hresr,hvr⟩:=QsU hu3 s4.post.ok (hfr3.tmps.mono x4) hres (fun i hi hlt=> by
                 rcases Nat.lt_or_ge i n with h1 | h1
                 ·exact .inl (hR' i h1 (.inr hi))
                 ·exact .inr ⟨h1,hlt⟩)
                have hfnE:fr3.fn=f:=by
                 have:(Frame.enter P f args' .normal).fn=f:=rfl;rw [hfn3];show fr1.fn=f;rw [hfn1,this]
                have hleave:({fr3 with defers:=[],mode:=.returning}:Frame).leaving P w4 (.returned v'):=⟨rfl,rfl,hfr3.kind,fn,by rw [<-hfn,hfr3.fn],hresr⟩
                have hst:Steps P (lone (Frame.enter P f args' .normal) cs w) (lone {fr3 with defers:=[],mode:=.returning} cs w4):=
                 st1.trans (.head hin (st2.trans (.head st3 (.head st4 (st5.trans (.head st6 st7))))))
                refine ⟨.ret v',w4,μ4,s4.post.lists (fun i hi=> by rw [hWiff i hi];simp [List.append_assoc]),.ret hvr,fun _=> ⟨_,hst,hfnE,hleave⟩,fun c1 cs' e=> ?_⟩;subst e;exact hst.trans (.one (step_leave_returned hleave))
             ·cases h
            ·cases h
           ·cases h
          ·cases h
       ·cases h
      ·cases h
     ·cases h
    ·cases h
   ·cases h
  ·cases h
 ·cases h
end
def Memo.drun (P:Program) (F:FuncId->Bool) (orc:Orc) (fuel:Nat) (m:Memo):Option Rs:=Q1v P F orc fuel m.g m.args m.H0 m.n
theorem Qa5 {P:Program} {F:FuncId->Bool} {orc:Orc} {B:Lo} (hF:∀g,F g=true->Qa3 P g=true) (hmix:P.follows .mixedOrders=true) (horc:QdD P B orc) {fuel:Nat} {m:Memo} {l:List Memo} (hm:Qa7 m (m.drun P F orc fuel)=true) (hl:QdD P B (Qbc l)):QdD P B (Qbc (m::l)):=by
 intro g args H n s hu h;simp only [Qbc] at h;cases hq:(Nat.beq m.n n && Nat.beq m.g g && eqL (eqV 1) args.toList m.args.toList && hasAll H m.H0) with
 | false=>
   rw [hq] at h;exact hl g args H n s hu h
 | true=>
   rw [hq] at h;simp only [cond_true,YO] at h;simp only [YB] at hq;obtain ⟨⟨⟨q1,q2⟩,q3⟩,q4⟩:=hq;obtain rfl:=YE q1;obtain rfl:=YE q2;obtain rfl:=Array.ext' (Qdv (QcR 1) _ _ q3);have hH:=Qef q4;subst h;obtain ⟨Hs,R,hrun,hnews,hw,hw0,hR0⟩:=QkE hm;have hu0:Under m.H0 m.n:=fun i hi=> QbT hw0 (.inr hi)
   have hsem:=Qsw (B:=B) hF hmix horc hu0 hrun;have hle:m.n<=m.n':=hsem.1.le;have hgo:∀i,i < m.n\/m.n'<=i->Qao (m.news++H) i=Qao H i:=fun i hi=> by
    rw [Qbz,QbT hw hi]
   have hgn:∀i o,m.n<=i->Qao (m.news++H) i=some o->Qao Hs i=some o:=by
    intro i o h1 h2;rw [Qbz] at h2;cases hg:Qao m.news i with
    | some x=>
      rw [hg] at h2;rw [hnews i x hg];exact h2
    | none=>
      rw [hg,hu i h1] at h2;cases h2
   refine ⟨⟨hle,fun i hi _=> hgo i (.inl hi),fun i hi=> hgo i (.inr hi),fun _ h=> by simp at h,fun _ h=> by simp at h⟩,fun S μ w args' cs hok hB hS hf hv hR=> ?_⟩;simp only at hf hR ⊢;have hok0:Ok B (fun i=> S i/\∃o,Qao m.H0 i=some o) μ (Qao m.H0) w:=by
    refine ⟨fun i o hi ho hl=> hok.rel i o hi.1 (hH i o ho) hl,fun i o im hi ho hl=> hok.low i o im hi.1 (hH i o ho) hl,fun i j oi oj a b hi hj hij hoi hoj=> hok.inj i j oi oj a b hi.1 hj.1 hij (hH i oi hoi) (hH j oj hoj),
     fun i o hi ho=> hok.reg i o hi.1 (hH i o ho),fun i j oi oj a b x hi hj hoi hoj=> hok.sep i j oi oj a b x hi.1 hj.1 (hH i oi hoi) (hH j oj hoj)⟩
   obtain ⟨out',w',μ',hp,ho,he⟩:=hsem.2 _ μ w args' cs hok0 hB (fun i hi=> hS i hi.1) hf hv (fun i hi hl=> by
    obtain ⟨o,ho⟩:=hR0 i hi hl;exact ⟨hR i (Qim ho) hl,o,ho⟩)
   simp only at hp ho;have hold:∀i im,S i->μ i=some im->μ' i=some im:=fun i im hi h=> by
    have:=hS i hi;rw [hp.ext i (by omega)];exact h
   have hext:Ext μ μ':=hp.mu hf;have hfr:∀i im o,m.n<=i->i < m.n'->Qao (m.news++H) i=some o->live o->μ' i=some im->im.rw=true/\w.heap.size<=im.blk:=by
    intro i im o h1 h2 h3 h4 h5;obtain ⟨x,y⟩:=hp.fresh i im o h1 h2 (hgn i o h1 h3) h4 h5;exact ⟨x,y.elim id fun ⟨k,hk,_⟩=> by simp at hk⟩
   have hOld:∀i o,S i->Qao (m.news++H) i=some o->live o->∃im,μ i=some im/\μ' i=some im/\Qao H i=some o/\im.blk < w.heap.size:=by
    intro i o hi ho hl;have:=hS i hi;rw [hgo i (.inl this)] at ho;obtain ⟨im,him,_⟩:=hok.rel i o hi ho hl;exact ⟨im,him,hold i im hi him,ho,(hok.low i o im hi ho hl him).1⟩
   refine ⟨out',w',μ',⟨⟨fun i o hi ho hl=> ?_,fun i o im hi ho hl him=> ?_,fun i j oi oj a b hi hj hij hoi hoj hli hlj ha hb hra hrb=> ?_,fun i o hi ho hr=> ?_,fun i j oi oj a b x hi hj hoi hoj hri hlj ha hb hrb hx=> ?_⟩,hle,hp.ext,fun i hi _=> hgo i (.inl hi),hp.grow,fun b hb _=> hp.frame b hb fun i hi=> by simp at hi,fun i hi=> by simp at hi,
    fun i im o h1 h2 h3 h4 h5=> ⟨(hfr i im o h1 h2 h3 h4 h5).1,.inl (hfr i im o h1 h2 h3 h4 h5).2⟩,fun i im o hi ho hr hm b x hx=> ?_,hp.os,hp.tape,hp.output⟩,ho,he⟩
   ·rcases hi with hi | hi
    ·obtain ⟨im,him,him',ho',hlt⟩:=hOld i o hi ho hl;obtain ⟨im2,him2,hr2⟩:=hok.rel i o hi ho' hl;rw [him] at him2;cases him2;exact ⟨im,him',hr2.keep hext (hp.frame _ hlt fun i hi=> by simp at hi)⟩
    ·exact hp.ok.rel i o (.inr hi) (hgn i o hi.1 ho) hl
   ·rcases hi with hi | hi
    ·obtain ⟨im2,him2,him',ho',hlt⟩:=hOld i o hi ho hl;rw [him] at him';cases him';exact ⟨Nat.lt_of_lt_of_le hlt hp.grow,(hok.low i o im hi ho' hl him2).2⟩
    ·exact hp.ok.low i o im (.inr hi) (hgn i o hi.1 ho) hl him
   ·rcases hi with hi | hi <;> rcases hj with hj | hj
    ·obtain ⟨im,h1,h2,h3,_⟩:=hOld i oi hi hoi hli;obtain ⟨jm,k1,k2,k3,_⟩:=hOld j oj hj hoj hlj;rw [ha] at h2;cases h2;rw [hb] at k2;cases k2;exact hok.inj i j oi oj a b hi hj hij h3 k3 hli hlj h1 k1 hra hrb
    ·obtain ⟨im,h1,h2,h3,h4⟩:=hOld i oi hi hoi hli;rw [ha] at h2;cases h2;have:=(hfr j b oj hj.1 hj.2 hoj hlj hb).2;omega
    ·obtain ⟨im,h1,h2,h3,h4⟩:=hOld j oj hj hoj hlj;rw [hb] at h2;cases h2;have:=(hfr i a oi hi.1 hi.2 hoi hli ha).2;omega
    ·exact hp.ok.inj i j oi oj a b (.inr hi) (.inr hj) hij (hgn i oi hi.1 hoi) (hgn j oj hj.1 hoj) hli hlj ha hb hra hrb
   ·rcases hi with hi | hi
    ·have:=hS i hi;rw [hgo i (.inl this)] at ho;obtain ⟨im,him,hf⟩:=hok.reg i o hi ho hr;exact ⟨im,hold i im hi him,fun b x hx=> by rw [hp.frame b (Qfc hok hi ho hr him hx) fun i hi=> by simp at hi];exact hf b x hx⟩
    ·exact hp.ok.reg i o (.inr hi) (hgn i o hi.1 ho) hr
   ·have oldR:∀i oi a,S i->Qao (m.news++H) i=some oi->μ' i=some a->Qcu oi->Qao H i=some oi/\μ i=some a:=by
     intro i oi a hi hoi ha hr;have:=hS i hi;rw [hgo i (.inl this)] at hoi;rw [hp.ext i (by omega)] at ha;exact ⟨hoi,ha⟩
    rcases hi with hi | hi <;> rcases hj with hj | hj
    ·obtain ⟨h1,h2⟩:=oldR i oi a hi hoi ha hri;obtain ⟨jm,k1,k2,k3,_⟩:=hOld j oj hj hoj hlj;rw [hb] at k2;cases k2;exact hok.sep i j oi oj a b x hi hj h1 k3 hri hlj h2 k1 hrb hx
    ·obtain ⟨h1,h2⟩:=oldR i oi a hi hoi ha hri;have:=(hfr j b oj hj.1 hj.2 hoj hlj hb).2;have:=Qfc hok hi h1 hri h2 hx;omega
    ·obtain ⟨jm,k1,k2,k3,k4⟩:=hOld j oj hj hoj hlj;rw [hb] at k2;cases k2;rcases hp.rf i a oi (.inl hi) (hgn i oi hi.1 hoi) hri ha b.blk x hx with e | ⟨k,kim,ko,hSk,_,hko,hkr,hkm,hkb⟩ | ⟨k,hk,_⟩
     ·omega
     ·exact hok.sep k j ko oj kim b x hSk.1 hj (hH k ko hko) k3 hkr hlj hkm k1 hrb hkb
     ·simp at hk
    ·exact hp.ok.sep i j oi oj a b x (.inr hi) (.inr hj) (hgn i oi hi.1 hoi) (hgn j oj hj.1 hoj) hri hlj ha hb hrb hx
   ·have hin:m.n<=i/\i < m.n':=hi.elim id fun h=> by simp at h
    rcases hp.rf i im o (.inl hin) (hgn i o hin.1 ho) hr hm b x hx with e | ⟨k,kim,ko,hSk,hkn,hko,c⟩ | ⟨k,hk,_⟩
    ·exact .inl e
    ·exact .inr (.inl ⟨k,kim,ko,hSk.1,hkn,hH k ko hko,c⟩)
    ·simp at hk
end
end Go.CE

namespace Go.CE
open Go Go.RowKit

section
variable {μ μ1:Mu} {ρ:Nat->Nat} {m:Nat}
end

def Qbi (v:Value):Prop:=∀μ μ1 v',VR μ v v'->VR μ1 v v'
theorem QfT {v:Value} (h:af v=true):Qbi v:=fun _ _ _ hv=> by rw [QiB h hv];exact Qhu h
theorem QuZ:Qbi (.chan none):=fun _ _ _ h=> by
 cases h with
 | junk a b c=> exact .junk a b c
theorem Qwr {xs:Array Value} (h:∀x∈xs,Qbi x):Qbi (.agg xs):=fun μ μ1 v' hv=> by
 cases hv with
 | agg h1 h2=> exact .agg h1 fun i v v' a b=> h v (Array.mem_of_getElem? a) μ μ1 v' (h2 i v v' a b)
theorem Qss {xs:Array Value} (h:∀x∈xs,Qbi x):Qbi (.tuple xs):=fun μ μ1 v' hv=> by
 cases hv with
 | tuple h1 h2=> exact .tuple h1 fun i v v' a b=> h v (Array.mem_of_getElem? a) μ μ1 v' (h2 i v v' a b)
theorem Quw {g:FuncId} {xs ys:Array Value} (h:∀x∈xs,Qbi x) (k:∀x∈ys,Qbi x):Qbi (.func (.func g) xs ys):=fun μ μ1 v' hv=> by
 cases hv with
 | func h1 h2 h3 h4=> exact .func h1 h2 (fun i v v' a b=> h v (Array.mem_of_getElem? a) μ μ1 v' (h3 i v v' a b)) (fun i v v' a b=> k v (Array.mem_of_getElem? a) μ μ1 v' (h4 i v v' a b))
theorem Qqy {t:TypeId} {v:Value} (h:Qbi v):Qbi (.iface t v):=fun μ μ1 v' hv=> by
 cases hv with
 | iface hv=> exact .iface (h μ μ1 _ hv)
theorem Qt0 {xs:Array Value} (h:∀x∈xs,∃d,Qbi d/\∀μ v',VR μ x v'->VR μ d v'):∃ds:Array Value,ds.size=xs.size/\(∀d∈ds,Qbi d)/\∀μ (xs':Array Value),(∀(i:Nat) v v',xs[i]? =some v->xs'[i]? =some v'->VR μ v v')->∀(i:Nat) v v',ds[i]? =some v->xs'[i]? =some v'->VR μ v v':=by
 have h':∀i:Fin xs.size,∃d,Qbi d/\∀μ v',VR μ xs[i] v'->VR μ d v':=fun i=> h xs[i] (Array.getElem_mem i.2)
 refine ⟨Array.ofFn fun i=> Classical.choose (h' i),by simp,fun d hd=> ?_,fun μ xs' hx i v v' hv hv'=> ?_⟩
 ·obtain ⟨i,hi⟩:=Array.mem_ofFn.1 hd;rw [<-hi];exact (Classical.choose_spec (h' i)).1
 ·rw [Array.getElem?_ofFn] at hv;split at hv
  ·rename_i hi;simp only [YO] at hv;subst hv;exact (Classical.choose_spec (h' ⟨i,hi⟩)).2 μ v' (hx i _ v' (by simp [hi]) hv')
  ·cases hv
theorem QdN (v:Value):∃d,Qbi d/\∀μ v',VR μ v v'->VR μ d v':=by
 have junk:∀{v:Value},(∀μ v',VR μ v v'->(∀b,v'≠.bool b)/\v'.cells=#[v']/\v'.oneCell'=true)->∃d,Qbi d/\∀μ v',VR μ v v'->VR μ d v':=
  fun h=> ⟨.chan none,QuZ,fun μ v' hv=> .junk (h μ v' hv).1 (h μ v' hv).2.1 (h μ v' hv).2.2⟩
 match v with
 | .agg xs=>
   obtain ⟨ds,e,hl,hd⟩:=Qt0 (xs:=xs) fun x _=> QdN x
   refine ⟨.agg ds,Qwr hl,fun μ v' hv=> ?_⟩;cases hv with
   | agg h1 h2=> exact .agg (e.trans h1) (hd μ _ h2)
 | .tuple xs=>
   obtain ⟨ds,e,hl,hd⟩:=Qt0 (xs:=xs) fun x _=> QdN x
   refine ⟨.tuple ds,Qss hl,fun μ v' hv=> ?_⟩;cases hv with
   | tuple h1 h2=> exact .tuple (e.trans h1) (hd μ _ h2)
 | .func (.func g) xs ys=>
   obtain ⟨ds,e,hl,hd⟩:=Qt0 (xs:=xs) fun x _=> QdN x
   obtain ⟨es,e',hl',hd'⟩:=Qt0 (xs:=ys) fun x _=> QdN x
   refine ⟨.func (.func g) ds es,Quw hl hl',fun μ v' hv=> ?_⟩;cases hv with
   | func h1 h2 h3 h4=> exact .func (e.trans h1) (e'.trans h2) (hd μ _ h3) (hd' μ _ h4)
 | .iface t x=>
   obtain ⟨d,hl,hd⟩:=QdN x;refine ⟨.iface t d,Qqy hl,fun μ v' hv=> ?_⟩;cases hv with
   | iface hv=> exact .iface (hd μ _ hv)
 | .bool b=> exact ⟨_,QfT rfl,fun _ _ h=> h⟩
 | .int k n=> exact ⟨_,QfT rfl,fun _ _ h=> h⟩
 | .string s=> exact ⟨_,QfT rfl,fun _ _ h=> h⟩
 | .nilFunc=> exact ⟨_,QfT rfl,fun _ _ h=> h⟩
 | .nilIface=> exact ⟨_,QfT rfl,fun _ _ h=> h⟩
 | .chan r=> exact junk fun μ v' h=> by cases h with
   | junk a b c=> exact ⟨a,b,c⟩
   | noCap=> exact ⟨(fun b e=> by cases e),rfl,rfl⟩
 | .pointer a=> exact junk fun μ v' h=> by cases h <;> exact ⟨(fun b e=> by cases e),rfl,rfl⟩
 | .slice a n c=> exact junk fun μ v' h=> by cases h <;> exact ⟨(fun b e=> by cases e),rfl,rfl⟩
 | .map r=> exact junk fun μ v' h=> by cases h <;> exact ⟨(fun b e=> by cases e),rfl,rfl⟩
 | .func (.yield l) xs ys=> exact junk fun μ v' h=> by cases h <;> exact ⟨(fun b e=> by cases e),rfl,rfl⟩
 | .func (.method s) xs ys=> exact junk fun μ v' h=> by cases h
 | .func (.methodOf t s) xs ys=> exact junk fun μ v' h=> by cases h
 | .func (.via t p f q) xs ys=> exact junk fun μ v' h=> by cases h with | top a b c=> exact ⟨c.nobool a,c.one a⟩
 | .float k b=> exact junk fun μ v' h=> by cases h
 | .complex k a b=> exact junk fun μ v' h=> by cases h
termination_by SizeOf.sizeOf v
decreasing_by
 all_goals simp_wf
 all_goals first
  | (have:=Array.sizeOf_lt_of_mem ‹_∈_›;omega)
  | omega
end Go.CE
namespace Go.CE
open Go Go.RowKit
end Go.CE

namespace Go.CE
open Go Go.RowKit

structure GoE (P:Program) (B:Lo) (c0:CF) (H0:Qan) (n:Nat) (c':CF) (H':Qan) (n':Nat) (W:List Nat):Prop where
 under:Under H' n'
 le:n<=n'
 sem:∀(Z:Bot) (μ:Mu) (w:World) (fr:Frame) (cs:List Frame),Ok B (fun i=> i < n) μ (Qao H0) w->B.has w->(∀i,n<=i->μ i=none)->FrR Z μ c0 fr->
  ∃fr' w' μ',Post B (fun i=> i < n) n n' W μ μ' H0 H' w w'/\FrR Z μ' c' fr'/\fr'.roundOf=fr.roundOf/\fr'.fn=fr.fn/\Steps P (lone fr cs w) (lone fr' cs w')
section
variable {P:Program} {B:Lo} {c0 c1 c2:CF} {H0 H1 H2:Qan} {n n1 n2:Nat} {W W1 W2 R2:List Nat}
theorem GoE.refl (hu:Under H0 n):GoE P B c0 H0 n c0 H0 n []:=
 ⟨hu,Nat.le_refl _,fun _ μ w fr _ hok _ _ hfr=> ⟨fr,w,μ,Post.refl hok,hfr,rfl,rfl,Steps.refl _ _⟩⟩
theorem GoE.lists (h:GoE P B c0 H0 n c1 H1 n1 W) (hW:∀i,i < n->(i∈W1<->i∈W)):GoE P B c0 H0 n c1 H1 n1 W1:=
 ⟨h.under,h.le,fun Z μ w fr cs hok hB hf hfr=> let ⟨fr',w',μ',hp,a⟩:=h.sem Z μ w fr cs hok hB hf hfr;⟨fr',w',μ',hp.lists hW,a⟩⟩
theorem GoE.step (h:GoE P B c0 H0 n c1 H1 n1 W1) (k:GoJ P B c1 H1 n1 c2 H2 n2 R2 W2):GoE P B c0 H0 n c2 H2 n2 (W1++W2):=by
 refine ⟨h.under.shape k.shape,Nat.le_trans h.le k.shape.le,fun Z μ w fr cs hok hB hf hfr=> ?_⟩;have le1:=h.le;obtain ⟨fr1,w1,μ1,hp,hfr1,hr,hfn,hst⟩:=h.sem Z μ w fr cs hok hB hf hfr;obtain ⟨fr2,w2,μ2,hp2,hfr2,hr2,hfn2,hst2⟩:=k.sem _ μ1 w1 fr1 cs Z hp.ok (hB.post hok hp) (fun i hi=> hi.elim (fun e=> by omega) (fun e=> e.2)) (fun q a b=> by rw [hp.ext q (by omega)];exact hf q (by omega)) hfr1
  (fun q _ hlt=> by
   rcases Nat.lt_or_ge q n with h1 | h1
   ·exact .inl h1
   ·exact .inr ⟨h1,hlt⟩)
 exact ⟨fr2,w2,μ2,hp.trans hp2,hfr2,hr2.trans hr,hfn2.trans hfn,hst.trans hst2⟩
theorem GoE.fj {out:OO} (h:GoE P B c0 H0 n c1 H1 n1 W1) (k:FJ P B c1 H1 n1 out H2 n2 R2 W2) (μ:Mu) (w:World) (fr:Frame) (cs:List Frame) (hok:Ok B (fun i=> i < n) μ (Qao H0) w) (hB:B.has w) (hf:∀i,n<=i->μ i=none) (hfr:FrR Bot.no μ c0 fr):
 ∃out' w' μ',Post B (fun i=> i < n) n n2 (W1++W2) μ μ' H0 H2 w w'/\OR2 μ' out out'/\EndsAs P fr cs w out' w':=by
 have le1:=h.le;obtain ⟨fr1,w1,μ1,hp,hfr1,hr,hfn,hst⟩:=h.sem Bot.no μ w fr cs hok hB hf hfr;obtain ⟨out',w2,μ2,hp2,ho,he⟩:=k.sem _ μ1 w1 fr1 cs hp.ok (hB.post hok hp) (fun i hi=> hi.elim (fun e=> by omega) (fun e=> e.2)) (fun q a b=> by rw [hp.ext q (by omega)];exact hf q (by omega)) hfr1
  (fun q _ hlt=> by
   rcases Nat.lt_or_ge q n with h1 | h1
   ·exact .inl h1
   ·exact .inr ⟨h1,hlt⟩)
 exact ⟨out',w2,μ2,hp.trans hp2,ho,he.of_steps hst hr hfn⟩
end

def look:List (Nat×Value)->Nat->Value->Value
 | [],_,d=> d
 | (a,v)::l,t,d=> bif Nat.beq a t then v else look l t d
theorem QuD (l:List (Nat×Value)) (t:Nat) (d:Value):look l t d=d\/∃v,(t,v)∈l/\look l t d=v:=by
 induction l with
 | nil=> exact .inl rfl
 | cons p l ih=>
   obtain ⟨a,v⟩:=p;cases hb:Nat.beq a t with
   | true=>
     have:=YE hb;subst this;exact .inr ⟨v,by simp,by simp [look]⟩
   | false=>
     simp only [look,hb,cond_false];exact ih.imp id fun ⟨v,h1,h2⟩=> ⟨v,List.mem_cons_of_mem _ h1,h2⟩
def mkL (live:List (Nat×Value)) (d:Nat->Value):Nat->Nat->List Value
 | 0,_=> []
 | k+1,t=> look live t (d t)::mkL live d k (t+1)
theorem Qh3 (live:List (Nat×Value)) (d:Nat->Value):∀(k t:Nat),(mkL live d k t).length=k
 | 0,_=> rfl
 | k+1,t=> by simp [mkL,Qh3 live d k]
theorem Qvy (live:List (Nat×Value)) (d:Nat->Value):∀(k t i:Nat),i < k->(mkL live d k t).getD i undef=look live (t+i) (d (t+i))
 | 0,_,i,h=> by omega
 | k+1,t,0,_=> rfl
 | k+1,t,i+1,h=> by
   have:=Qvy live d k (t+1) i (by omega);rw [show t+(i+1)=t+1+i by omega,<-this];rfl
def mkT (len:Nat) (live:List (Nat×Value)) (d:Nat->Value):Tm:=ofList len (mkL live d len 0)
theorem Q1O {len:Nat} {live:List (Nat×Value)} {d:Nat->Value} (hl:len<=16000) (t:Nat):Qch (mkT len live d) t=if t < len then look live t (d t) else undef:=by
 have h:=QmJ (mkL live d len 0) 0 .lf t (by rw [Qh3];omega);have e:Qch (mkT len live d) t=(ofL (mkL live d len 0) 0 .lf).get t:=rfl;rw [e,h];simp only [Nat.zero_le,true_and,Nat.zero_add,Qh3,Nat.sub_zero,Tri.get_lf];split
 ·rename_i ht;rw [Qvy live d len 0 t ht,Nat.zero_add]
 ·rfl
def Qey:Item->Bool
 | .endRangeFunc _=> false
 | .inRangeFunc _=> false
 | _=> true
theorem TodoR.plain {μ μ1:Mu} {l L:List Item} (h:TodoR μ l L) (hp:l.all Qey=true):TodoR μ1 l L:=by
 induction h with
 | nil=> exact .nil
 | cons hi _ ih=>
   simp only [List.all_cons,YB] at hp;refine .cons ?_ (ih hp.2);cases hi with
   | code c=> exact .code c
   | inBlock id=> exact .inBlock id
   | inLoop c=> exact .inLoop c
   | inScope c=> exact .inScope c
   | beginRound=> exact .beginRound
   | endRF h=> cases hp.1
def Qa8 (f:FuncId) (len:Nat) (live:List (Nat×Value)) (d:Nat->Value) (todo:List Item):CF:=⟨f,mkT len live d,todo,[],.run,none⟩
end Go.CE

namespace Go.CE
open Go Go.RowKit

inductive Hint where
 | val (v:Value)
 | idx (k:Nat)
 | ld (v:Value)
 | raw (v:Value)
 | len (n:Nat)
 | eq (b:Bool)
 | app (cs:Array Value)
 | mk (m:Nat) (cs:Array Value)
 | st (cs:Array Value)
 | call (keys:List Nat) (out:Value) (ups:Qan) (n':Nat) (W:List Nat)
 | look (v:Value)
 | upd (es:Array MapEntry) (clk:Nat)
 | nil
def veq:Value->Value->Prop
 | .int k a,.int k' b=> bif decide (k=k') then a=b else False
 | .bool a,.bool b=> a=b
 | u,v=> u=v
theorem Q3z {u v:Value} (h:veq u v):u=v:=by
 unfold veq at h;split at h
 ·rename_i k a k' b;by_cases e:k=k'
  ·simp only [e,decide_true,cond_true] at h;rw [e,h]
  ·simp [e] at h
 ·rw [h]
 ·exact h
def Qdw:Option Nat->Bool
 | none=> true
 | some 0=> true
 | _=> false
def Qzq (v:Value) (m:Nat):Prop:=∀μ v',VR μ v v'->∃a c,v'=.slice a m c
theorem QlY {P:Program} {t:TypeId} {cs:Array Value} {off:Nat} {v:Value} (h:QeT P t cs off=some v) (w:World):(part t cs off).run P w=.ok v w:=by
 unfold QeT at h;cases ha:Qv7 P t with
 | none=> rw [ha] at h;cases h
 | some b=>
   rw [ha] at h;cases b with
   | true=>
     cases hs:QdK P t with
     | none=> rw [hs] at h;cases h
     | some s=>
       rw [hs] at h;dsimp only at h;cases hb:Nat.ble (off+s) cs.size with
       | false=> rw [hb] at h;cases h
       | true=>
         rw [hb] at h;simp only [cond_true,YO] at h;subst h;simp only [part,Sem.run_bind,Qde ha,Result.andThen_ok,if_true,Qbl hs,Sem.run_pure]
   | false=>
     simp only at h;simp only [part,Sem.run_bind,Qde ha,Result.andThen_ok,h];rfl
def Qc2 (v:Value):Bool:=af v
def Q2J (P:Program) (rec:TypeId->Value->Value->Option Bool):List Field->Array Value->Array Value->Option Bool
 | [],_,_=> some true
 | f::fs,xs,ys=> bif decide (f.name= "_") then Q2J P rec fs xs ys else
   match QeT P f.type xs f.offset,QeT P f.type ys f.offset with
   | some a,some b=> match rec f.type a b,Q2J P rec fs xs ys with
     | some r,some q=> some (r && q)
     | _,_=> none
   | _,_=> none
def eqT (P:Program):Nat->TypeId->Value->Value->Option Bool
 | 0,_,_,_=> none
 | d+1,t,x,y=> match und P t,x,y with
   | some (.int _),.int k a,.int k' b=> bif decide (k=k') then some (eqq a b) else none
   | some .bool,.bool a,.bool b=> some (bif a then b else !b)
   | some (.struct fs),.agg xs,.agg ys=> bif P.stoodInHeld t then none else Q2J P (eqT P d) fs.toList xs ys
   | _,_,_=> none
theorem Qn2 {P:Program} {rec:TypeId->Value->Value->Option Bool} (d:Nat) (hrec:∀t x y r,rec t x y=some r->∀(D:Nat) (w:World),d<=D->(Op.equalIn D t x y).run P w=.ok r w):∀(fs:List Field) (xs ys:Array Value) (r:Bool),Q2J P rec fs xs ys=some r->∀(D:Nat) (w:World),d<=D->(Op.eqFields D xs ys fs).run P w=.ok r w
 | [],xs,ys,r,h,D,w,hD=> by
   simp only [Q2J,YO] at h;subst h;simp [Op.eqFields]
 | f::fs,xs,ys,r,h,D,w,hD=> by
   unfold Q2J at h;by_cases e:f.name= "_"
   ·simp only [e,decide_true,cond_true] at h;simp only [Op.eqFields,e,ne_eq,not_true_eq_false,if_false];exact Qn2 d hrec fs xs ys r h D w hD
   ·simp only [e,decide_false,cond_false] at h;split at h
    ·rename_i a b ha hb;split at h
     ·rename_i r1 q h1 h2;simp only [YO] at h;subst h;have pa:(part f.type xs f.offset).run P w=.ok a w:=QlY ha w;have pb:(part f.type ys f.offset).run P w=.ok b w:=QlY hb w;simp only [Op.eqFields,e,ne_eq,not_false_eq_true,if_true,Sem.run_bind,pa,Result.andThen_ok,pb,hrec f.type a b r1 h1 D w hD];cases r1 with
      | true=> simpa using Qn2 d hrec fs xs ys q h2 D w hD
      | false=> simp
     ·cases h
    ·cases h
theorem QpW {P:Program}:∀(d:Nat) (t:TypeId) (x y:Value) (r:Bool),eqT P d t x y=some r->∀(D:Nat) (w:World),d<=D->(Op.equalIn D t x y).run P w=.ok r w
 | 0,t,x,y,r,h,D,w,hD=> by simp [eqT] at h
 | d+1,t,x,y,r,h,D,w,hD=> by
   obtain ⟨D,rfl⟩:∃e,D=e+1:=⟨D - 1,by omega⟩
   unfold eqT at h;simp only [Qb9] at h;split at h
   ·rename_i k0 k a k' b hu;by_cases e:k=k'
    ·subst e;simp only [decide_true,cond_true,YO] at h;rw [run_equalIn_int w D t k k0 a b hu,<-h,Qjj]
    ·simp [e] at h
   ·rename_i a b hu;simp only [YO] at h;rw [run_equalIn_bool' w D t a b hu,<-h];cases a <;> cases b <;> rfl
   ·rename_i fs xs ys hu;cases hs:P.stoodInHeld t with
    | true=> rw [hs] at h;cases h
    | false=>
      rw [hs] at h;simp only [cond_false] at h;have hf:P.fieldsOf t=fs:=by simp [Program.fieldsOf,hu]
      rw [run_equalIn_struct w D t xs ys (by rw [hf];exact hu) hs,hf];exact Qn2 d (QpW d) fs.toList xs ys r h D w (by omega)
   ·cases h
def QvR (B:Lo) (b off:Nat) (v:Value):Prop:=∀w,B.has w->∃v',w.cell? ⟨b,off,none⟩=some v'/\∀μ,VR μ v v'
def Qrx (P:Program) (B:Lo) (g:FuncId) (args:Array Value) (H:Qan) (n:Nat) (out:OO) (H':Qan) (n':Nat) (R W:List Nat):Prop:=
 Shape H n H' n' R W/\∀(S:Nat->Prop) (μ:Mu) (w:World) (args':Array Value) (cs:List Frame),Ok B S μ (Qao H) w->B.has w->(∀i,S i->i < n)->QiU μ n n'->VRs μ args args'->(∀i∈R,i < n->S i)->
  ∃out' w' μ',Post B S n n' W μ μ' H H' w w'/\OR2 μ' out out'/\EndsAs P (Frame.enter P g args' .normal) cs w out' w'
def CJ (P:Program) (B:Lo) (g:FuncId) (args:Array Value) (Hs:List (Nat×Option Obj)) (n:Nat) (out:Value) (ups:Qan) (n':Nat) (W:List Nat):Prop:=
 ∀H,Under H n->(∀p∈Hs,Qao H p.1=p.2)->Qrx P B g args H n (.ret out) (ups++H) n' (Hs.map (·.1)) W
def RJ (P:Program) (B:Lo) (c:CF) (Hs:List (Nat×Option Obj)) (n:Nat) (out:Value) (ups:Qan) (n':Nat) (W:List Nat):Prop:=
 ∀H,Under H n->(∀p∈Hs,Qao H p.1=p.2)->FJ P B c H n (.ret out) (ups++H) n' (Hs.map (·.1)) W
open Classical in
noncomputable def QgI (c:CF) (H1:Qan) (n:Nat) (s:Rs):CF->Qan->Nat->Option Rs:=fun c' H' m'=> if c'=c/\H'=H1/\m'=n then some s else none
theorem Qfx (c:CF) (H1:Qan) (n:Nat) (s:Rs):QgI c H1 n s c H1 n=some s:=by simp [QgI]
theorem RJ.recS {P:Program} {B:Lo} {c:CF} {H1:Qan} {n:Nat} {out:Value} {ups:Qan} {n':Nat} {W keys:List Nat} (hu:Under H1 n) (h:RJ P B c (keys.map fun k=> (k,Qao H1 k)) n out ups n' W):Qut P B (QgI c H1 n ⟨.ret out,ups++H1,n',keys,W⟩):=by
 intro c' H' m' s _ hs;unfold QgI at hs;split at hs
 ·rename_i q;obtain ⟨rfl,rfl,rfl⟩:=q;simp only [YO] at hs;subst hs;have:=h H' hu (fun p hp=> by
   obtain ⟨k,_,rfl⟩:=List.mem_map.1 hp;rfl)
  rw [List.map_map] at this;have e:keys.map ((fun p:Nat×Option Obj=> p.1) ∘ fun k=> (k,Qao H' k))=keys:=List.map_id' _;rw [e] at this;exact this
 ·cases hs
structure Told where
 s:Rs
 p:Option Prop
def Q4h (P:Program) (t:TypeId) (H:Qan) (n:Nat) (s x:Value) (cs':Array Value):Option (CR×Prop):=
 match und P t with
 | some (.slice e)=> match inf P e with
   | some i=> match i.zero,i.size with
     | some zv,z+1=> match s with
       | .slice (some ⟨b,0,none⟩) k s'=> match Qao H b with
         | some (.cells cs te (0,0))=> match QpL H (z+1) x with
           | some (ns,m,bx)=> bif Nat.beq te e && Nat.beq s' (z+1) && ones ns && Nat.beq zv.cells.size (z+1) && Nat.blt 0 m then
            some (⟨.val (.slice (some ⟨n,0,none⟩) (k+m) (z+1)),(n,.cells cs' e (0,0))::QiF H (some b),n+1,[bx,b],[b]⟩,cs.size=k * (z+1)/\k+m<=maxLen/\(k+m) * i.bytes<=140737488355328/\cs++ns=cs')
             else none
           | none=> none
         | _=> none
       | _=> none
     | _,_=> none
   | none=> none
 | _=> none

def Q3H (P:Program) (t:TypeId) (es:Array MapEntry) (ok:Bool) (k v:Value):Prop:=∀H r clk,Qao H r=some (.map es clk)->Qj0 P t H ok (.map (some r)) k=some (v,[r])
def Q2N (P:Program) (t:TypeId) (es:Array MapEntry) (clk:Nat) (k v:Value) (es':Array MapEntry) (clk':Nat):Prop:=∀H r,Qao H r=some (.map es clk)->Qd8 P t H (.map (some r)) k v=some (QeO H r (.map es' clk'),r)
def opH (P:Program) (F:FuncId->Bool) (B:Lo) (T:Tm) (o:Oper) (H:Qan) (n:Nat):Option Hint->Option Told
 | none=> match o.op with
   | .fieldAddr s x f=> match evC T x with
     | some (.pointer (some ⟨b,off,some 0⟩))=> match QbC P s f (.pointer (some ⟨b,off,none⟩)) with
       | some (.pointer (some ⟨b',off',none⟩))=> some ⟨⟨.ret (.pointer (some ⟨b',off',some 0⟩)),H,n,[],[]⟩,none⟩
       | _=> none
     | _=> match opS P F QaK (fun _ _ _=> none) T o H n with | some s=> some ⟨s,none⟩ | none=> none
   | _=> match opS P F QaK (fun _ _ _=> none) T o H n with | some s=> some ⟨s,none⟩ | none=> none
 | some (.val v)=> match opS P F QaK (fun _ _ _=> none) T o H n with
   | some ⟨.ret u,H1,n1,R,W⟩=> some ⟨⟨.ret v,H1,n1,R,W⟩,some (veq u v)⟩
   | _=> none
 | some (.idx k)=> match o.op with
   | .indexAddr t x i=> match evC T x,evC T i with
     | some (.slice (some ⟨b,off,sp⟩) len _),some (.int _ q)=> match und P t with
       | some (.slice e)=> match QdK P e with
         | some z=> bif Qdw sp then some ⟨⟨.ret (.pointer (some ⟨b,off+k * z,sp⟩)),H,n,[],[]⟩,some (q=(k:Int)/\k < len)⟩ else none
         | none=> none
       | _=> none
     | some (.pointer (some ⟨b,off,sp⟩)),some (.int _ q)=> match und P t with
       | some (.array len e)=> match QdK P e with
         | some z=> bif Qdw sp then some ⟨⟨.ret (.pointer (some ⟨b,off+k * z,sp⟩)),H,n,[],[]⟩,some (q=(k:Int)/\k < len)⟩ else none
         | none=> none
       | _=> none
     | _,_=> none
   | _=> none
 | some (.ld v)=> match o.op with
   | .load t a=> match evC T a with
     | some (.pointer (some ⟨b,off,none⟩))=> match Qao H b with
       | some (.cells cs _ _)=> bif Nat.blt b n then match Qv7 P t with
         | some true=> match QdK P t,v with
           | some z,.agg xs=> some ⟨⟨.ret v,H,n,[b],[]⟩,some (off+z<=cs.size/\cs.extract off (off+z)=xs)⟩
           | _,_=> none
         | some false=> some ⟨⟨.ret v,H,n,[b],[]⟩,some (cs[off]? =some v)⟩
         | none=> none
         else none
       | _=> none
     | _=> none
   | _=> none
 | some (.raw v)=> match o.op with
   | .load t a=> match evC T a with
     | some (.pointer (some ⟨b,off,some 0⟩))=> match Qv7 P t with
       | some true=> match QdK P t,v with
         | some z,.agg xs=> bif Nat.beq xs.size z then some ⟨⟨.ret v,H,n,[],[]⟩,some (∀(j:Nat) u,xs[j]? =some u->QvR B b (off+j) u)⟩ else none
         | _,_=> none
       | some false=> some ⟨⟨.ret v,H,n,[],[]⟩,some (QvR B b off v)⟩
       | none=> none
     | _=> none
   | _=> none
 | some (.eq b)=> match o.op with
   | .binOp op t x y _=> match evC T x,evC T y with
     | some (.agg xs),some (.agg ys)=> bif P.eqGuardType P.depth t then none else match op with
       | .eql=> match eqT P 100 t (.agg xs) (.agg ys) with
         | some r=> bif Qc2 (.agg xs) && Qc2 (.agg ys) then some ⟨⟨.ret (.bool b),H,n,[],[]⟩,some (r=b)⟩ else none
         | none=> none
       | .neq=> match eqT P 100 t (.agg xs) (.agg ys) with
         | some r=> bif Qc2 (.agg xs) && Qc2 (.agg ys) then some ⟨⟨.ret (.bool b),H,n,[],[]⟩,some ((!r)=b)⟩ else none
         | none=> none
       | _=> none
     | _,_=> none
   | _=> none
 | some (.len m)=> match o.op with
   | .call c=> match c.callee with
     | .builtin .len=> match c.args.toList,c.argTypes.toList with
       | [x],[t]=> match evC T x,und P t with
         | some v,some (.slice _)=> some ⟨⟨.ret (.int .i64 m),H,n,[],[]⟩,some (Qzq v m)⟩
         | _,_=> none
       | _,_=> none
     | _=> none
   | _=> none
 | some (.app cs')=> match o.op with
   | .call c=> match c.callee with
     | .builtin .append=> match c.args.toList,c.argTypes.toList with
       | [s,x],[t,t']=> bif Nat.beq t t' then
        match evC T s,evC T x with
        | some sv,some xv=> match Q4h P t H n sv xv cs' with
          | some (⟨.val v,H1,n1,R,W⟩,p)=> bif R.all (fun i=> Nat.blt i n) then some ⟨⟨.ret v,H1,n1,R,W⟩,some p⟩ else none
          | _=> none
        | _,_=> none
         else none
       | _,_=> none
     | _=> none
   | _=> none
 | some (.mk m cs)=> match o.op with
   | .makeSlice t l c=> match evC T l,evC T c with
     | some x,some y=> match und P t with
       | some (.slice e)=> match QdK P e with
         | some z=> some ⟨⟨.ret (.slice (some ⟨n,0,none⟩) m z),(n,.cells cs e (0,0))::H,n+1,[],[]⟩,some (Qj9 P t x y=some (e,cs,m,z))⟩
         | none=> none
       | _=> none
     | _,_=> none
   | _=> none
 | some (.st cs')=> match o.op with
   | .store t a x=> match evC T a,evC T x with
     | some (.pointer (some ⟨b,off,none⟩)),some v=> match Qao H b with
       | some (.cells cs te (0,0))=> match QdK P t with
         | some z=> bif Nat.blt b n && Nat.beq v.cells.size z && ones v.cells then some ⟨⟨.ret undef,QeO H b (.cells cs' te (0,0)),n,[b],[b]⟩,some (off+z<=cs.size/\splice cs off v.cells=cs')⟩ else none
         | none=> none
       | _=> none
     | _,_=> none
   | _=> none
 | some (.call keys out ups n' W)=> match o.op with
   | .call _=> match Qlt P F (evC T) o H n with
     | some ⟨.enter g args,H1,n1,R,W1⟩=> bif Nat.beq n1 n && W1.isEmpty then some ⟨⟨.ret out,ups++H1,n',R++keys,W⟩,some (CJ P B g args (keys.map fun k=> (k,Qao H1 k)) n out ups n' W)⟩ else none
     | some ⟨.round l fn tm a b,H1,n1,R,W1⟩=> bif Nat.beq n1 n && W1.isEmpty && Nat.ble tm.size 16000 then some ⟨⟨.ret out,ups++H1,n',R++keys,W⟩,some (RJ P B ⟨fn,ofList tm.size tm.toList,[.code a,.beginRound,.code b],[],.run,some l⟩ (keys.map fun k=> (k,Qao H1 k)) n out ups n' W)⟩ else none
     | _=> none
   | _=> none
 | some (.look v)=> match o.op with
   | .lookup t x k ok=> match evC T x,evC T k with
     | some (.map (some r)),some kv=> match Qao H r with
       | some (.map es _)=> bif Nat.blt r n then some ⟨⟨.ret v,H,n,[r],[]⟩,some (Q3H P t es ok kv v)⟩ else none
       | _=> none
     | _,_=> none
   | _=> none
 | some (.upd es' clk')=> match o.op with
   | .mapUpdate t m k x=> match evC T m,evC T k,evC T x with
     | some (.map (some r)),some kv,some v=> match Qao H r with
       | some (.map es clk)=> bif Nat.blt r n then some ⟨⟨.ret undef,QeO H r (.map es' clk'),n,[r],[r]⟩,some (Q2N P t es clk kv v es' clk')⟩ else none
       | _=> none
     | _,_,_=> none
   | _=> none
 | some .nil=> match o.op with
   | .call c=> match c.callee with
     | .builtin .append=> match c.args.toList,c.argTypes.toList with
       | [s,x],[t,t']=> bif Nat.beq t t' then match evC T s,evC T x with
        | some (.slice none 0 0),some (.slice none 0 0)=> match und P t with
          | some (.slice e)=> match QdK P e with
            | some _=> some ⟨⟨.ret (.slice none 0 0),H,n,[],[]⟩,none⟩
            | none=> none
          | _=> none
        | _,_=> none
         else none
       | _,_=> none
     | _=> none
   | _=> none
section
variable {P:Program} {F:FuncId->Bool} {B:Lo} {T:Tm} {o:Oper} {H:Qan} {n:Nat}
theorem Qeq:Qut P B (fun _ _ _=> none):=fun _ _ _ _ _ h=> by cases h
theorem Qdi {v:Value} {ev:Operand->Option Value} (hd:∀c,o.op≠.defer c) (h:∀(μ:Mu) (w:World) (ρ:Operand->Value),B.has w->(∀x∈o.op.operands,∀v,ev x=some v->VR μ v (ρ x))->∃v',(execOp ρ o).run P w=.ok (.value v') w/\VR μ v v'):
 Ql9 P B o ev H n (.ret v) H n [] []:=fun _ μ w fr _ _ _ _ _ hok hB _ _ hev _ hm ht ho hw=>
 let ⟨v',h1,h2⟩:=h μ w fr.eval hB hev
 ⟨.ret v',w,μ,Post.refl hok,.ret h2,Qes hm ht ho hw hd h1⟩
theorem Qga {s:TypeId} {f b off:Nat} {b' off':Nat} (h:QbC P s f (.pointer (some ⟨b,off,none⟩))=some (.pointer (some ⟨b',off',none⟩))) (w:World):b'=b/\(Instr.fieldAt s (.pointer (some ⟨b,off,none⟩)) f).run P w=.ok (.pointer (some ⟨b',off',none⟩)) w:=by
 unfold QbC at h;simp only [Qb9] at h;split at h
 ·rename_i fields hu;cases hfd:fields[f]? with
  | none=> rw [hfd] at h;cases h
  | some fd=>
    rw [hfd] at h;dsimp only at h;split at h
    ·rename_i z hz;simp only [YO,Value.pointer.injEq,Addr.mk.injEq,and_true] at h;obtain ⟨rfl,rfl⟩:=h;refine ⟨rfl, ?_⟩;simp only [Instr.fieldAt,Sem.run_bind,run_underlying hu,Result.andThen_ok,hfd,Instr.sureAddr,Sem.run_pure,fieldPlace,Qbl hz,QbV];simp
    ·cases h
 ·cases h
theorem Qpb {t e:TypeId} {b off len c z k:Nat} {q:Int} {kk:IntKind} (hu:und P t=some (.slice e)) (hz:QdK P e=some z) (hq:q=(k:Int)) (hk:k < len) (w:World):
 (Instr.indexAt t (.slice (some ⟨b,off,none⟩) len c) (.int kk q)).run P w=.ok (.pointer (some ⟨b,off+k * z,none⟩)) w:=by
 rw [Qb9] at hu;subst hq;have hc:0<=(k:Int)/\(k:Int) < len:=by omega
 simp only [Instr.indexAt,Sem.run_bind,asIntOf,Sem.run_pure,Result.andThen_ok,run_underlying hu,hc,and_self,if_true,Qbl hz,QbV,Int.toNat_natCast]
theorem Qin {t e:TypeId} {b off len z k:Nat} {q:Int} {kk:IntKind} (hu:und P t=some (.array len e)) (hz:QdK P e=some z) (hq:q=(k:Int)) (hk:k < len) (w:World):
 (Instr.indexAt t (.pointer (some ⟨b,off,none⟩)) (.int kk q)).run P w=.ok (.pointer (some ⟨b,off+k * z,none⟩)) w:=by
 rw [Qb9] at hu;subst hq;have hc:0<=(k:Int)/\(k:Int) < len:=by omega
 simp only [Instr.indexAt,Sem.run_bind,asIntOf,Sem.run_pure,Result.andThen_ok,run_underlying hu,Instr.sureAddr,hc,and_self,if_true,Qbl hz,QbV,Int.toNat_natCast]
theorem Q2i {μ:Mu} {b off k z:Nat} {sp:Option Nat} {v':Value} (hsp:Qdw sp=true) (h:VR μ (.pointer (some ⟨b,off,sp⟩)) v'):∃b' off',v'=.pointer (some ⟨b',off',none⟩)/\VR μ (.pointer (some ⟨b,off+k * z,sp⟩)) (.pointer (some ⟨b',off'+k * z,none⟩)):=by
 cases h with
 | ptr har=>
   obtain ⟨im,h1,h2,rfl⟩:=har;simp only at h2;subst h2;exact ⟨_,_,rfl,.ptr ⟨im,h1,rfl,by simp [Nat.add_assoc]⟩⟩
 | rawPtr _ _ q=>
   cases q with
   | zero=> exact ⟨_,_,rfl,.rawPtr _ _ 0⟩
   | succ q=> cases hsp
theorem Qzc {μ:Mu} {b off len s k z:Nat} {sp:Option Nat} {v':Value} (hsp:Qdw sp=true) (h:VR μ (.slice (some ⟨b,off,sp⟩) len s) v'):∃b' off' c',v'=.slice (some ⟨b',off',none⟩) len c'/\VR μ (.pointer (some ⟨b,off+k * z,sp⟩)) (.pointer (some ⟨b',off'+k * z,none⟩)):=by
 cases h with
 | slice har=>
   obtain ⟨im,h1,h2,rfl⟩:=har;simp only at h2;subst h2;exact ⟨_,_,_,rfl,.ptr ⟨im,h1,rfl,by simp [Nat.add_assoc]⟩⟩
 | rawSlice _ _ q=>
   cases q with
   | zero=> exact ⟨_,_,_,rfl,.rawPtr _ _ 0⟩
   | succ q=> cases hsp
theorem Qpn {μ:Mu} {k:IntKind} {q:Int} {v':Value} (h:VR μ (.int k q) v'):v'=.int k q:=by cases h;rfl
theorem Qnr {t e ty:TypeId} {z:Nat} (hu:und P t=some (.slice e)) (hz:QdK P e=some z) (w:World):(Builtin.append_ #[t,t] ty #[.slice none 0 0,.slice none 0 0]).run P w=.ok (.slice none 0 0) w:=by
 rw [Qb9] at hu;simp [Builtin.append_,Sem.run_bind,run_underlying hu,Result.andThen_ok,Qbl hz,Builtin.lenOf,Builtin.firstCells,Sem.run_pure]
theorem QpD (hF:∀g,F g=true->Qa3 P g=true) (hu:Under H n) {h:Option Hint} {a:Told} (e:opH P F B T o H n h=some a) (hp:∀p,a.p=some p->p):
 Ql9 P B o (evC T) H n a.s.out a.s.H a.s.n a.s.R a.s.W/\Shape H n a.s.H a.s.n a.s.R a.s.W:=by
 have plain:∀{s:Rs},opS P F QaK (fun _ _ _=> none) T o H n=some s->Ql9 P B o (evC T) H n s.out s.H s.n s.R s.W/\Shape H n s.H s.n s.R s.W:=fun h=> QdV hF Qeq (Qaz P B) hu h
 have plain':(match opS P F QaK (fun _ _ _=> none) T o H n with | some s=> some (⟨s,none⟩:Told) | none=> none)=some a->Ql9 P B o (evC T) H n a.s.out a.s.H a.s.n a.s.R a.s.W/\Shape H n a.s.H a.s.n a.s.R a.s.W:=by
  intro h;split at h
  ·rename_i s hs;simp only [YO] at h;subst h;exact plain hs
  ·cases h
 unfold opH at e;split at e
 ·-- nothing is told
  split at e
  ·rename_i s x f hop;split at e
   ·rename_i b off hx;split at e
    ·rename_i b' off' hc;simp only [YO] at e;subst e;refine ⟨Qdi (fun c h=> by rw [hop] at h;cases h) fun μ w ρ _ hev=> ?_,Shape.same _ _ _⟩;have hv:=hev x (by simp [hop,Op.operands]) _ hx;obtain ⟨rfl,hr⟩:=Qga (P:=P) hc w;generalize hg:ρ x=u at hv;cases hv with
     | ptr har=> obtain ⟨im,_,h2,_⟩:=har;cases h2
     | rawPtr=> exact ⟨_,by simp [execOp,hop,hg,hr,QpG],.rawPtr _ _ 0⟩
    ·cases e
   ·exact plain' e
  ·exact plain' e
 ·-- a value
  rename_i v;split at e
  ·rename_i u H1 n1 R W hs;simp only [YO] at e;subst e;have:=Q3z (hp _ rfl);subst this;exact plain hs
  ·cases e
 ·-- an element's address
  rename_i k;split at e
  ·rename_i t x i hop;split at e
   ·rename_i b off sp len c kk q hx hi;split at e
    ·rename_i el hue;split at e
     ·rename_i z hz;have hsp:Qdw sp=true:=by
       cases h:Qdw sp with
       | true=> rfl
       | false=> rw [h] at e;cases e
      rw [hsp] at e;simp only [cond_true,YO] at e;subst e;obtain ⟨hq,hk⟩:=hp _ rfl;refine ⟨Qdi (fun c h=> by rw [hop] at h;cases h) fun μ w ρ _ hev=> ?_,Shape.same _ _ _⟩;obtain ⟨b',off',c',h1,h2⟩:=Qzc (k:=k) (z:=z) hsp (hev x (by simp [hop,Op.operands]) _ hx);have h3:=Qpn (hev i (by simp [hop,Op.operands]) _ hi);exact ⟨_,by simp [execOp,hop,h1,h3,Qpb hue hz hq hk],h2⟩
     ·cases e
    ·cases e
   ·rename_i b off sp kk q hx hi;split at e
    ·rename_i len el hue;split at e
     ·rename_i z hz;have hsp:Qdw sp=true:=by
       cases h:Qdw sp with
       | true=> rfl
       | false=> rw [h] at e;cases e
      rw [hsp] at e;simp only [cond_true,YO] at e;subst e;obtain ⟨hq,hk⟩:=hp _ rfl;refine ⟨Qdi (fun c h=> by rw [hop] at h;cases h) fun μ w ρ _ hev=> ?_,Shape.same _ _ _⟩;obtain ⟨b',off',h1,h2⟩:=Q2i (k:=k) (z:=z) hsp (hev x (by simp [hop,Op.operands]) _ hx);have h3:=Qpn (hev i (by simp [hop,Op.operands]) _ hi);exact ⟨_,by simp [execOp,hop,h1,h3,Qin hue hz hq hk],h2⟩
     ·cases e
    ·cases e
   ·cases e
  ·cases e
 ·-- a load of one's own
  rename_i v;split at e
  ·rename_i t x hop;split at e
   ·rename_i b off hx;split at e
    ·rename_i cs te fz hg;have key:Nat.blt b n=true->QeT P t cs off=some v->Ql9 P B o (evC T) H n (.ret v) H n [b] []/\Shape H n H n [b] []:=by
      intro hb hc;refine plain (s:=⟨.ret v,H,n,[b],[]⟩) ?_;have hcop:cop P F (evC T) o H n=some ⟨.val v,H,n,[b],[]⟩:=by simp [cop,hop,hx,QhQ,hg,hc]
      have hcr:Qlt P F (evC T) o H n=some ⟨.val v,H,n,[b],[]⟩:=by simp [Qlt,hcop,hb]
      simp [opS,hop,hcr]
     have e:=QdG (q:=Nat.blt b n) e;have hb:Nat.blt b n=true:=by
      have:=hu.lt hg;exact Nat.ble_eq_true_of_le this
     split at e
     ·rename_i hag;split at e
      ·rename_i z xs hz _;simp only [YO] at e;subst e;obtain ⟨h1,h2⟩:=hp _ rfl;refine key hb ?_;simp only [QeT,hag,hz,Nat.ble_eq_true_of_le h1,cond_true,h2]
      ·cases e
     ·rename_i hag;simp only [YO] at e;subst e;refine key hb ?_;simp only [QeT,hag];exact hp _ rfl
     ·cases e
    ·cases e
   ·cases e
  ·cases e
 ·-- a load of memory that nobody writes
  rename_i v;split at e
  ·rename_i t x hop;split at e
   ·rename_i b off hx;split at e
    ·rename_i hag;split at e
     ·rename_i z xs hz;cases hsz:Nat.beq xs.size z with
      | false=> rw [hsz] at e;cases e
      | true=>
        rw [hsz] at e;simp only [cond_true,YO] at e;subst e;have hsz:=YE hsz;have hc:=hp _ rfl;refine ⟨Qdi (fun c h=> by rw [hop] at h;cases h) fun μ w ρ hB hev=> ?_,Shape.same _ _ _⟩;have hv:=hev x (by simp [hop,Op.operands]) _ hx;have hf:∀j,j < z->∃v,xs[j]? =some v/\w.cell? ⟨b,off+j,none⟩=some ((w.cell? ⟨b,off+j,none⟩).getD undef)/\VR μ v ((w.cell? ⟨b,off+j,none⟩).getD undef):=by
         intro j hj;have hlt:j < xs.size:=by omega
         obtain ⟨v',a,b⟩:=hc j xs[j] (by simp [hlt]) w hB;exact ⟨xs[j],by simp [hlt],by simp [a],by simpa [a] using b μ⟩
        have hr:=run_loadCells (P:=P) w ⟨b,off,none⟩ z (fun j=> (w.cell? ⟨b,off+j,none⟩).getD undef) (fun j hj=> by
         obtain ⟨_,_,hc,_⟩:=hf j hj;rw [QbV];exact hc)
        generalize hg:ρ x=u at hv;cases hv with
        | ptr har=> obtain ⟨im,_,h2,_⟩:=har;cases h2
        | rawPtr=>
          refine ⟨.agg _,by simp [execOp,hop,hg,Instr.loadAt,Instr.sureAddr,loadVar,Qde hag,Qbl hz,QpG,hr];rfl,.agg (by simp [hsz]) fun i v v' hv hv'=> ?_⟩;have hi:i < z:=by
           have:=(Array.getElem?_eq_some_iff.1 hv).1;omega
          obtain ⟨u,h1,_,h2⟩:=hf i hi;rw [hv] at h1;cases h1;simp [hi] at hv';rw [<-hv'];exact h2
     ·cases e
    ·rename_i hag;simp only [YO] at e;subst e;have hc:=hp _ rfl;refine ⟨Qdi (fun c h=> by rw [hop] at h;cases h) fun μ w ρ hB hev=> ?_,Shape.same _ _ _⟩;have hv:=hev x (by simp [hop,Op.operands]) _ hx;obtain ⟨v',h1,h2⟩:=hc w hB;generalize hg:ρ x=u at hv;cases hv with
     | ptr har=> obtain ⟨im,_,h2,_⟩:=har;cases h2
     | rawPtr=> exact ⟨v',by simp [execOp,hop,hg,Instr.loadAt,Instr.sureAddr,loadVar,Qde hag,run_load,QpG,h1],h2 μ⟩
    ·cases e
   ·cases e
  ·cases e
 ·-- a comparison of structs
  rename_i b;split at e
  ·rename_i op t x y ty hop;split at e
   ·rename_i xs ys hx hy;cases hgt:P.eqGuardType P.depth t with
    | true=> rw [hgt] at e;cases e
    | false=>
      rw [hgt] at e;simp only [cond_false] at e;have vals:Qc2 (.agg xs)=true->Qc2 (.agg ys)=true->∀(μ:Mu) (ρ:Operand->Value),(∀x∈o.op.operands,∀v,evC T x=some v->VR μ v (ρ x))->ρ x=.agg xs/\ρ y=.agg ys:=fun h1 h2 μ ρ hev=>
       ⟨QiB h1 (hev x (by simp [hop,Op.operands]) _ hx),QiB h2 (hev y (by simp [hop,Op.operands]) _ hy)⟩
      split at e
      ·split at e
       ·rename_i r hr;cases hl:(Qc2 (.agg xs) && Qc2 (.agg ys)) with
        | false=> simp only [hl] at e;cases e
        | true=>
          simp only [hl,cond_true,YO] at e;subst e;have hrb:r=b:=hp _ rfl;subst hrb;simp only [YB] at hl;refine ⟨Qdi (fun c h=> by rw [hop] at h;cases h) fun μ w ρ _ hev=> ?_,Shape.same _ _ _⟩;obtain ⟨e1,e2⟩:=vals hl.1 hl.2 μ ρ hev;refine ⟨.bool r, ?_,.bool _⟩;simp [execOp,hop,e1,e2,run_eqGuard_agg w _ t x y xs ys hgt,run_eql_struct,QpW 100 t _ _ r hr 10000 w (by omega)]
       ·cases e
      ·split at e
       ·rename_i r hr;cases hl:(Qc2 (.agg xs) && Qc2 (.agg ys)) with
        | false=> simp only [hl] at e;cases e
        | true=>
          simp only [hl,cond_true,YO] at e;subst e;have hrb:(!r)=b:=hp _ rfl;subst hrb;simp only [YB] at hl;refine ⟨Qdi (fun c h=> by rw [hop] at h;cases h) fun μ w ρ _ hev=> ?_,Shape.same _ _ _⟩;obtain ⟨e1,e2⟩:=vals hl.1 hl.2 μ ρ hev;refine ⟨.bool (!r), ?_,.bool _⟩;simp [execOp,hop,e1,e2,run_eqGuard_agg w _ t x y xs ys hgt,binOp,Op.equal,Op.maxDepth,QpW 100 t _ _ r hr 10000 w (by omega)]
       ·cases e
      ·cases e
   ·cases e
  ·cases e
 ·-- a slice's length
  rename_i m;split at e
  ·rename_i c hop;split at e
   ·rename_i hc;split at e
    ·rename_i x t ha ht;split at e
     ·rename_i v el hx hu;rw [Qb9] at hu;simp only [YO] at e;subst e;refine ⟨Qdi (fun c h=> by rw [hop] at h;cases h) fun μ w ρ hB hev=> ?_,Shape.same _ _ _⟩;have ea:c.args=#[x]:=by rw [<-ha]
      have et:c.argTypes=#[t]:=by rw [<-ht]
      obtain ⟨a,cp,hv⟩:=hp _ rfl μ _ (hev x (by simp [hop,Op.operands,Call.operands,hc,ea]) _ hx);refine ⟨.int .i64 m, ?_,.int _ _⟩;simp [execOp,hop,resolve,hc,invoke,builtin,ea,et,hv,Builtin.len_,run_underlying hu,goInt]
     ·cases e
    ·cases e
   ·cases e
  ·cases e
 ·-- append
  rename_i cs';split at e
  ·rename_i c hop;split at e
   ·rename_i hcal;split at e
    ·rename_i s x t t' ha ht;cases htt:Nat.beq t t' with
     | false=> rw [htt] at e;cases e
     | true=>
       rw [htt] at e;simp only [cond_true] at e;split at e
       ·rename_i sv xv hs hx;split at e
        ·rename_i v H1 n1 R W p hap;cases hR:R.all (fun i=> Nat.blt i n) with
         | false=> rw [hR] at e;cases e
         | true=>
           rw [hR] at e;simp only [cond_true,YO] at e;subst e;have hpp:p:=hp _ rfl;refine plain (s:=⟨.ret v,H1,n1,R,W⟩) ?_;have hca:QcM P t H n sv xv=some ⟨.val v,H1,n1,R,W⟩:=by
            unfold Q4h at hap;unfold QcM;split at hap
            ·rename_i e1 hue;rw [hue];simp only;split at hap
             ·rename_i inf1 hinf;rw [hinf];simp only;split at hap
              ·rename_i zv z hzv hsz;rw [hzv,hsz];simp only;split at hap
               ·rename_i b k s';split at hap
                ·rename_i cs te hg;split at hap
                 ·rename_i ns m bx hns;cases hq:(Nat.beq te e1 && Nat.beq s' (z+1) && ones ns && Nat.beq zv.cells.size (z+1) && Nat.blt 0 m) with
                  | false=> rw [hq] at hap;cases hap
                  | true=>
                    rw [hq] at hap;simp only [cond_true,YO,YR,CR.mk.injEq,CN.val.injEq] at hap;obtain ⟨⟨rfl,rfl,rfl,rfl,rfl⟩,rfl⟩:=hap;obtain ⟨p1,p2,p3,p4⟩:=hpp;simp only [YB] at hq;obtain ⟨⟨⟨⟨q1,q2⟩,q3⟩,q4⟩,q5⟩:=hq;have hh:QfW H e1 (z+1) (.slice (some ⟨b,0,none⟩) k s')=some (cs,k,some b):=by
                     simp [QfW,hg,YE q1,YE q2,p1]
                    rw [hh,hns];simp only [q3,q4,q5,Nat.ble_eq_true_of_le p2,Nat.ble_eq_true_of_le p3,Bool.and_self,cond_true,p4];rfl
                 ·cases hap
                ·cases hap
               ·cases hap
              ·cases hap
             ·cases hap
            ·cases hap
           have hbr:bare sv=sv:=by
            unfold bare;split
            ·exfalso;unfold Q4h at hap;repeat' (first | (cases hap;done) | split at hap)
            ·rfl
           have hcop:cop P F (evC T) o H n=some ⟨.val v,H1,n1,R,W⟩:=by simp [cop,hop,hcal,ha,ht,hs,hx,Q0T,htt,hbr,hca]
           have hcr:Qlt P F (evC T) o H n=some ⟨.val v,H1,n1,R,W⟩:=by
            simp only [Qlt,hcop,hR,cond_true]
           simp [opS,hop,hcr]
        ·cases e
       ·cases e
    ·cases e
   ·cases e
  ·cases e
 ·-- make
  rename_i m cs;split at e
  ·rename_i t l c hop;split at e
   ·rename_i x y hx hy;split at e
    ·rename_i el hu1;split at e
     ·rename_i z hz;simp only [YO] at e;subst e;have hc:=hp _ rfl;exact plain (s:=⟨.ret (.slice (some ⟨n,0,none⟩) m z),(n,.cells cs el (0,0))::H,n+1,[],[]⟩) (by simp [opS,hop,Qlt,cop,hx,hy,hc])
     ·cases e
    ·cases e
   ·cases e
  ·cases e
 ·-- a store
  rename_i cs';split at e
  ·rename_i t ad x hop;split at e
   ·rename_i b off v hx hy;split at e
    ·rename_i cs te hg;split at e
     ·rename_i z hz;cases hq:(Nat.blt b n && Nat.beq v.cells.size z && ones v.cells) with
      | false=> rw [hq] at e;cases e
      | true=>
        rw [hq] at e;simp only [cond_true,YO] at e;subst e;obtain ⟨h1,h2⟩:=hp _ rfl;simp only [YB] at hq;have hst:Qgc P t H v (.pointer (some ⟨b,off,none⟩))=some (QeO H b (.cells cs' te (0,0)),b):=by
         simp only [Qgc,hg,hz,hq.1.2,hq.2,Nat.ble_eq_true_of_le h1,Bool.and_self,cond_true,h2]
        exact plain (s:=⟨.ret undef,QeO H b (.cells cs' te (0,0)),n,[b],[b]⟩) (by simp [opS,hop,Qlt,cop,hx,hy,hst,hq.1.1])
     ·cases e
    ·cases e
   ·cases e
  ·cases e
 ·-- a call
  rename_i keys out ups n' W;split at e
  ·rename_i c hop;split at e
   ·rename_i g args H1 n1 R W1 hcr;cases hn:(Nat.beq n1 n && W1.isEmpty) with
    | false=> rw [hn] at e;cases e
    | true=>
      rw [hn] at e;simp only [cond_true,YO] at e;subst e;simp only [YB,List.isEmpty_iff] at hn;obtain ⟨hn1,rfl⟩:=hn;have hn1:=YE hn1;subst hn1;have hu1:Under H1 n1:=hu.shape (Qj2 hu (QmB hcr).1);have hcj:=hp _ rfl H1 hu1 (fun p hp=> by
       obtain ⟨k,_,rfl⟩:=List.mem_map.1 hp;rfl)
      have hk:(keys.map fun k=> (k,Qao H1 k)).map (·.1)=keys:=by
       rw [List.map_map];exact List.map_id' _
      rw [hk] at hcj;have horc:QdD P B (fun g' a' H' m'=> open Classical in if g'=g/\a'=args/\H'=H1/\m'=n1 then some ⟨.ret out,ups++H1,n',keys,W⟩ else none):=by
       intro g' a' H' m' s _ h;simp only at h;split at h
       ·rename_i q;obtain ⟨rfl,rfl,rfl,rfl⟩:=q;simp only [YO] at h;subst h;exact hcj
       ·cases h
      have:=QdV hF Qeq horc hu (T:=T) (o:=o) (s:=⟨.ret out,ups++H1,n',R++keys,W⟩) (by
       simp [opS,hop,hcr])
      exact this
   ·rename_i l fn tm cda cdb H1 n1 R W1 hcr;cases hn:(Nat.beq n1 n && W1.isEmpty && Nat.ble tm.size 16000) with
    | false=> rw [hn] at e;cases e
    | true=>
      rw [hn] at e;simp only [cond_true,YO] at e;subst e;simp only [YB,List.isEmpty_iff] at hn;obtain ⟨⟨hn1,rfl⟩,hsz⟩:=hn;have hn1:=YE hn1;subst hn1;have hu1:Under H1 n1:=hu.shape (Qj2 hu (QmB hcr).1);have hrj:=hp _ rfl;have hrec:=RJ.recS hu1 hrj;have:=QdV hF hrec (Qaz P B) hu (T:=T) (o:=o) (s:=⟨.ret out,ups++H1,n',R++keys,W⟩) (by
       simp [opS,hop,hcr,hsz,Qfx])
      exact this
   ·cases e
  ·cases e
 ·-- what is found in a map
  rename_i v;split at e
  ·rename_i t x k ok hop;split at e
   ·rename_i r kv hx hk;split at e
    ·rename_i es clk hg;cases hq:Nat.blt r n with
     | false=> rw [hq] at e;cases e
     | true=>
       rw [hq] at e;simp only [cond_true,YO] at e;subst e;have hl:=hp _ rfl H r clk hg;exact plain (s:=⟨.ret v,H,n,[r],[]⟩) (by simp [opS,hop,Qlt,cop,hx,hk,hl,hq])
    ·cases e
   ·cases e
  ·cases e
 ·-- what a map becomes
  rename_i es' clk';split at e
  ·rename_i t m k x hop;split at e
   ·rename_i r kv v hm hk hx;split at e
    ·rename_i es clk hg;cases hq:Nat.blt r n with
     | false=> rw [hq] at e;cases e
     | true=>
       rw [hq] at e;simp only [cond_true,YO] at e;subst e;have hl:=hp _ rfl H r hg;exact plain (s:=⟨.ret undef,QeO H r (.map es' clk'),n,[r],[r]⟩) (by simp [opS,hop,Qlt,cop,hm,hk,hx,hl,hq])
    ·cases e
   ·cases e
  ·cases e
 ·-- nothing behind nothing
  split at e
  ·rename_i c hop;split at e
   ·rename_i hcal;split at e
    ·rename_i s x t t' ha ht;cases htt:Nat.beq t t' with
     | false=> rw [htt] at e;cases e
     | true=>
       rw [htt] at e;simp only [cond_true] at e;have htt:=YE htt;subst htt;split at e
       ·rename_i hs hx;split at e
        ·rename_i el hue;split at e
         ·rename_i z hz;simp only [YO] at e;subst e;have ea:c.args=#[s,x]:=by rw [<-ha]
          have et:c.argTypes=#[t,t]:=by rw [<-ht]
          refine ⟨Qdi (fun c h=> by rw [hop] at h;cases h) fun μ w ρ _ hev=> ?_,Shape.same _ _ _⟩;have h1:=QiB (v:=.slice none 0 0) rfl (hev s (by simp [hop,Op.operands,Call.operands,hcal,ea]) _ hs);have h2:=QiB (v:=.slice none 0 0) rfl (hev x (by simp [hop,Op.operands,Call.operands,hcal,ea]) _ hx);refine ⟨.slice none 0 0, ?_,.nilSlice 0 0⟩;have hr:=Qnr (ty:=o.type) hue hz w;simp [execOp,hop,resolve,hcal,invoke,builtin,ea,et,hr,h1,h2]
         ·cases e
        ·cases e
       ·cases e
    ·cases e
   ·cases e
  ·cases e
end
end Go.CE
