/- CE: calls whose arguments are known, at the level of worlds. -/
import Derived.Test.YtncjjangllkokaaZRB06
import Derived.Laws.StructEq
set_option linter.all false
open Nat renaming le_refl->Lw,beq->Lf,ble->LI,blt->Ll,lt_or_ge->LF,zero_add->Lv,ble_eq_true_of_le->LC
open Option renaming map_some->LG
open Array renaming mem_of_getElem? ->LJ,getElem?_toList->Lm
open List renaming getElem?_eq_none->LA,mem_cons_of_mem->Lj,mem_append_left->Lg,mem_append_right->Lt,mem_append->LZ,range'->Ly,length->Ld,getElem?_append_right->Lp,getElem?_map->Lx
open Int renaming toNat_natCast->LR
namespace Go.CE
open Go Go.RowKit

def Xn:Vh:=fun _ _ _ _=>none
theorem QF(P:Program)(B:Lo):W4 P B Xn:=fun _ _ _ _ _ _ h=>by cases h
noncomputable def oQ(P:Program)(F:FuncId->Bool)(Xm:Vh)(fuel:Nat)(f:FuncId)(args:Array Value)(H:Qm)(n:Nat):Option Rs:=
 Option.rec none (fun c=>CF.rec (fun fn T todo ds mode ro=>CM.rec (Tm.rec (fun len tr=>aY P F Xm fuel n fn len tr todo ds ro H n [] []) T) none (fun _=>none) mode) c) (Wi P f args)
theorem de{P:Program}{F:FuncId->Bool}{Xm:Vh}{fuel:Nat}{f:FuncId}{args:Array Value}{H:Qm}{n:Nat}{s:Rs}(h:oQ P F Xm fuel f args H n=some s):∃c,Wi P f args=some c/\p8 P F Xm fuel n c H n [] []=some s:=by
 unfold oQ at h;cases hc:Wi P f args with
 |none=>rw[hc]at h;cases h
 |some c=>
  rw[hc]at h;obtain⟨fn,⟨len,tr⟩,todo,ds,mode,ro⟩:=c;cases mode with
  |run=>
   refine⟨_,rfl, ?_⟩;rw[<-oE,<-oF];exact h
  |ret=>cases h
  |ZB v=>cases h
theorem y9{P:Program}{F:FuncId->Bool}{Xm:Vh}{B:Lo}(We:W4 P B Xm)(hF:∀g,F g=true->Q0 P g=true)(XP:P.follows .mixedOrders=true){fuel:Nat}{f:FuncId}{args:Array Value}{H:Qm}{n:Nat}{s:Rs}(h:oQ P F Xm fuel f args H n=some s)(hu:Under H n):Under s.H s.n:=by
 obtain⟨c,_,hr⟩:=de h;obtain⟨Rr,Wr,hfj,_,_,_,_⟩:=Y4 (B:=B) hF XP We fuel n c H n [] [] s hu (fun i hi=>by simp at hi) (fun i hi=>by simp at hi) hr;exact hu.shape hfj.shape
theorem tF{P:Program}{F:FuncId->Bool}{Xm:Vh}(hF:∀g,F g=true->Q0 P g=true)(XP:P.follows .mixedOrders=true){fuel:Nat}{f:FuncId}{args args':Array Value}{H:Qm}{n:Nat}{s:Rs}(h:oQ P F Xm fuel f args H n=some s)(hu:Under H n){w:World}{μ:Mu}
 {I:World->Prop} {hI:∀w1 w2:World,(∀b,b<w.heap.size->w2.heap[b]? =w1.heap[b]?)->I w1->I w2} (We:W4 P ⟨w.heap.size,I,hI⟩ Xm) (hi:I w) (Q7:Ok w.heap.size (fun i=>i<n) μ (Qq H) w) (hv:VRs μ args args') (hf:∀i,n<=i->μ i=none):
 Calls P f args' w fun e w'=> ∃XW μ',Post w.heap.size (fun i=>i<n) n s.n s.W μ μ' H s.H w w'/\OR2 μ' s.out XW/\e=XW.ending:=by
 obtain⟨c,hc,hr⟩:=de h;obtain⟨Rr,Wr,hfj,a1,a2,a3,a4⟩:=Y4 (B:=⟨w.heap.size,I,hI⟩) hF XP We fuel n c H n [] [] s hu (fun i hi=>by simp at hi) (fun i hi=>by simp at hi) hr;have hfj:=hfj.lists (fun i hi=>by simpa using a1 i hi) (fun i hi=>by simpa using a2 i hi) a4;intro cs;obtain⟨XW,w',μ',hp,ho,he⟩:=hfj.sem _ μ w _ cs Q7 ⟨Lw _,hi⟩ (fun _ hi=>hi) (fun i hi _=>hf i hi) (U8 hc hv) (fun i _ hi=>hi);obtain⟨frE,h1,h2,h3⟩:=he.1 rfl;refine⟨XW.ending,w',frE,⟨XW,μ',hp,ho,rfl⟩, ?_,h2,h3⟩;cases XW with
 |ret v=>exact h1
 |ZB v=>exact h1
def Qcc(w:World)(Zq off:Nat)(cs:Array Value):Prop:=Zq<w.heap.size/\∀(i:Nat) v,cs[i]? =some v->w.cell? ⟨Zq,off+i,none⟩=some v
def w5(l:List (Nat×Nat)):Mu:=fun i=>(l[i]?).map fun x=>⟨x.1,x.2,0,false,TN⟩
def R6(i:Nat):List (Array Value×TypeId)->Qm
 |[]=>[]
 |(cs,t)::l=>(i,.cells cs t (1,1))::R6 (i+1) l
theorem aX:∀(l:List (Array Value×TypeId)) (i k:Nat),Qq (R6 i l) k=if i<=k then(l[k-i]?).map fun x=>.cells x.1 x.2 (1,1)else none
 |[],i,k=>by simp[R6,Qq]
 |(cs,t)::l,i,k=>by
  simp only[R6];rw[QU,aX l (i+1) k];by_cases e:k=i
  ·subst e;simp
  ·rw[if_neg e];by_cases h:i<=k
   ·rw[if_pos h,if_pos (by omega),show k-i=(k-(i+1))+1 by omega];simp
   ·rw[if_neg h,if_neg (by omega)]
theorem NK{w:World}{l:List (Array Value×TypeId)}{at':List (Nat×Nat)}(hl:at'.length=l.length)(h:∀(i:Nat) x a,l[i]? =some x->at'[i]? =some a->Qcc w a.1 a.2 x.1/\x.1.all af=true):Ok w.heap.size (fun i=>i<l.length) (w5 at') (Qq (R6 0 l)) w:=by
 have key:∀i o,i<l.length->Qq (R6 0 l) i=some o->∃x a,l[i]? =some x/\at'[i]? =some a/\o=.cells x.1 x.2 (1,1):=by
  intro i o hi ho;rw[aX,if_pos (Nat.zero_le _),Nat.sub_zero]at ho;have h1:l[i]? =some l[i]:=by simp[hi]
  have h2:at'[i]? =some (at'[i]'(by omega)):=by simp[hl ▸ hi]
  rw[h1]at ho;simp only[LG,YO]at ho;exact⟨_,_,h1,h2,ho.symm⟩
 refine⟨fun i o hi ho _=> ?_,fun i o im hi ho _ QD=> ?_,fun i j oi oj a b hi hj _ ZZ _ _ _ ha _ hra _=> ?_,fun i o hi ho hr=> ?_,fun i j oi oj a b x hi hj ZZ ZY hr=> ?_⟩
 ·obtain⟨x,a,h1,h2,rfl⟩:=key i o hi ho;obtain⟨⟨_,hc⟩,haf⟩:=h i x a h1 h2;refine⟨⟨a.1,a.2,0,false,TN⟩,by simp[w5,h2],.inr ⟨by simp,fun k v hv=>⟨v,hc k v hv,Pc (Array.all_eq_true'.1 haf v (LJ hv))⟩⟩⟩
 ·obtain⟨x,a,h1,h2,rfl⟩:=key i o hi ho;simp only[w5,h2,LG,YO]at QD;subst QD;exact⟨(h i x a h1 h2).1.1,(fun h=>by cases h),fun _=>(h i x a h1 h2).1.1⟩
 ·obtain⟨x,q,h1,h2,_⟩:=key i oi hi ZZ;simp only[w5,h2,LG,YO]at ha;subst ha;cases hra
 ·obtain⟨x,a,_,_,rfl⟩:=key i o hi ho;exact hr.elim
 ·obtain⟨x,a,_,_,rfl⟩:=key i oi hi ZZ;exact hr.elim
theorem dp(l:List (Array Value×TypeId)):Under (R6 0 l) l.length:=by
 intro i hi;rw[aX,if_pos (Nat.zero_le _),Nat.sub_zero,LA (by omega)];rfl
theorem DS{at':List (Nat×Nat)}:∀i,at'.length<=i->w5 at' i=none:=fun i hi=>by simp[w5,LA hi]
end Go.CE

namespace Go.CE
open Go Go.RowKit

def IQ(p:Value->Value->Bool):List Value->List Value->Bool
 |[],[]=>true
 |x::l,y::m=>p x y && IQ p l m
 |_,_=>false
theorem KI{p:Value->Value->Bool}(hp:∀x y,p x y=true->x=y):∀(l m:List Value),IQ p l m=true->l=m
 |[],[],_=>rfl
 |x::l,y::m,h=>by
  simp only[IQ,YB]at h;rw[hp x y h.1,KI hp l m h.2]
 |[],_::_,h=>by cases h
 |_::_,[],h=>by cases h
def O0:List UInt8->List UInt8->Bool
 |[],[]=>true
 |x::l,y::m=>Lf x.toNat y.toNat && O0 l m
 |_,_=>false
theorem oL:∀(l m:List UInt8),O0 l m=true->l=m
 |[],[],_=>rfl
 |x::l,y::m,h=>by
  simp only[O0,YB]at h;rw[UInt8.toNat_inj.1 (YE h.1),oL l m h.2]
 |[],_::_,h=>by cases h
 |_::_,[],h=>by cases h
def Qbd:Value->Value->Bool
 | .bool a,.bool b=>a==b
 | .int k a,.int l b=>decide (k=l) && TO a b
 | .slice (some ⟨a,o,none⟩) n s,.slice (some ⟨b,p,none⟩) m t=>Lf a b && Lf o p && Lf n m && Lf s t
 | .slice none n s,.slice none m t=>Lf n m && Lf s t
 | .string a,.string b=>O0 a.data.toList b.data.toList
 | .pointer (some ⟨a,o,none⟩),.pointer (some ⟨b,p,none⟩)=>Lf a b && Lf o p
 | .func (.func g) x y,.func (.func g') x' y'=>Lf g g' && (Lf x.toList.length 0 && (Lf y.toList.length 0 && (Lf x'.toList.length 0 && Lf y'.toList.length 0)))
 |_,_=>false
theorem IN{a b:Int}(h:TO a b=true):a=b:=by
 rw[ig]at h;simpa using h
theorem oJ(x y:Value)(h:Qbd x y=true):x=y:=by
 unfold Qbd at h;split at h
 ·simp only[beq_iff_eq]at h;rw[h]
 ·simp only[YB,decide_eq_true_eq]at h;rw[h.1,IN h.2]
 ·simp only[YB]at h;obtain⟨⟨⟨h1,h2⟩,h3⟩,h4⟩:=h;rw[YE h1,YE h2,YE h3,YE h4]
 ·simp only[YB]at h;rw[YE h.1,YE h.2]
 ·rename_i a b;obtain⟨a⟩:=a;obtain⟨b⟩:=b;simp only at h;rw[Array.ext' (oL _ _ h)]
 ·simp only[YB]at h;rw[YE h.1,YE h.2]
 ·rename_i x y _ x' y';simp only[YB,Nat.beq_eq]at h;obtain⟨h1,h2,h3,h4,h5⟩:=h;have e:∀z:Array Value,z.toList.length=0->z=#[]:=fun z hz=>by
   have:=List.eq_nil_of_length_eq_zero hz;exact Array.ext' this
  rw[h1,e x h2,e y h3,e x' h4,e y' h5]
 ·cases h
def Eg:Nat->Value->Value->Bool
 |f+1,.agg x,.agg y=>IQ (Eg f) x.toList y.toList
 |f+1,.tuple x,.tuple y=>IQ (Eg f) x.toList y.toList
 |_,x,y=>Qbd x y
theorem UL:∀(f:Nat) (x y:Value),Eg f x y=true->x=y
 |0,x,y,h=>oJ x y (by simpa[Eg]using h)
 |f+1,x,y,h=>by
  unfold Eg at h;split at h
  ·rename_i f' a b e;cases e;rw[Array.ext' (KI (UL f) _ _ h)]
  ·rename_i f' a b e;cases e;rw[Array.ext' (KI (UL f) _ _ h)]
  ·exact oJ _ _ h
def yr(H:Qm)(x:Nat×Array Value×TypeId):Bool:=match Qq H x.1 with
 |some (.cells ds t (0,0))=>IQ (Eg 1) ds.toList x.2.1.toList && Lf t x.2.2
 |_=>false
def Bu(x:Option Rs)(out:Value)(bs:List (Nat×Array Value×TypeId)):Bool:=match x with
 |some ⟨.ret v,H,_,_,[]⟩=>Eg 3 v out && bs.all (yr H)
 |_=>false
theorem Ao{x:Option Rs}{out:Value}{bs:List (Nat×Array Value×TypeId)}(h:Bu x out bs=true):∃s,x=some s/\s.out=.ret out/\s.W=[]/\∀y∈bs,Qq s.H y.1=some (.cells y.2.1 y.2.2 (0,0)):=by
 unfold Bu at h;split at h
 ·rename_i v H n R;simp only[YB]at h;refine⟨_,rfl,by rw[UL 3 _ _ h.1],rfl,fun y hy=> ?_⟩;have:=List.all_eq_true.1 h.2 y hy;unfold yr at this;split at this
  ·rename_i ds t hg;simp only[YB]at this;have e1:=Array.ext' (KI (UL 1) _ _ this.1);have e2:=YE this.2;simp only;rw[hg,e1,e2]
  ·cases this
 ·cases h
theorem Ek{P:Program}{F:FuncId->Bool}{Xm:Vh}(hF:∀g,F g=true->Q0 P g=true)(XP:P.follows .mixedOrders=true){fuel:Nat}{f:FuncId}{args args':Array Value}{l:List (Array Value×TypeId)}{at':List (Nat×Nat)}{out:Value}{bs:List (Nat×Array Value×TypeId)}
 (h:Bu (oQ P F Xm fuel f args (R6 0 l) l.length) out bs=true) {w:World} {I:World->Prop} {hI:∀w1 w2:World,(∀b,b<w.heap.size->w2.heap[b]? =w1.heap[b]?)->I w1->I w2} (We:W4 P ⟨w.heap.size,I,hI⟩ Xm) (hi:I w) (hl:at'.length=l.length) (hlies:∀(i:Nat) x a,l[i]? =some x->at'[i]? =some a->Qcc w a.1 a.2 x.1/\x.1.all af=true) (hv:VRs (w5 at') args args'):
 Calls P f args' w fun e w'=> ∃v' n' H' μ',e=.returned v'/\Post w.heap.size (fun i=>i<l.length) l.length n' [] (w5 at') μ' (R6 0 l) H' w w'/\VR μ' out v'/\(∀y∈bs,Qq H' y.1=some (.cells y.2.1 y.2.2 (0,0)))/\Under H' n'/\Below w.heap.size w w':=by
 obtain⟨s,hs,ho,hW,hb⟩:=Ao h;obtain hc:=tF hF XP hs (dp l) We hi (NK hl hlies) hv (fun i hi=>DS i (by omega));intro cs;obtain⟨e,w',fr,⟨XW,μ',hp,ZQ,he⟩,h1,h2,h3⟩:=hc cs;refine⟨e,w',fr, ?_,h1,h2,h3⟩;rw[ho]at ZQ;rw[hW]at hp;cases ZQ with
 |ret Vp=>exact⟨_,s.n,s.H,μ',he,hp,Vp,hb,y9 We hF XP hs (dp l),⟨hp.os,hp.tape,hp.output,hp.grow,fun b hb=>hp.frame b hb fun i hi=>by simp at hi⟩⟩
end Go.CE

namespace Go.CE
open Go Go.RowKit

def IP:Obj->Obj->Bool
 | .cells a t (x,y),.cells b u (z,v)=>IQ (Eg 1) a.toList b.toList && Lf t u && Lf x z && Lf y v
 |_,_=>false
theorem y1{a b:Obj}(h:IP a b=true):a=b:=by
 unfold IP at h;split at h
 ·simp only[YB]at h;obtain⟨⟨⟨h1,h2⟩,h3⟩,h4⟩:=h;rw[Array.ext' (KI (UL 1) _ _ h1),YE h2,YE h3,YE h4]
 ·cases h
def hasAll(H:Qm):Qm->Bool
 |[]=>true
 |(i,o)::l=>(match Qq H i with|some x=>IP x o|none=>false) && hasAll H l
theorem JG{H:Qm}:∀{l:Qm},hasAll H l=true->∀i o,Qq l i=some o->Qq H i=some o
 |[],_,i,o,ho=>by cases ho
 |(k,x)::l,h,i,o,ho=>by
  simp only[hasAll,YB]at h;rw[QU]at ho;by_cases e:i=k
  ·subst e;rw[if_pos rfl]at ho;simp only[YO]at ho;subst ho;have h1:=h.1;split at h1
   ·rename_i y hy;rw[hy,y1 h1]
   ·cases h1
  ·rw[if_neg e]at ho;exact JG h.2 i o ho
structure Memo where
 g:FuncId
 args:Array Value
 H0:Qm
 n:Nat
 out:Value
 news:Qm
 n':Nat
def within(n n':Nat)(l:Qm):Bool:=l.all fun x=>LI n x.1 && Ll x.1 n'
def QK(m:Memo)(x:Option Rs):Bool:=match x with
 |some ⟨.ret v,H,n',R,[]⟩=>Eg 3 v m.out && Lf n' m.n' && hasAll H m.news && within m.n m.n' m.news && within 0 m.n m.H0 && R.all (fun i=>LI m.n i || (Qq m.H0 i).isSome)
 |_=>false
noncomputable def Memo.run(P:Program)(F:FuncId->Bool)(Xm:Vh)(fuel:Nat)(m:Memo):Option Rs:=oQ P F Xm fuel m.g m.args m.H0 m.n
def XN:List Memo->Vh
 |[],_,_,_,_=>none
 |m::l,g,args,H,n=>bif Lf m.n n && Lf m.g g && IQ (Eg 1) args.toList m.args.toList && hasAll H m.H0 then some ⟨.ret m.out,m.news++H,m.n',m.H0.map (·.1),[]⟩else XN l g args H n
theorem ZF:∀(l H:Qm) (i:Nat),Qq (l++H) i=match Qq l i with|some o=>some o|none=>Qq H i
 |[],H,i=>rfl
 |(k,o)::l,H,i=>by
  rw[List.cons_append,QU,QU];by_cases e:i=k
  ·rw[if_pos e,if_pos e]
  ·rw[if_neg e,if_neg e];exact ZF l H i
theorem di{n n':Nat}:∀{l:Qm},within n n' l=true->∀i o,Qq l i=some o->n<=i/\i<n'
 |[],_,i,o,ho=>by cases ho
 |(k,x)::l,h,i,o,ho=>by
  simp only[within,List.all_cons,YB]at h;rw[QU]at ho;by_cases e:i=k
  ·subst e;exact⟨YL h.1.1,YL h.1.2⟩
  ·rw[if_neg e]at ho;exact di h.2 i o ho
theorem Vf{n n':Nat}{l:Qm}(h:within n n' l=true){i:Nat}(hi:i<n\/n'<=i):Qq l i=none:=by
 cases hg:Qq l i with
 |none=>rfl
 |some o=>have:=di h i o hg;omega
theorem fX{l:Qm}{i:Nat}{o:Obj}(h:Qq l i=some o):i∈l.map (·.1):=by
 induction l with
 |nil=>cases h
 |cons p l ih=>
  obtain⟨k,x⟩:=p;rw[QU]at h;by_cases e:i=k
  ·subst e;simp
  ·rw[if_neg e]at h;exact Lj _ (ih h)
theorem jf{m:Memo}{x:Option Rs}(h:QK m x=true):∃H R,x=some ⟨.ret m.out,H,m.n',R,[]⟩/\(∀i o,Qq m.news i=some o->Qq H i=some o)/\within m.n m.n' m.news=true/\within 0 m.n m.H0=true/\∀i∈R,i<m.n->∃o,Qq m.H0 i=some o:=by
 unfold QK at h;split at h
 ·rename_i v H n' R;simp only[YB]at h;obtain⟨⟨⟨⟨⟨h1,h2⟩,h3⟩,h4⟩,h5⟩,h6⟩:=h;refine⟨H,R,by rw[UL 3 _ _ h1,YE h2],JG h3,h4,h5,fun i hi hl=> ?_⟩;have:=List.all_eq_true.1 h6 i hi;simp only[Bool.or_eq_true]at this;rcases this with h|h
  ·have:=YL h;omega
  ·exact Option.isSome_iff_exists.1 h
 ·cases h
theorem QS{P:Program}{F:FuncId->Bool}{Xm:Vh}{B:Lo}(hF:∀g,F g=true->Q0 P g=true)(XP:P.follows .mixedOrders=true)(We:W4 P B Xm){fuel:Nat}{m:Memo}{l:List Memo}(hm:QK m (m.run P F Xm fuel)=true)(hl:W4 P B (XN l)):W4 P B (XN (m::l)):=by
 intro g args H n s hu h;simp only[XN]at h;cases hq:(Lf m.n n && Lf m.g g && IQ (Eg 1) args.toList m.args.toList && hasAll H m.H0)with
 |false=>
  rw[hq]at h;exact hl g args H n s hu h
 |true=>
  rw[hq]at h;simp only[cond_true,YO]at h;simp only[YB]at hq;obtain⟨⟨⟨q1,q2⟩,q3⟩,q4⟩:=hq;obtain rfl:=YE q1;obtain rfl:=YE q2;obtain rfl:=Array.ext' (KI (UL 1) _ _ q3);have hH:=JG q4;subst h;obtain⟨Hs,R,Ub,hnews,hw,hw0,hR0⟩:=jf hm;obtain⟨c,hc,hr⟩:=de Ub;have hu0:Under m.H0 m.n:=fun i hi=>Vf hw0 (.inr hi)
  obtain⟨Rr,Wr,hfj,a1,a2,a3,a4⟩:=Y4 (B:=B) hF XP We fuel m.n c m.H0 m.n [] [] _ hu0 (fun i hi=>by simp at hi) (fun i hi=>by simp at hi) hr;have hfj:=hfj.lists (fun i hi=>by simpa using a1 i hi) (fun i hi=>by simpa using a2 i hi) a4;have hle:m.n<=m.n':=hfj.shape.le;have PH:∀i,i<m.n\/m.n'<=i->Qq (m.news++H) i=Qq H i:=fun i hi=>by
   rw[ZF,Vf hw hi]
  have UQ:∀i o,m.n<=i->Qq (m.news++H) i=some o->Qq Hs i=some o:=by
   intro i o h1 h2;rw[ZF]at h2;cases hg:Qq m.news i with
   |some x=>
    rw[hg]at h2;rw[hnews i x hg];exact h2
   |none=>
    rw[hg,hu i h1]at h2;cases h2
  refine⟨⟨hle,fun i hi _=>PH i (.inl hi),fun i hi=>PH i (.inr hi),fun _ h=>by simp at h,fun _ h=>by simp at h⟩,fun S μ w args' cs Q7 hB hS hf hv hR=> ?_⟩;simp only at hf hR ⊢;have hok0:Ok B (fun i=>S i/\∃o,Qq m.H0 i=some o) μ (Qq m.H0) w:=by
   refine⟨fun i o hi ho hl=>Q7.rel i o hi.1 (hH i o ho) hl,fun i o im hi ho hl=>Q7.low i o im hi.1 (hH i o ho) hl,fun i j oi oj a b hi hj Rm ZZ ZY=>Q7.inj i j oi oj a b hi.1 hj.1 Rm (hH i oi ZZ) (hH j oj ZY),
    fun i o hi ho=>Q7.Jv i o hi.1 (hH i o ho),fun i j oi oj a b x hi hj ZZ ZY=>Q7.sep i j oi oj a b x hi.1 hj.1 (hH i oi ZZ) (hH j oj ZY)⟩
  obtain⟨XW,w',μ',hp,ho,he⟩:=hfj.sem _ μ w _ cs hok0 hB (fun i hi=>hS i hi.1) hf (U8 hc hv) (fun i hi hl=>by
   obtain⟨o,ho⟩:=hR0 i hi hl;exact⟨hR i (fX ho) hl,o,ho⟩)
  simp only at hp ho;have hold:∀i im,S i->μ i=some im->μ' i=some im:=fun i im hi h=>by
   have:=hS i hi;rw[hp.ext i (by omega)];exact h
  have hext:Ext μ μ':=hp.mu hf;have X8:∀i im o,m.n<=i->i<m.n'->Qq (m.news++H) i=some o->live o->μ' i=some im->im.rw=true/\w.heap.size<=im.Zq:=by
   intro i im o h1 h2 h3 h4 h5;obtain⟨x,y⟩:=hp.fresh i im o h1 h2 (UQ i o h1 h3) h4 h5;exact⟨x,y.elim id fun⟨k,hk,_⟩=>by simp at hk⟩
  have hOld:∀i o,S i->Qq (m.news++H) i=some o->live o->∃im,μ i=some im/\μ' i=some im/\Qq H i=some o/\im.Zq<w.heap.size:=by
   intro i o hi ho hl;have:=hS i hi;rw[PH i (.inl this)]at ho;obtain⟨im,QD,_⟩:=Q7.rel i o hi ho hl;exact⟨im,QD,hold i im hi QD,ho,(Q7.low i o im hi ho hl QD).1⟩
  refine⟨XW,w',μ',⟨⟨fun i o hi ho hl=> ?_,fun i o im hi ho hl QD=> ?_,fun i j oi oj a b hi hj Rm ZZ ZY T5 Uj ha hb hra WG=> ?_,fun i o hi ho hr=> ?_,fun i j oi oj a b x hi hj ZZ ZY J3 Uj ha hb WG hx=> ?_⟩,hle,hp.ext,fun i hi _=>PH i (.inl hi),hp.grow,fun b hb _=>hp.frame b hb fun i hi=>by simp at hi,fun i hi=>by simp at hi,
   fun i im o h1 h2 h3 h4 h5=>⟨(X8 i im o h1 h2 h3 h4 h5).1,.inl (X8 i im o h1 h2 h3 h4 h5).2⟩,fun i im o hi ho hr hm b x hx=> ?_,hp.os,hp.tape,hp.output⟩,ho,he⟩
  ·rcases hi with hi|hi
   ·obtain⟨im,QD,QO,Ko,Xi⟩:=hOld i o hi ho hl;obtain⟨im2,Wz,hr2⟩:=Q7.rel i o hi Ko hl;rw[QD]at Wz;cases Wz;exact⟨im,QO,hr2.keep hext (hp.frame _ Xi fun i hi=>by simp at hi)⟩
   ·exact hp.ok.rel i o (.inr hi) (UQ i o hi.1 ho) hl
  ·rcases hi with hi|hi
   ·obtain⟨im2,Wz,QO,Ko,Xi⟩:=hOld i o hi ho hl;rw[QD]at QO;cases QO;exact⟨Nat.lt_of_lt_of_le Xi hp.grow,(Q7.low i o im hi Ko hl Wz).2⟩
   ·exact hp.ok.low i o im (.inr hi) (UQ i o hi.1 ho) hl QD
  ·rcases hi with hi|hi <;> rcases hj with hj|hj
   ·obtain⟨im,h1,h2,h3,_⟩:=hOld i oi hi ZZ T5;obtain⟨jm,k1,k2,k3,_⟩:=hOld j oj hj ZY Uj;rw[ha]at h2;cases h2;rw[hb]at k2;cases k2;exact Q7.inj i j oi oj a b hi hj Rm h3 k3 T5 Uj h1 k1 hra WG
   ·obtain⟨im,h1,h2,h3,h4⟩:=hOld i oi hi ZZ T5;rw[ha]at h2;cases h2;have:=(X8 j b oj hj.1 hj.2 ZY Uj hb).2;omega
   ·obtain⟨im,h1,h2,h3,h4⟩:=hOld j oj hj ZY Uj;rw[hb]at h2;cases h2;have:=(X8 i a oi hi.1 hi.2 ZZ T5 ha).2;omega
   ·exact hp.ok.inj i j oi oj a b (.inr hi) (.inr hj) Rm (UQ i oi hi.1 ZZ) (UQ j oj hj.1 ZY) T5 Uj ha hb hra WG
  ·rcases hi with hi|hi
   ·have:=hS i hi;rw[PH i (.inl this)]at ho;obtain⟨im,QD,hf⟩:=Q7.Jv i o hi ho hr;exact⟨im,hold i im hi QD,fun b x hx=>by rw[hp.frame b (Jx Q7 hi ho hr QD hx) fun i hi=>by simp at hi];exact hf b x hx⟩
   ·exact hp.ok.Jv i o (.inr hi) (UQ i o hi.1 ho) hr
  ·have oldR:∀i oi a,S i->Qq (m.news++H) i=some oi->μ' i=some a->Wm oi->Qq H i=some oi/\μ i=some a:=by
    intro i oi a hi ZZ ha hr;have:=hS i hi;rw[PH i (.inl this)]at ZZ;rw[hp.ext i (by omega)]at ha;exact⟨ZZ,ha⟩
   rcases hi with hi|hi <;> rcases hj with hj|hj
   ·obtain⟨h1,h2⟩:=oldR i oi a hi ZZ ha J3;obtain⟨jm,k1,k2,k3,_⟩:=hOld j oj hj ZY Uj;rw[hb]at k2;cases k2;exact Q7.sep i j oi oj a b x hi hj h1 k3 J3 Uj h2 k1 WG hx
   ·obtain⟨h1,h2⟩:=oldR i oi a hi ZZ ha J3;have:=(X8 j b oj hj.1 hj.2 ZY Uj hb).2;have:=Jx Q7 hi h1 J3 h2 hx;omega
   ·obtain⟨jm,k1,k2,k3,k4⟩:=hOld j oj hj ZY Uj;rw[hb]at k2;cases k2;rcases hp.rf i a oi (.inl hi) (UQ i oi hi.1 ZZ) J3 ha b.Zq x hx with e|⟨k,Ui,ko,hSk,_,hko,hkr,T6,hkb⟩|⟨k,hk,_⟩
    ·omega
    ·exact Q7.sep k j ko oj Ui b x hSk.1 hj (hH k ko hko) k3 hkr Uj T6 k1 WG hkb
    ·simp at hk
   ·exact hp.ok.sep i j oi oj a b x (.inr hi) (.inr hj) (UQ i oi hi.1 ZZ) (UQ j oj hj.1 ZY) J3 Uj ha hb WG hx
  ·have J4:m.n<=i/\i<m.n':=hi.elim id fun h=>by simp at h
   rcases hp.rf i im o (.inl J4) (UQ i o J4.1 ho) hr hm b x hx with e|⟨k,Ui,ko,hSk,hkn,hko,c⟩|⟨k,hk,_⟩
   ·exact .inl e
   ·exact .inr (.inl ⟨k,Ui,ko,hSk.1,hkn,hH k ko hko,c⟩)
   ·simp at hk
theorem XX(P:Program)(B:Lo):W4 P B (XN []):=fun _ _ _ _ _ _ h=>by cases h
end Go.CE

namespace Go.CE
open Go Go.RowKit
noncomputable section

section
variable {P:Program} {fr:Frame} {cs:List Frame} {w:World} {A:Array Value} {ops:Array Oper} {i:Nat} {l:List Nat} {k:List Item} {o:Oper}
theorem step_defer{c:Call}{f:Operand}{d:Deferred}(hm:fr.mode=.run)(hr:fr.roundOf=none)(ho:ops[i]? =some o)(hw:Region.wanted o (yielded ops A)=true)(XY:o.op=.defer c)(hc:c.callee=.value f)
 (hd:(Deferred.ofValue ((Xe fr A ops (i::l) k).eval f) (c.args.map (Xe fr A ops (i::l) k).eval)).run P w=.ok d w):
 step P (lone (Xe fr A ops (i::l) k) cs w)=.next (lone {(Xe fr A ops (i::l) k).finish undef with defers:=d::fr.defers} cs w):=by
 refine step_lone_go ?_;have he:(Xe fr A ops (i::l) k).oper? =some o:=by simp[Frame.oper?,Xe,ho]
 simp only[stepG,show(Xe fr A ops (i::l) k).mode=.run from hm];unfold stepG.exec;simp only[Xe,ho,LG,hw,Option.getD_some,if_true];unfold stepG.oper;simp only[Frame.oper?,ho,hr];unfold stepG.apply;simp only[Xe,hr]at hd;simp[execOp,XY,resolve,hc,hd,Sem.runT_eq,Frame.finish,ho]
theorem rA{cal:Frame}{c:Call}{v:Value}(hm:fr.mode=.run)(hk:fr.kind=.deferred)(hr:fr.roundOf=none)(ho:ops[i]? =some o)(hw:Region.wanted o (yielded ops A)=true)(XY:o.op=.call c)(hc:c.callee=.builtin .recover)(ha:c.args=#[])
 (hcal:cal.mode=.panicking [{v,recovered:=false}]):
 step P (lone (Xe fr A ops (i::l) k) (cal::cs) w)=.next (lone ((Xe fr A ops (i::l) k).finish v) ({cal with mode:=.panicking [{v,recovered:=true}]}::cs) w):=by
 refine step_lone_go ?_;simp only[stepG,show(Xe fr A ops (i::l) k).mode=.run from hm];unfold stepG.exec;simp only[Xe,ho,LG,hw,Option.getD_some,if_true];unfold stepG.oper;simp only[Frame.oper?,ho,hr];unfold stepG.apply;simp[execOp,XY,resolve,hc,ha,invoke,builtin,Sem.runT_eq,tryRecover,hk,hcal,Frame.finish,ho]
theorem gB{cal:Frame}{c:Call}(hm:fr.mode=.run)(hr:fr.roundOf=none)(ho:ops[i]? =some o)(hw:Region.wanted o (yielded ops A)=true)(XY:o.op=.call c)(hc:c.callee=.builtin .recover)(ha:c.args=#[])(hk:fr.kind=.deferred)
 (hcal:cal.mode=.returning):
 step P (lone (Xe fr A ops (i::l) k) (cal::cs) w)=.next (lone ((Xe fr A ops (i::l) k).finish .nilIface) (cal::cs) w):=by
 refine step_lone_go ?_;simp only[stepG,show(Xe fr A ops (i::l) k).mode=.run from hm];unfold stepG.exec;simp only[Xe,ho,LG,hw,Option.getD_some,if_true];unfold stepG.oper;simp only[Frame.oper?,ho,hr];unfold stepG.apply;simp[execOp,XY,resolve,hc,ha,invoke,builtin,Sem.runT_eq,tryRecover,hk,hcal,Frame.finish,ho]
theorem Pf{g:FuncId}{args:Array Value}{d:Deferred}{ds:List Deferred}{fn:Fn}{ys:Array Value}(hm:fr.mode≠.run)(hd:fr.defers=d::ds)(ht:d.target=.fn fn ys)(hi:(invoke d.target d.args).run P w=.ok (.enter g args) w):
 step P (lone fr cs w)=.next (lone (Frame.enter P g args .deferred) ({fr with defers:=ds}::cs) w):=by
 obtain⟨t,a⟩:=d;simp only at ht;subst ht;refine step_lone_go ?_;cases hmode:fr.mode with
 |run=>exact absurd hmode hm
 |returning=>simp[stepG,unwind,hd,callDeferred,hmode,Sem.runT_eq,hi]
 |panicking ch=>simp[stepG,unwind,hd,callDeferred,hmode,Sem.runT_eq,hi]
def Mt(cal:Frame):Frame:=match cal.mode with
 | .panicking [{recovered:=true,..}]=>{cal with mode:=.returning}
 |_=>cal
theorem dw{cal:Frame}{fn:Func}{v:Value}(hm:fr.mode=.returning)(hd:fr.defers=[])(hk:fr.kind=.deferred)(hf:P.funcs[fr.fn]? =some fn)(hr:(results fn fr.tmps).run P w=.ok v w)
 (hcal:cal.mode=.returning\/∃v,cal.mode=.panicking [{v,recovered:=true}]):
 step P (lone fr (cal::cs) w)=.next (lone {cal with mode:=.returning} cs w):=by
 refine step_lone_go ?_;rcases hcal with h|⟨v,h⟩
 ·have:cal={cal with mode:=.returning}:=by cases cal;simp_all
  rw[<-this];simp[stepG,unwind,doReturn,hm,hd,hk,hf,Sem.runT_eq,hr,h]
 ·simp[stepG,unwind,doReturn,hm,hd,hk,hf,Sem.runT_eq,hr,h]
end

def QaX(o:Oper):Bool:=match o.op with
 | .defer _=>true
 | .call c=>match c.callee with
   | .builtin .recover=>true
   |_=>false
 |_=>false
def bm:List Oper->List Oper×List Oper
 |[]=>([],[])
 |o::l=>bif QaX o then([],o::l)else(o::(bm l).1,(bm l).2)
theorem kO:∀l:List Oper,(bm l).1++(bm l).2=l
 |[]=>rfl
 |o::l=>by
  simp only[bm];cases QaX o with
  |true=>rfl
  |false=>simp[kO l]
def ET(P:Program)(F:FuncId->Bool)(Xm:Vh)(fuel:Nat):CF->Qm->Nat->Option Rs:=fun c H n=>
 CF.rec (fun fn T todo ds mode ro=>CM.rec (Tm.rec (fun len tr=>aY P F Xm fuel n fn len tr todo ds ro H n [] []) T) none (fun _=>none) mode) c
theorem cC{P:Program}{F:FuncId->Bool}{Xm:Vh}{B:Lo}(hF:∀g,F g=true->Q0 P g=true)(XP:P.follows .mixedOrders=true)(We:W4 P B Xm)(fuel:Nat):iw P B (ET P F Xm fuel):=by
 intro c H n s hu h;have hr:p8 P F Xm fuel n c H n [] []=some s:=by
  unfold ET at h;obtain⟨fn,⟨len,tr⟩,todo,ds,mode,ro⟩:=c;cases mode with
  |run=>
   rw[<-oE,<-oF];exact h
  |ret=>cases h
  |ZB v=>cases h
 obtain⟨Rr,Wr,hfj,a1,a2,a3,a4⟩:=Y4 hF XP We fuel n c H n [] [] s hu (fun i hi=>by simp at hi) (fun i hi=>by simp at hi) hr;exact hfj.lists (fun i hi=>by simpa using a1 i hi) (fun i hi=>by simpa using a2 i hi) a4
structure MS where
 c:CF
 H:Qm
 n:Nat
 R:List Nat
 W:List Nat
def Qbh(c:CF):Bool:=match c.todo with
 | .code (.region _ ops false)::_=>ops.toList.any QaX
 |_=>false
def mT(P:Program)(F:FuncId->Bool)(Xm:Vh)(fu:Nat)(b:Nat):Nat->MS->Option MS
 |0,_=>none
 |k+1,m=>
  bif (match m.c.mode with| .run=>Qbh m.c|_=>m.c.defers.isEmpty)then some m else
  match Rn P F Xm (ET P F Xm fu) m.c m.H m.n with
  |some (.go c' H' n' R' W')=>mT P F Xm fu b k ⟨c',H',n',ZP b R' m.R,ZP b W' m.W⟩
  |_=>none
structure SpR where
 T:Tm
 H:Qm
 n:Nat
 o:Oper
 post:List Oper
 Qs:List Rec
def uz(P:Program)(F:FuncId->Bool)(Xm:Vh)(fu:Nat)(ops:Array Oper)(c:CF)(H:Qm)(n:Nat):Option SpR:=
 match bm ops.toList with
 |(pre,o::post)=>match gF P F Xm (ET P F Xm fu) ops pre c.tmps H n with
  |some (Qs,.ok T H' n')=>bif PI T o.dst && Region.wanted o (XI ops T)then some ⟨T,H',n',o,post,Qs⟩else none
  |_=>none
 |_=>none
def HJ:CM->Option Value
 | .run=>none
 | .ret=>some .nilIface
 | .ZB v=>some v
def gH(P:Program)(F:FuncId->Bool)(Xm:Vh)(fu:Nat)(b:Nat)(g:FuncId)(args:Array Value)(pv:Value)(H:Qm)(n:Nat)(R W:List Nat):Option MS:=
 match Wi P g args with
 |some cd=>match mT P F Xm fu b 10000 ⟨cd,H,n,R,W⟩with
  |some m1=>match m1.c.mode,m1.c.todo with
   | .run,.code (.region _ ops false)::todo=>match uz P F Xm fu ops m1.c m1.H m1.n with
     |some s=>match s.o.op with
      | .call c=>match c.callee with
        | .builtin .recover=>bif c.args.isEmpty then
         match gF P F Xm (ET P F Xm fu) ops s.post (V0 s.T s.o.dst pv) s.H s.n with
         |some (recs2,.ok T2 H2 n2)=>match mT P F Xm fu b 10000 ⟨{m1.c with tmps:=T2,todo:=todo},H2,n2,ZP b (Yn recs2) (ZP b (Yn s.Qs) m1.R),ZP b (Uh recs2) (ZP b (Uh s.Qs) m1.W)⟩with
          |some m2=>match m2.c.mode,m2.c.defers,kW P m2.c.fn m2.H m2.c.tmps with
           | .ret,[],some (_,R3)=>some ⟨m2.c,m2.H,m2.n,ZP b R3 m2.R,m2.W⟩
           |_,_,_=>none
          |none=>none
         |_=>none
          else none
        |_=>none
      |_=>none
     |none=>none
   |_,_=>none
  |none=>none
 |none=>none
def IZ(P:Program)(F:FuncId->Bool)(Xm:Vh)(fu:Nat)(f:FuncId)(args:Array Value)(H:Qm)(n:Nat):Option Rs:=
 match Wi P f args with
 |some c0=>match mT P F Xm fu n 10000 ⟨c0,H,n,[],[]⟩with
  |some m1=>match m1.c.mode,m1.c.todo,m1.c.defers with
   | .run,.code (.region _ ops false)::todo,[]=>match uz P F Xm fu ops m1.c m1.H m1.n with
     |some s=>match s.o.op,s.post with
      | .defer c,[]=>match c.callee with
        | .value x=>match XV s.T x with
          |some (.func (.func g) xs ys)=>bif c.args.isEmpty && F g then
           match mT P F Xm fu n 100000 ⟨{m1.c with tmps:=V0 s.T s.o.dst undef,todo:=todo},s.H,s.n,ZP n (Yn s.Qs) m1.R,ZP n (Uh s.Qs) m1.W⟩with
           |some m2=>match HJ m2.c.mode,m2.c.defers with
            |some pv,[]=>match gH P F Xm fu n g (xs++ys) pv m2.H m2.n m2.R m2.W with
             |some m3=>match kW P m2.c.fn m3.H m2.c.tmps with
              |some (v,R4)=>some ⟨.ret v,m3.H,m3.n,ZP n R4 m3.R,m3.W⟩
              |none=>none
             |none=>none
            |_,_=>none
           |none=>none
            else none
          |_=>none
        |_=>none
      |_,_=>none
     |none=>none
   |_,_,_=>none
  |none=>none
 |none=>none

section
variable {P:Program} {F:FuncId->Bool} {Xm:Vh} {B:Lo}
theorem GoJ.refl(c:CF)(H:Qm)(n:Nat):GoJ P B c H n c H n [] []:=⟨Shape.same _ _ _,fun _ μ w fr _ _ Q7 _ _ _ X8 _=>⟨fr,w,μ,Post.refl Q7,X8,rfl,rfl,Steps.refl _ _⟩⟩
theorem GoJ.trans{c c' c'':CF}{H H' H'':Qm}{n n' n'':Nat}{R R' W W':List Nat}(h:GoJ P B c H n c' H' n' R W)(k:GoJ P B c' H' n' c'' H'' n'' R' W'):GoJ P B c H n c'' H'' n'' (R++R') (W++W'):=by
 refine⟨h.shape.trans k.shape,fun S μ w fr cs Z Q7 hB hS hf X8 hR=> ?_⟩;have l1:=h.shape.le;have l2:=k.shape.le;obtain⟨UK,w1,μ1,hp,Kd,hr,hfn,XZ⟩:=h.sem S μ w fr cs Z Q7 hB hS (fun q a b=>hf q a (by omega)) X8 (fun q hq Xi=>hR q (Lg _ hq) Xi);obtain⟨fr2,w2,μ2,YF,hfr2,hr2,hfn2,hst2⟩:=k.sem _ μ1 w1 UK cs Z hp.ok (hB.post Q7 hp) (fun q hq=>hq.elim (fun e=>by have:=hS q e;omega) (fun e=>e.2))
  (fun q a b=>by rw[hp.ext q (by omega)];exact hf q (by omega) b) Kd (fun q hq Xi=>by
   rcases LF q n with h1|h1
   ·exact .inl (hR q (Lt _ hq) h1)
   ·exact .inr ⟨h1,Xi⟩)
 exact⟨fr2,w2,μ2,hp.trans YF,hfr2,hr2.trans hr,hfn2.trans hfn,XZ.trans hst2⟩
theorem PA(hF:∀g,F g=true->Q0 P g=true)(XP:P.follows .mixedOrders=true)(We:W4 P B Xm){fu b:Nat}:∀(k:Nat) (m m':MS),Under m.H m.n->mT P F Xm fu b k m=some m'->
 ∃R W,GoJ P B m.c m.H m.n m'.c m'.H m'.n R W/\(∀i,i<b->(i∈m'.R<->i∈m.R\/i∈R))/\(∀i,i<b->(i∈m'.W<->i∈m.W\/i∈W))
 |0,m,m',hu,h=>by simp[mT]at h
 |k+1,m,m',hu,h=>by
  simp only[mT]at h;cases hq:(match m.c.mode with| .run=>Qbh m.c|_=>m.c.defers.isEmpty)with
  |true=>
   rw[hq]at h;simp only[cond_true,YO]at h;subst h;exact⟨[],[],GoJ.refl _ _ _,fun i _=>by simp,fun i _=>by simp⟩
  |false=>
   rw[hq]at h;simp only[cond_false]at h;split at h
   ·rename_i c' H' n' R' W' hs;have PH:GoJ P B m.c m.H m.n c' H' n' R' W':=Vy hF XP We (cC hF XP We fu) hu hs;obtain⟨R,W,h1,h2,h3⟩:=PA hF XP We k ⟨c',H',n',ZP b R' m.R,ZP b W' m.W⟩ m' (hu.shape PH.shape) h;refine⟨_,_,PH.trans h1,fun i hi=> ?_,fun i hi=> ?_⟩
    ·rw[h2 i hi,Zl hi,LZ,or_assoc]
    ·rw[h3 i hi,Zl hi,LZ,or_assoc]
   ·cases h
structure Sofar (B:Lo) (S:Nat->Prop) (n N:Nat) (W:List Nat) (μ0 μ:Mu) (H0 H:Qm) (m:Nat) (w0 w:World):Prop where
 post:Post B S n m W μ0 μ H0 H w0 w
 has:B.has w
 free:JL μ m N
variable {S:Nat->Prop} {n N m m2:Nat} {W W2 R2:List Nat} {μ0 μ:Mu} {H0 H H2:Qm} {w0 w:World}
theorem Sofar.goj(s:Sofar B S n N W μ0 μ H0 H m w0 w)(hS:∀i,S i->i<n){c c':CF}(h:GoJ P B c H m c' H2 m2 R2 W2)(hN:m2<=N)(hR:∀i∈R2,i<n->S i){Z:Bot}{fr:Frame}(X8:FrR Z μ c fr)(cs:List Frame):
 ∃fr' w' μ',Sofar B S n N (W++W2) μ0 μ' H0 H2 m2 w0 w'/\FrR Z μ' c' fr'/\fr'.roundOf=fr.roundOf/\fr'.fn=fr.fn/\Steps P (lone fr cs w) (lone fr' cs w')/\Ext μ μ':=by
 have l1:=s.post.le;have l2:=h.shape.le;have hf:JL μ m m2:=fun q a b=>s.free q a (by omega)
 obtain⟨fr',w',μ',hp,h1,h2,h3,h4⟩:=h.sem _ μ w fr cs Z s.post.ok s.has (fun i hi=>hi.elim (fun e=>by have:=hS i e;omega) (fun e=>e.2)) hf X8
  (fun q hq Xi=>by
   rcases LF q n with h1|h1
   ·exact .inl (hR q hq h1)
   ·exact .inr ⟨h1,Xi⟩)
 exact⟨fr',w',μ',⟨s.post.trans hp,s.has.post s.post.ok hp,fun q a b=>by rw[hp.ext q (by omega)];exact s.free q (by omega) b⟩,h1,h2,h3,h4,hp.mu hf⟩
theorem Sofar.seq(s:Sofar B S n N W μ0 μ H0 H m w0 w)(hS:∀i,S i->i<n){ops:Array Oper}{Qs:List Rec}{len:Nat}{T T2:Tm}(R9:KK Qs T H m T2 H2 m2)(hs:∀r∈Qs,cv len r)(hk:∀r∈Qs,Rv P B ops r)(i:Nat)
 (ho:∀(j:Nat) r,Qs[j]? =some r->ops[i+j]? =some r.o) (hl:T.len=len) (hN:m2<=N) (hR:∀i∈Yn Qs,i<n->S i) {fr:Frame} {A:Array Value} (hm:fr.mode=.run) (hT:TR μ T A) (rest:List Nat) (k:List Item) (cs:List Frame):
 ∃A' w' μ',Sofar B S n N (W++Uh Qs) μ0 μ' H0 H2 m2 w0 w'/\TR μ' T2 A'/\Ext μ μ'/\Steps P (lone (Xe fr A ops (Ly i Qs.length++rest) k) cs w) (lone (Xe fr A' ops rest k) cs w'):=by
 have l1:=s.post.le;have l2:=(ZG Qs _ _ _ _ _ _ R9 hs).le;have hf:JL μ m m2:=fun q a b=>s.free q a (by omega)
 obtain⟨μ',A',w',hp,h1,h2⟩:=bn (fr:=fr) (cs:=cs) (k:=k) hm Qs i T H m T2 H2 m2 rest R9 hs hk ho hl _ μ w A s.post.ok s.has (fun i hi=>hi.elim (fun e=>by have:=hS i e;omega) (fun e=>e.2)) hf
  (fun q hq Xi=>by
   rcases LF q n with h1|h1
   ·exact .inl (hR q hq h1)
   ·exact .inr ⟨h1,Xi⟩) hT
 exact⟨A',w',μ',⟨s.post.trans hp,s.has.post s.post.ok hp,fun q a b=>by rw[hp.ext q (by omega)];exact s.free q (by omega) b⟩,h1,hp.mu hf,h2⟩
theorem aa(hF:∀g,F g=true->Q0 P g=true)(XP:P.follows .mixedOrders=true)(We:W4 P B Xm){fu:Nat}{ops:Array Oper}{c:CF}{H:Qm}{n:Nat}{s:SpR}(hu:Under H n)(h:uz P F Xm fu ops c H n=some s):
 ∃pre,ops.toList=pre++s.o::s.post/\(∀r∈s.Qs,cv c.tmps.len r)/\(∀r∈s.Qs,Rv P B ops r)/\KK s.Qs c.tmps H n s.T s.H s.n/\s.Qs.map (·.o)=pre/\Under s.H s.n/\PI s.T s.o.dst=true/\Region.wanted s.o (XI ops s.T)=true:=by
 unfold uz at h;have he:=kO ops.toList;split at h
 ·rename_i pre o post hsp;rw[hsp]at he;split at h
  ·rename_i Qs T H' n' hr;cases hd:(PI T o.dst && Region.wanted o (XI ops T))with
   |false=>rw[hd]at h;cases h
   |true=>
    rw[<-ZO h];simp only[YB]at hd;obtain⟨h1,h2,h3,h4,h5⟩:=Kt hF (cC hF XP We fu) We (len:=c.tmps.len) pre c.tmps H n Qs _ rfl hu hr;exact⟨pre,he.symm,h1,h2,h3,h4,h5,hd.1,hd.2⟩
  ·cases h
 ·cases h
theorem iq:∀(l:List Rec) (T:Tm) (H:Qm) (n:Nat) (T':Tm) (H':Qm) (n':Nat),KK l T H n T' H' n'->T'.len=T.len
 |[],T,H,n,T',H',n',h=>by
  obtain⟨rfl,_,_⟩:=h;rfl
 |r::l,T,H,n,T',H',n',h=>by
  obtain⟨_,_,_,h4⟩:=h;rw[iq l _ _ _ _ _ _ h4,Uk]
theorem kU{B:Lo}{S:Nat->Prop}{μ:Mu}{H:Qm}{n:Nat}{w:World}{T:Tm}{A:Array Value}{f:FuncId}{v:Value}{R:List Nat}(hu:Under H n)(Q7:Ok B S μ (Qq H) w)(ht:TR μ T A)(hv:kW P f H T=some (v,R))(hR:∀i∈R,i<n->S i):
 ∃fn v',P.funcs[f]? =some fn/\(results fn A).run P w=.ok v' w/\VR μ v v':=by
 unfold kW at hv;rw[aO,Lm]at hv;split at hv
 ·rename_i fn hfn;split at hv
  ·rename_i vs R1 hvs;simp only[YO,YR]at hv;obtain⟨rfl,rfl⟩:=hv;obtain⟨vs',h1,h2⟩:=Ra hu Q7 ht _ _ _ hvs hR;refine⟨fn,_,hfn, ?_,qS h2⟩;rw[dC,Array.mapM_eq_mapM_toList];simp only[Sem.run_bind,Sem.run_map,h1,Result.andThen_ok,Sem.run_pure]
  ·cases hv
 ·cases hv
theorem range_split{a b:Nat}{m:Nat}(h:m=a+(b+1)):Ly 0 m=Ly 0 a++a::Ly (a+1) b:=by
 subst h;have:=List.range'_append_1 (s:=0) (m:=a) (n:=b+1);rw[<-this,Lv,List.range'_succ]
def tU(μ:Mu)(pv:Value)(cal:Frame):Prop:=(pv=.nilIface/\cal.mode=.returning)\/∃v',VR μ pv v'/\cal.mode=.panicking [{v:=v',recovered:=false}]
theorem dE(hF:∀g,F g=true->Q0 P g=true)(XP:P.follows .mixedOrders=true)(We:W4 P B Xm){fu b:Nat}{g:FuncId}{args:Array Value}{pv:Value}{R0 W0:List Nat}{m3:MS}(hu:Under H m)(h:gH P F Xm fu b g args pv H m R0 W0=some m3):
 ∃Rr Wr,Shape H m m3.H m3.n Rr Wr/\(∀i,i<b->(i∈m3.R<->i∈R0\/i∈Rr))/\(∀i,i<b->(i∈m3.W<->i∈W0\/i∈Wr))/\
  ∀(S:Nat->Prop) (n N:Nat) (W:List Nat) (μ0 μ:Mu) (H0:Qm) (w0 w:World),Sofar B S n N W μ0 μ H0 H m w0 w->(∀i,S i->i<n)->m3.n<=N->(∀i∈Rr,i<n->S i)->∀(args':Array Value) (cal:Frame) (cs:List Frame),VRs μ args args'->tU μ pv cal->
   ∃w' μ',Sofar B S n N (W++Wr) μ0 μ' H0 m3.H m3.n w0 w'/\Ext μ μ'/\Steps P (lone (Frame.enter P g args' .deferred) (cal::cs) w) (lone {cal with mode:=.returning} cs w'):=by
 unfold gH at h;split at h
 ·rename_i cd hcd;split at h
  ·rename_i m1 hm1;obtain⟨R1,W1,g1,a1,b1⟩:=PA hF XP We 10000 ⟨cd,H,m,R0,W0⟩ m1 hu hm1;have Tz:Under m1.H m1.n:=hu.shape g1.shape;split at h
   ·rename_i id ops todo hmode1 htodo1;split at h
    ·rename_i s hs;obtain⟨pre,e1,e2,e3,e4,e5,e6,e7,e8⟩:=aa hF XP We Tz hs;split at h
     ·rename_i c XY;split at h
      ·rename_i hcal;cases hca:c.args.isEmpty with
       |false=>rw[hca]at h;cases h
       |true=>
        rw[hca]at h;simp only[cond_true]at h;split at h
        ·rename_i recs2 T2 H2 n2 hr2;obtain⟨f1,f2,f3,f4,f5⟩:=Kt hF (cC hF XP We fu) We (len:=m1.c.tmps.len) s.post (V0 s.T s.o.dst pv) s.H s.n recs2 _ (by rw[Uk];exact iq _ _ _ _ _ _ _ e4) e6 hr2;split at h
         ·rename_i m2 hm2;obtain⟨R7,W7,g7,a7,b7⟩:=PA hF XP We 10000 _ m2 f5 hm2;simp only at g7 a7 b7;have hu2:Under m2.H m2.n:=f5.shape g7.shape;split at h
          ·rename_i hmode2 hds2 hres;rename_i vres R3;simp only[YO]at h;subst h;have sh4:=ZG s.Qs _ _ _ _ _ _ e4 e2;have sh5:=ZG recs2 _ _ _ _ _ _ f3 f1;have YK:=((g1.shape.trans sh4).trans sh5).trans g7.shape;have hca':c.args=#[]:=by simpa[Array.isEmpty]using hca
           refine⟨(((R1++Yn s.Qs)++Yn recs2)++R7)++R3,((W1++Uh s.Qs)++Uh recs2)++W7,⟨YK.le,YK.keep,YK.top,fun i hi=>Lg _ (YK.sub i hi),YK.wlt⟩,fun i hi=> ?_,fun i hi=> ?_, ?_⟩
           ·simp only[LZ];rw[Zl hi,a7 i hi,Zl hi,Zl hi,a1 i hi];simp only[or_assoc]
           ·simp only[LZ];rw[b7 i hi,Zl hi,Zl hi,b1 i hi];simp only[or_assoc]
           ·intro S n N W μ0 μ H0 w0 w hs0 hS hN hR args' cal cs hv hun;simp only at hN;have l1:=g1.shape.le;have l2:=sh4.le;have l3:=sh5.le;have l4:=g7.shape.le;simp only[LZ]at hR;have hfr0:FrR ⟨[],.deferred⟩ μ cd (Frame.enter P g args' .deferred):=oM .deferred hcd hv;obtain⟨UK,w1,μ1,s1,Kd,hro1,_,st1,x1⟩:=hs0.goj hS g1 (by omega) (fun i hi=>hR i (.inl (.inl (.inl (.inl hi))))) hfr0 (cal::cs);have hro1:UK.roundOf=none:=hro1;obtain⟨ha,hb,hd⟩:=Kd.running hmode1;rw[htodo1]at hd;obtain⟨L',hL,hL'⟩:=hd.code;have hlen:ops.size=pre.length+(s.post.length+1):=by
             have:=congrArg Ld e1;simp at this;omega
            have hat:ops[pre.length]? =some s.o:=by
             rw[<-Lm,e1,Lp (Lw _)];simp
            have hplen:s.Qs.length=pre.length:=by have:=congrArg Ld e5;simpa using this
            have hown1:∀(j:Nat) r,s.Qs[j]? =some r->ops[0+j]? =some r.o:=by
             intro j r hj;rw[Lv];exact U4 (l:=ops.toList) (l2:=s.o::s.post) (by rw[e5];exact e1.symm) rfl j r hj
            obtain⟨A1,w2,μ2,s2,hT2,x2,st2⟩:=s1.seq hS e4 e2 e3 0 hown1 rfl (by omega) (fun i hi=>hR i (.inl (.inl (.inl (.inr hi))))) ha hb (pre.length::Ly (pre.length+1) s.post.length) L' (cal::cs);have J4:step P (lone UK (cal::cs) w1)=.next (lone (Xe UK UK.tmps ops (Ly 0 ops.size) L') (cal::cs) w1):=ZS ha hL;rw[range_split hlen]at J4;rw[hplen]at st2;have UO:Region.wanted s.o (yielded ops A1)=true:=by rw[Kr hT2];exact e8
            have hk1:UK.kind=.deferred:=Kd.kind
            -- the operation itself
            have Vq:∃v' cal1,VR μ2 pv v'/\(cal1.mode=.returning\/∃v,cal1.mode=.panicking [{v,recovered:=true}])/\{cal1 with mode:=.returning}={cal with mode:=FrameMode.returning}/\
             step P (lone (Xe UK A1 ops (pre.length::Ly (pre.length+1) s.post.length) L') (cal::cs) w2)=.next (lone ((Xe UK A1 ops (pre.length::Ly (pre.length+1) s.post.length) L').finish v') (cal1::cs) w2):=by
             rcases hun with ⟨rfl,hret⟩|⟨v',Vp,hpan⟩
             ·exact⟨.nilIface,cal,.nilIface,.inl hret,rfl,gB ha hro1 hat UO XY hcal hca' hk1 hret⟩
             ·exact⟨v',{cal with mode:=.panicking [{v:=v',recovered:=true}]},(Vp.mono x1).mono x2,.inr ⟨v',rfl⟩,rfl,rA ha hk1 hro1 hat UO XY hcal hca' hpan⟩
            obtain⟨v',cal1,Vp,hcal1,hcalr,st3⟩:=Vq;rw[Jr hat]at st3;have hdst:=Y5 e7;have hT3:TR μ2 (V0 s.T s.o.dst pv) (putA A1 v' s.o.dst):=hT2.putA hdst Vp;have hown2:∀(j:Nat) r,recs2[j]? =some r->ops[pre.length+1+j]? =some r.o:=by
             intro j r hj;have e:(recs2.map (·.o))[j]? =some r.o:=by rw[Lx,hj];rfl
             rw[f4]at e;rw[<-Lm,e1,Lp (by omega),show pre.length+1+j-pre.length=j+1 by omega];simpa using e
            have hplen2:recs2.length=s.post.length:=by have:=congrArg Ld f4;simpa using this
            obtain⟨A2,w3,μ3,s3,hT4,x3,st4⟩:=s2.seq hS f3 f1 f2 (pre.length+1) hown2 (by rw[Uk];exact iq _ _ _ _ _ _ _ e4) (by omega) (fun i hi=>hR i (.inl (.inl (.inr hi)))) ha hT3 [] L' (cal1::cs);rw[List.append_nil,hplen2]at st4;have st5:Steps P (lone (Xe UK A2 ops [] L') (cal1::cs) w3) (lone {UK with tmps:=A2,todo:=L'} (cal1::cs) w3):=.one (Vj ha);have hfr2:FrR ⟨[],.deferred⟩ μ3 {m1.c with tmps:=T2,todo:=todo} {UK with tmps:=A2,todo:=L'}:=
             ⟨Kd.fn,hT4,fun _=>(hL'.mono x2).mono x3,(Kd.defers.mono x2).mono x3,(Kd.mode.mono x2).mono x3,Kd.kind,(Kd.round.mono x2).mono x3⟩
            obtain⟨fr3,w4,μ4,s4,hfr3,hro3,_,st6,x4⟩:=s3.goj hS g7 (by omega) (fun i hi=>hR i (.inl (.inr hi))) hfr2 (cal1::cs);have hmode3:fr3.mode=.returning:=by
             have:=hfr3.mode;rw[hmode2]at this;generalize fr3.mode=q at this;cases this;rfl
            have hd3:fr3.defers=[]:=by
             have:=hfr3.defers;rw[hds2]at this;exact this.empty
            obtain⟨fn,vr,hfn,hresr,_⟩:=kU hu2 s4.post.ok hfr3.tmps hres (fun i hi Xi=>by
             rcases LF i n with h1|h1
             ·exact .inl (hR i (.inr hi) h1)
             ·exact .inr ⟨h1,Xi⟩)
            have st7:=dw (cs:=cs) hmode3 hd3 hfr3.kind (by rw[hfr3.fn];exact hfn) hresr hcal1;rw[hcalr]at st7;refine⟨w4,μ4,by simpa[List.append_assoc]using s4,((x1.trans x2).trans x3).trans x4, ?_⟩;exact st1.trans (.head J4 (st2.trans (.head st3 (st4.trans (st5.trans (st6.trans (.one st7)))))))
          ·cases h
         ·cases h
        ·cases h
      ·cases h
     ·cases h
    ·cases h
   ·cases h
  ·cases h
 ·cases h
theorem fO{fu b:Nat}:∀(k:Nat) (m m':MS),mT P F Xm fu b k m=some m'->(∀i∈m.W,i<b)->∀i∈m'.W,i<b
 |0,m,m',h,hw=>by simp[mT]at h
 |k+1,m,m',h,hw=>by
  simp only[mT]at h;cases hq:(match m.c.mode with| .run=>Qbh m.c|_=>m.c.defers.isEmpty)with
  |true=>
   rw[hq]at h;simp only[cond_true,YO]at h;subst h;exact hw
  |false=>
   rw[hq]at h;simp only[cond_false]at h;split at h
   ·exact fO k _ m' h (Ru hw)
   ·cases h
theorem BR{fu b:Nat}{g:FuncId}{args:Array Value}{pv:Value}{H:Qm}{m:Nat}{R0 W0:List Nat}{m3:MS}(h:gH P F Xm fu b g args pv H m R0 W0=some m3)(hw:∀i∈W0,i<b):∀i∈m3.W,i<b:=by
 unfold gH at h;split at h
 ·split at h
  ·rename_i m1 hm1;have w1:=fO 10000 _ m1 hm1 hw;split at h
   ·split at h
    ·split at h
     ·split at h
      ·have h:=Y8 h;split at h
       ·split at h
        ·rename_i m2 hm2;have w2:=fO 10000 _ m2 hm2 (Ru (Ru w1));split at h
         ·simp only[YO]at h;subst h;exact w2
         ·cases h
        ·cases h
       ·cases h
      ·cases h
     ·cases h
    ·cases h
   ·cases h
  ·cases h
 ·cases h
theorem y5(hF:∀g,F g=true->Q0 P g=true)(XP:P.follows .mixedOrders=true)(We:W4 P B Xm){fu:Nat}{f:FuncId}{args:Array Value}{H:Qm}{n:Nat}{s0:Rs}(hu:Under H n)(h:IZ P F Xm fu f args H n=some s0):
 Shape H n s0.H s0.n s0.R s0.W/\∀(S:Nat->Prop) (μ:Mu) (w:World) (args':Array Value) (cs:List Frame),Ok B S μ (Qq H) w->B.has w->(∀i,S i->i<n)->JL μ n s0.n->VRs μ args args'->(∀i∈s0.R,i<n->S i)->
  ∃XW w' μ',Post B S n s0.n s0.W μ μ' H s0.H w w'/\OR2 μ' s0.out XW/\EndsAs P (Frame.enter P f args' .normal) cs w XW w':=by
 unfold IZ at h;split at h
 ·rename_i c0 hc0;split at h
  ·rename_i m1 hm1;obtain⟨R1,W1,g1,a1,b1⟩:=PA hF XP We 10000 ⟨c0,H,n,[],[]⟩ m1 hu hm1;have Tz:Under m1.H m1.n:=hu.shape g1.shape;split at h
   ·rename_i id ops todo hmode1 htodo1 hds1;split at h
    ·rename_i s hs;obtain⟨pre,e1,e2,e3,e4,e5,e6,e7,e8⟩:=aa hF XP We Tz hs;split at h
     ·rename_i c XY XE;split at h
      ·rename_i x hcal;split at h
       ·rename_i g xs ys hx;cases hca:(c.args.isEmpty && F g)with
        |false=>rw[hca]at h;cases h
        |true=>
         rw[hca]at h;simp only[cond_true]at h;simp only[YB]at hca;split at h
         ·rename_i m2 hm2;obtain⟨R3,W3,g3,a3,b3⟩:=PA hF XP We 100000 _ m2 e6 hm2;simp only at g3 a3 b3;have hu2:Under m2.H m2.n:=e6.shape g3.shape;split at h
          ·rename_i pv hpv hds2;split at h
           ·rename_i m3 hm3;obtain⟨Rr,Wr,sh3,ar,br,hsem⟩:=dE (B:=B) hF XP We hu2 hm3;have hu3:Under m3.H m3.n:=hu2.shape sh3;split at h
            ·rename_i v R4 hres;simp only[YO]at h;subst h;have sh2:=ZG s.Qs _ _ _ _ _ _ e4 e2;have YK:=((g1.shape.trans sh2).trans g3.shape).trans sh3;have hRiff:∀i,i<n->(i∈ZP n R4 m3.R<->i∈((R1++Yn s.Qs)++R3)++Rr\/i∈R4):=fun i hi=>by
              rw[Zl hi,ar i hi,a3 i hi,Zl hi,a1 i hi];simp only[LZ,List.not_mem_nil,false_or]
             have hWiff:∀i,i<n->(i∈m3.W<->i∈((W1++Uh s.Qs)++W3)++Wr):=fun i hi=>by
              rw[br i hi,b3 i hi,Zl hi,b1 i hi];simp only[LZ,List.not_mem_nil,false_or]
             have hWlt:∀i∈m3.W,i<n:=BR hm3 (fO 100000 _ m2 hm2 (Ru (fO 10000 _ m1 hm1 (fun i hi=>by simp at hi))));refine⟨⟨YK.le,fun i hi hw=>YK.keep i hi fun e=>hw ((hWiff i hi).2 e),YK.top,fun i hi=>(hRiff i (hWlt i hi)).2 (.inl (YK.sub i ((hWiff i (hWlt i hi)).1 hi))),fun i hi=>by have:=hWlt i hi;have:=YK.le;simp only at *;omega⟩,fun S μ w args' cs Q7 hB hS hf hv hR=> ?_⟩;simp only at hf hR ⊢;have hR':∀i,i<n->i∈((R1++Yn s.Qs)++R3)++Rr\/i∈R4->S i:=fun i hi h=>hR i ((hRiff i hi).2 h) hi
             have l1:=g1.shape.le;have l2:=sh2.le;have l3:=g3.shape.le;have l4:=sh3.le;have sf0:Sofar B S n m3.n [] μ μ H H n w w:=⟨Post.refl Q7,hB,hf⟩
             have hfr0:FrR Bot.no μ c0 (Frame.enter P f args' .normal):=U8 hc0 hv;obtain⟨UK,w1,μ1,s1,Kd,hro1,hfn1,st1,x1⟩:=sf0.goj hS g1 (by omega) (fun i hi Xi=>hR' i Xi (.inl (Lg _ (Lg _ (Lg _ hi))))) hfr0 cs;have hro1:UK.roundOf=none:=hro1;obtain⟨ha,hb,hd⟩:=Kd.running hmode1;rw[htodo1]at hd;obtain⟨L',hL,hL'⟩:=hd.code;have hd1:UK.defers=[]:=by
              have:=Kd.defers;rw[hds1]at this;exact this.empty
             rw[XE]at e1;have hlen:ops.size=pre.length+(0+1):=by
              have:=congrArg Ld e1;simp at this;omega
             have hat:ops[pre.length]? =some s.o:=by
              rw[<-Lm,e1,Lp (Lw _)];simp
             have hplen:s.Qs.length=pre.length:=by have:=congrArg Ld e5;simpa using this
             have hown1:∀(j:Nat) r,s.Qs[j]? =some r->ops[0+j]? =some r.o:=by
              intro j r hj;rw[Lv];exact U4 (l:=ops.toList) (l2:=[s.o]) (by rw[e5];exact e1.symm) rfl j r hj
             obtain⟨A1,w2,μ2,s2,hT2,x2,st2⟩:=s1.seq hS e4 e2 e3 0 hown1 rfl (by omega) (fun i hi Xi=>hR' i Xi (.inl (Lg _ (Lg _ (Lt _ hi))))) ha hb (pre.length::Ly (pre.length+1) 0) L' cs;have J4:step P (lone UK cs w1)=.next (lone (Xe UK UK.tmps ops (Ly 0 ops.size) L') cs w1):=ZS ha hL;rw[range_split hlen]at J4;rw[hplen]at st2;have UO:Region.wanted s.o (yielded ops A1)=true:=by rw[Kr hT2];exact e8
             have hvx:=oI (fr:=Xe UK A1 ops (pre.length::Ly (pre.length+1) 0) L') hT2 x _ hx;have hca':c.args=#[]:=by simpa[Array.isEmpty]using hca.1
             generalize hgx:(Xe UK A1 ops (pre.length::Ly (pre.length+1) 0) L').eval x=ux at hvx;cases hvx with
             |func q1 q2 q3 q4=>
              rename_i xs' ys';have hdv:(Deferred.ofValue ((Xe UK A1 ops (pre.length::Ly (pre.length+1) 0) L').eval x) (c.args.map (Xe UK A1 ops (pre.length::Ly (pre.length+1) 0) L').eval)).run P w2=.ok {target:=.fn (.func g) ys',args:=xs'} w2:=by
               rw[hgx,hca'];simp[Deferred.ofValue]
              have st3:=step_defer (cs:=cs) (w:=w2) ha hro1 hat UO XY hcal hdv;rw[Jr hat]at st3;have hdst:=Y5 e7;have hT3:TR μ2 (V0 s.T s.o.dst undef) (putA A1 undef s.o.dst):=hT2.putA hdst VR.undef
              -- the frame behind the region
              have st4:step P (lone {Xe UK (putA A1 undef s.o.dst) ops (Ly (pre.length+1) 0) L' with defers:={target:=.fn (.func g) ys',args:=xs'}::UK.defers} cs w2)=
               .next (lone {UK with tmps:=putA A1 undef s.o.dst,todo:=L',defers:={target:=.fn (.func g) ys',args:=xs'}::UK.defers} cs w2):=
               Vj (fr:={UK with defers:={target:=.fn (.func g) ys',args:=xs'}::UK.defers}) (A:=putA A1 undef s.o.dst) (ops:=ops) (k:=L') ha
              have hfr2:FrR ⟨[{target:=.fn (.func g) ys',args:=xs'}],.normal⟩ μ2 {m1.c with tmps:=V0 s.T s.o.dst undef,todo:=todo} {UK with tmps:=putA A1 undef s.o.dst,todo:=L',defers:={target:=.fn (.func g) ys',args:=xs'}::UK.defers}:=
               ⟨Kd.fn,hT3,fun _=>hL'.mono x2,by rw[show({m1.c with tmps:=V0 s.T s.o.dst undef,todo:=todo}:CF).defers=[]from hds1];exact .of_empty (by simp[hd1]),Kd.mode.mono x2,Kd.kind,Kd.round.mono x2⟩
              obtain⟨fr3,w3,μ3,s3,hfr3,hro3,hfn3,st5,x3⟩:=s2.goj hS g3 (by omega) (fun i hi Xi=>hR' i Xi (.inl (Lg _ (Lt _ hi)))) hfr2 cs;have hd3:fr3.defers=[{target:=.fn (.func g) ys',args:=xs'}]:=by
               have:=hfr3.defers;rw[hds2]at this;exact this.empty
              have hun:tU μ3 pv {fr3 with defers:=[]}/\fr3.mode≠.run:=by
               have hm:=hfr3.mode;generalize fr3.mode=q at hm ⊢;cases hcm:m2.c.mode with
               |run=>rw[hcm]at hpv;cases hpv
               |ret=>
                rw[hcm]at hpv hm;cases hm;simp only[HJ,YO]at hpv;exact⟨.inl ⟨hpv.symm,rfl⟩,fun e=>by cases e⟩
               |ZB v0=>
                rw[hcm]at hpv hm;cases hm with
                |ZB Vp=>
                 simp only[HJ,YO]at hpv;subst hpv;exact⟨.inr ⟨_,Vp,rfl⟩,fun e=>by cases e⟩
              have st6:step P (lone fr3 cs w3)=.next (lone (Frame.enter P g (xs'++ys') .deferred) ({fr3 with defers:=[]}::cs) w3):=
               Pf hun.2 hd3 rfl (TB (hF g hca.2) _ w3)
              have hvargs:VRs μ3 (xs++ys) (xs'++ys'):=by
               have k1:VRs μ3 xs xs':=(VRs.mono x3 ⟨q1,q3⟩)
               have k2:VRs μ3 ys ys':=(VRs.mono x3 ⟨q2,q4⟩)
               exact k1.append k2
              obtain⟨w4,μ4,s4,x4,st7⟩:=hsem S n m3.n _ μ μ3 H w w3 s3 hS (Lw _) (fun i hi Xi=>hR' i Xi (.inl (Lt _ hi))) _ {fr3 with defers:=[]} cs hvargs hun.1
              obtain⟨fn,v',hfn,hresr,Vp⟩:=kU hu3 s4.post.ok (hfr3.tmps.mono x4) hres (fun i hi Xi=>by
               rcases LF i n with h1|h1
               ·exact .inl (hR' i h1 (.inr hi))
               ·exact .inr ⟨h1,Xi⟩)
              have hfnE:fr3.fn=f:=by
               have:(Frame.enter P f args' .normal).fn=f:=rfl;rw[hfn3];show UK.fn=f;rw[hfn1,this]
              have PF:({fr3 with defers:=[],mode:=.returning}:Frame).leaving P w4 (.returned v'):=⟨rfl,rfl,hfr3.kind,fn,by rw[<-hfn,hfr3.fn],hresr⟩
              have XZ:Steps P (lone (Frame.enter P f args' .normal) cs w) (lone {fr3 with defers:=[],mode:=.returning} cs w4):=
               st1.trans (.head J4 (st2.trans (.head st3 (.head st4 (st5.trans (.head st6 st7))))))
              refine⟨.ret v',w4,μ4,s4.post.lists (fun i hi=>by rw[hWiff i hi];simp[List.append_assoc]),.ret Vp,fun _=>⟨_,XZ,hfnE,PF⟩,fun c1 cs' e=> ?_⟩;subst e;exact XZ.trans (.one (step_leave_returned PF))
            ·cases h
           ·cases h
          ·cases h
         ·cases h
       ·cases h
      ·cases h
     ·cases h
    ·cases h
   ·cases h
  ·cases h
 ·cases h
end
def Memo.drun(P:Program)(F:FuncId->Bool)(Xm:Vh)(fuel:Nat)(m:Memo):Option Rs:=IZ P F Xm fuel m.g m.args m.H0 m.n
theorem QW{P:Program}{F:FuncId->Bool}{Xm:Vh}{B:Lo}(hF:∀g,F g=true->Q0 P g=true)(XP:P.follows .mixedOrders=true)(We:W4 P B Xm){fuel:Nat}{m:Memo}{l:List Memo}(hm:QK m (m.drun P F Xm fuel)=true)(hl:W4 P B (XN l)):W4 P B (XN (m::l)):=by
 intro g args H n s hu h;simp only[XN]at h;cases hq:(Lf m.n n && Lf m.g g && IQ (Eg 1) args.toList m.args.toList && hasAll H m.H0)with
 |false=>
  rw[hq]at h;exact hl g args H n s hu h
 |true=>
  rw[hq]at h;simp only[cond_true,YO]at h;simp only[YB]at hq;obtain⟨⟨⟨q1,q2⟩,q3⟩,q4⟩:=hq;obtain rfl:=YE q1;obtain rfl:=YE q2;obtain rfl:=Array.ext' (KI (UL 1) _ _ q3);have hH:=JG q4;subst h;obtain⟨Hs,R,Ub,hnews,hw,hw0,hR0⟩:=jf hm;have hu0:Under m.H0 m.n:=fun i hi=>Vf hw0 (.inr hi)
  have hsem:=y5 (B:=B) hF XP We hu0 Ub;have hle:m.n<=m.n':=hsem.1.le;have PH:∀i,i<m.n\/m.n'<=i->Qq (m.news++H) i=Qq H i:=fun i hi=>by
   rw[ZF,Vf hw hi]
  have UQ:∀i o,m.n<=i->Qq (m.news++H) i=some o->Qq Hs i=some o:=by
   intro i o h1 h2;rw[ZF]at h2;cases hg:Qq m.news i with
   |some x=>
    rw[hg]at h2;rw[hnews i x hg];exact h2
   |none=>
    rw[hg,hu i h1]at h2;cases h2
  refine⟨⟨hle,fun i hi _=>PH i (.inl hi),fun i hi=>PH i (.inr hi),fun _ h=>by simp at h,fun _ h=>by simp at h⟩,fun S μ w args' cs Q7 hB hS hf hv hR=> ?_⟩;simp only at hf hR ⊢;have hok0:Ok B (fun i=>S i/\∃o,Qq m.H0 i=some o) μ (Qq m.H0) w:=by
   refine⟨fun i o hi ho hl=>Q7.rel i o hi.1 (hH i o ho) hl,fun i o im hi ho hl=>Q7.low i o im hi.1 (hH i o ho) hl,fun i j oi oj a b hi hj Rm ZZ ZY=>Q7.inj i j oi oj a b hi.1 hj.1 Rm (hH i oi ZZ) (hH j oj ZY),
    fun i o hi ho=>Q7.Jv i o hi.1 (hH i o ho),fun i j oi oj a b x hi hj ZZ ZY=>Q7.sep i j oi oj a b x hi.1 hj.1 (hH i oi ZZ) (hH j oj ZY)⟩
  obtain⟨XW,w',μ',hp,ho,he⟩:=hsem.2 _ μ w args' cs hok0 hB (fun i hi=>hS i hi.1) hf hv (fun i hi hl=>by
   obtain⟨o,ho⟩:=hR0 i hi hl;exact⟨hR i (fX ho) hl,o,ho⟩)
  simp only at hp ho;have hold:∀i im,S i->μ i=some im->μ' i=some im:=fun i im hi h=>by
   have:=hS i hi;rw[hp.ext i (by omega)];exact h
  have hext:Ext μ μ':=hp.mu hf;have X8:∀i im o,m.n<=i->i<m.n'->Qq (m.news++H) i=some o->live o->μ' i=some im->im.rw=true/\w.heap.size<=im.Zq:=by
   intro i im o h1 h2 h3 h4 h5;obtain⟨x,y⟩:=hp.fresh i im o h1 h2 (UQ i o h1 h3) h4 h5;exact⟨x,y.elim id fun⟨k,hk,_⟩=>by simp at hk⟩
  have hOld:∀i o,S i->Qq (m.news++H) i=some o->live o->∃im,μ i=some im/\μ' i=some im/\Qq H i=some o/\im.Zq<w.heap.size:=by
   intro i o hi ho hl;have:=hS i hi;rw[PH i (.inl this)]at ho;obtain⟨im,QD,_⟩:=Q7.rel i o hi ho hl;exact⟨im,QD,hold i im hi QD,ho,(Q7.low i o im hi ho hl QD).1⟩
  refine⟨XW,w',μ',⟨⟨fun i o hi ho hl=> ?_,fun i o im hi ho hl QD=> ?_,fun i j oi oj a b hi hj Rm ZZ ZY T5 Uj ha hb hra WG=> ?_,fun i o hi ho hr=> ?_,fun i j oi oj a b x hi hj ZZ ZY J3 Uj ha hb WG hx=> ?_⟩,hle,hp.ext,fun i hi _=>PH i (.inl hi),hp.grow,fun b hb _=>hp.frame b hb fun i hi=>by simp at hi,fun i hi=>by simp at hi,
   fun i im o h1 h2 h3 h4 h5=>⟨(X8 i im o h1 h2 h3 h4 h5).1,.inl (X8 i im o h1 h2 h3 h4 h5).2⟩,fun i im o hi ho hr hm b x hx=> ?_,hp.os,hp.tape,hp.output⟩,ho,he⟩
  ·rcases hi with hi|hi
   ·obtain⟨im,QD,QO,Ko,Xi⟩:=hOld i o hi ho hl;obtain⟨im2,Wz,hr2⟩:=Q7.rel i o hi Ko hl;rw[QD]at Wz;cases Wz;exact⟨im,QO,hr2.keep hext (hp.frame _ Xi fun i hi=>by simp at hi)⟩
   ·exact hp.ok.rel i o (.inr hi) (UQ i o hi.1 ho) hl
  ·rcases hi with hi|hi
   ·obtain⟨im2,Wz,QO,Ko,Xi⟩:=hOld i o hi ho hl;rw[QD]at QO;cases QO;exact⟨Nat.lt_of_lt_of_le Xi hp.grow,(Q7.low i o im hi Ko hl Wz).2⟩
   ·exact hp.ok.low i o im (.inr hi) (UQ i o hi.1 ho) hl QD
  ·rcases hi with hi|hi <;> rcases hj with hj|hj
   ·obtain⟨im,h1,h2,h3,_⟩:=hOld i oi hi ZZ T5;obtain⟨jm,k1,k2,k3,_⟩:=hOld j oj hj ZY Uj;rw[ha]at h2;cases h2;rw[hb]at k2;cases k2;exact Q7.inj i j oi oj a b hi hj Rm h3 k3 T5 Uj h1 k1 hra WG
   ·obtain⟨im,h1,h2,h3,h4⟩:=hOld i oi hi ZZ T5;rw[ha]at h2;cases h2;have:=(X8 j b oj hj.1 hj.2 ZY Uj hb).2;omega
   ·obtain⟨im,h1,h2,h3,h4⟩:=hOld j oj hj ZY Uj;rw[hb]at h2;cases h2;have:=(X8 i a oi hi.1 hi.2 ZZ T5 ha).2;omega
   ·exact hp.ok.inj i j oi oj a b (.inr hi) (.inr hj) Rm (UQ i oi hi.1 ZZ) (UQ j oj hj.1 ZY) T5 Uj ha hb hra WG
  ·rcases hi with hi|hi
   ·have:=hS i hi;rw[PH i (.inl this)]at ho;obtain⟨im,QD,hf⟩:=Q7.Jv i o hi ho hr;exact⟨im,hold i im hi QD,fun b x hx=>by rw[hp.frame b (Jx Q7 hi ho hr QD hx) fun i hi=>by simp at hi];exact hf b x hx⟩
   ·exact hp.ok.Jv i o (.inr hi) (UQ i o hi.1 ho) hr
  ·have oldR:∀i oi a,S i->Qq (m.news++H) i=some oi->μ' i=some a->Wm oi->Qq H i=some oi/\μ i=some a:=by
    intro i oi a hi ZZ ha hr;have:=hS i hi;rw[PH i (.inl this)]at ZZ;rw[hp.ext i (by omega)]at ha;exact⟨ZZ,ha⟩
   rcases hi with hi|hi <;> rcases hj with hj|hj
   ·obtain⟨h1,h2⟩:=oldR i oi a hi ZZ ha J3;obtain⟨jm,k1,k2,k3,_⟩:=hOld j oj hj ZY Uj;rw[hb]at k2;cases k2;exact Q7.sep i j oi oj a b x hi hj h1 k3 J3 Uj h2 k1 WG hx
   ·obtain⟨h1,h2⟩:=oldR i oi a hi ZZ ha J3;have:=(X8 j b oj hj.1 hj.2 ZY Uj hb).2;have:=Jx Q7 hi h1 J3 h2 hx;omega
   ·obtain⟨jm,k1,k2,k3,k4⟩:=hOld j oj hj ZY Uj;rw[hb]at k2;cases k2;rcases hp.rf i a oi (.inl hi) (UQ i oi hi.1 ZZ) J3 ha b.Zq x hx with e|⟨k,Ui,ko,hSk,_,hko,hkr,T6,hkb⟩|⟨k,hk,_⟩
    ·omega
    ·exact Q7.sep k j ko oj Ui b x hSk.1 hj (hH k ko hko) k3 hkr Uj T6 k1 WG hkb
    ·simp at hk
   ·exact hp.ok.sep i j oi oj a b x (.inr hi) (.inr hj) (UQ i oi hi.1 ZZ) (UQ j oj hj.1 ZY) J3 Uj ha hb WG hx
  ·have J4:m.n<=i/\i<m.n':=hi.elim id fun h=>by simp at h
   rcases hp.rf i im o (.inl J4) (UQ i o J4.1 ho) hr hm b x hx with e|⟨k,Ui,ko,hSk,hkn,hko,c⟩|⟨k,hk,_⟩
   ·exact .inl e
   ·exact .inr (.inl ⟨k,Ui,ko,hSk.1,hkn,hH k ko hko,c⟩)
   ·simp at hk
end
end Go.CE

namespace Go.CE
open Go Go.RowKit

section
variable {μ μ1:Mu} {ρ:Nat->Nat} {m:Nat}
end

def Xh(v:Value):Prop:=∀μ μ1 v',VR μ v v'->VR μ1 v v'
theorem PD{v:Value}(h:af v=true):Xh v:=fun _ _ _ hv=>by rw[SM h hv];exact Pc h
theorem Ah:Xh (.chan none):=fun _ _ _ h=>by
 cases h with
 |Yi a b c=>exact .Yi a b c
theorem DY{xs:Array Value}(h:∀x∈xs,Xh x):Xh (.agg xs):=fun μ μ1 v' hv=>by
 cases hv with
 |agg h1 h2=>exact .agg h1 fun i v v' a b=>h v (LJ a) μ μ1 v' (h2 i v v' a b)
theorem xQ{xs:Array Value}(h:∀x∈xs,Xh x):Xh (.tuple xs):=fun μ μ1 v' hv=>by
 cases hv with
 |tuple h1 h2=>exact .tuple h1 fun i v v' a b=>h v (LJ a) μ μ1 v' (h2 i v v' a b)
theorem Ai{g:FuncId}{xs ys:Array Value}(h:∀x∈xs,Xh x)(k:∀x∈ys,Xh x):Xh (.func (.func g) xs ys):=fun μ μ1 v' hv=>by
 cases hv with
 |func h1 h2 h3 h4=>exact .func h1 h2 (fun i v v' a b=>h v (LJ a) μ μ1 v' (h3 i v v' a b)) (fun i v v' a b=>k v (LJ a) μ μ1 v' (h4 i v v' a b))
theorem xR{t:TypeId}{v:Value}(h:Xh v):Xh (.iface t v):=fun μ μ1 v' hv=>by
 cases hv with
 |iface hv=>exact .iface (h μ μ1 _ hv)
theorem tR{xs:Array Value}(h:∀x∈xs,∃d,Xh d/\∀μ v',VR μ x v'->VR μ d v'):∃ds:Array Value,ds.size=xs.size/\(∀d∈ds,Xh d)/\∀μ (xs':Array Value),(∀(i:Nat) v v',xs[i]? =some v->xs'[i]? =some v'->VR μ v v')->∀(i:Nat) v v',ds[i]? =some v->xs'[i]? =some v'->VR μ v v':=by
 have h':∀i:Fin xs.size,∃d,Xh d/\∀μ v',VR μ xs[i] v'->VR μ d v':=fun i=>h xs[i] (Array.getElem_mem i.2)
 refine⟨Array.ofFn fun i=>Classical.choose (h' i),by simp,fun d hd=> ?_,fun μ xs' hx i v v' hv ZW=> ?_⟩
 ·obtain⟨i,hi⟩:=Array.mem_ofFn.1 hd;rw[<-hi];exact(Classical.choose_spec (h' i)).1
 ·rw[Array.getElem?_ofFn]at hv;split at hv
  ·rename_i hi;simp only[YO]at hv;subst hv;exact(Classical.choose_spec (h' ⟨i,hi⟩)).2 μ v' (hx i _ v' (by simp[hi]) ZW)
  ·cases hv
theorem KH(v:Value):∃d,Xh d/\∀μ v',VR μ v v'->VR μ d v':=by
 have Yi:∀{v:Value},(∀μ v',VR μ v v'->(∀b,v'≠.bool b)/\v'.cells=#[v']/\v'.oneCell'=true)->∃d,Xh d/\∀μ v',VR μ v v'->VR μ d v':=
  fun h=>⟨.chan none,Ah,fun μ v' hv=>.Yi (h μ v' hv).1 (h μ v' hv).2.1 (h μ v' hv).2.2⟩
 match v with
 | .agg xs=>
   obtain⟨ds,e,hl,hd⟩:=tR (xs:=xs) fun x _=>KH x
   refine⟨.agg ds,DY hl,fun μ v' hv=> ?_⟩;cases hv with
   |agg h1 h2=>exact .agg (e.trans h1) (hd μ _ h2)
 | .tuple xs=>
   obtain⟨ds,e,hl,hd⟩:=tR (xs:=xs) fun x _=>KH x
   refine⟨.tuple ds,xQ hl,fun μ v' hv=> ?_⟩;cases hv with
   |tuple h1 h2=>exact .tuple (e.trans h1) (hd μ _ h2)
 | .func (.func g) xs ys=>
   obtain⟨ds,e,hl,hd⟩:=tR (xs:=xs) fun x _=>KH x
   obtain⟨es,e',hl',hd'⟩:=tR (xs:=ys) fun x _=>KH x
   refine⟨.func (.func g) ds es,Ai hl hl',fun μ v' hv=> ?_⟩;cases hv with
   |func h1 h2 h3 h4=>exact .func (e.trans h1) (e'.trans h2) (hd μ _ h3) (hd' μ _ h4)
 | .iface t x=>
   obtain⟨d,hl,hd⟩:=KH x;refine⟨.iface t d,xR hl,fun μ v' hv=> ?_⟩;cases hv with
   |iface hv=>exact .iface (hd μ _ hv)
 | .bool b=>exact⟨_,PD rfl,fun _ _ h=>h⟩
 | .int k n=>exact⟨_,PD rfl,fun _ _ h=>h⟩
 | .string s=>exact⟨_,PD rfl,fun _ _ h=>h⟩
 | .nilFunc=>exact⟨_,PD rfl,fun _ _ h=>h⟩
 | .nilIface=>exact⟨_,PD rfl,fun _ _ h=>h⟩
 | .chan r=>exact Yi fun μ v' h=>by cases h with
   |Yi a b c=>exact⟨a,b,c⟩
   |noCap=>exact⟨(fun b e=>by cases e),rfl,rfl⟩
 | .pointer a=>exact Yi fun μ v' h=>by cases h <;> exact⟨(fun b e=>by cases e),rfl,rfl⟩
 | .slice a n c=>exact Yi fun μ v' h=>by cases h <;> exact⟨(fun b e=>by cases e),rfl,rfl⟩
 | .map r=>exact Yi fun μ v' h=>by cases h <;> exact⟨(fun b e=>by cases e),rfl,rfl⟩
 | .func (.yield l) xs ys=>exact Yi fun μ v' h=>by cases h <;> exact⟨(fun b e=>by cases e),rfl,rfl⟩
 | .func (.method s) xs ys=>exact Yi fun μ v' h=>by cases h
 | .func (.methodOf t s) xs ys=>exact Yi fun μ v' h=>by cases h
 | .func (.via t p f q) xs ys=>exact Yi fun μ v' h=>by cases h with|top a b c=>exact⟨c.nobool a,c.one a⟩
 | .float k b=>exact Yi fun μ v' h=>by cases h
 | .complex k a b=>exact Yi fun μ v' h=>by cases h
termination_by SizeOf.sizeOf v
decreasing_by
 all_goals simp_wf
 all_goals first
  |(have:=Array.sizeOf_lt_of_mem ‹_∈_›;omega)
  |omega
end Go.CE
namespace Go.CE
open Go Go.RowKit
end Go.CE

namespace Go.CE
open Go Go.RowKit

structure GoE (P:Program) (B:Lo) (c0:CF) (H0:Qm) (n:Nat) (c':CF) (H':Qm) (n':Nat) (W:List Nat):Prop where
 under:Under H' n'
 le:n<=n'
 sem:∀(Z:Bot) (μ:Mu) (w:World) (fr:Frame) (cs:List Frame),Ok B (fun i=>i<n) μ (Qq H0) w->B.has w->(∀i,n<=i->μ i=none)->FrR Z μ c0 fr->
  ∃fr' w' μ',Post B (fun i=>i<n) n n' W μ μ' H0 H' w w'/\FrR Z μ' c' fr'/\fr'.roundOf=fr.roundOf/\fr'.fn=fr.fn/\Steps P (lone fr cs w) (lone fr' cs w')
section
variable {P:Program} {B:Lo} {c0 c1 c2:CF} {H0 H1 H2:Qm} {n n1 n2:Nat} {W W1 W2 R2:List Nat}
theorem GoE.refl(hu:Under H0 n):GoE P B c0 H0 n c0 H0 n []:=
 ⟨hu,Lw _,fun _ μ w fr _ Q7 _ _ X8=>⟨fr,w,μ,Post.refl Q7,X8,rfl,rfl,Steps.refl _ _⟩⟩
theorem GoE.lists(h:GoE P B c0 H0 n c1 H1 n1 W)(hW:∀i,i<n->(i∈W1<->i∈W)):GoE P B c0 H0 n c1 H1 n1 W1:=
 ⟨h.under,h.le,fun Z μ w fr cs Q7 hB hf X8=>let⟨fr',w',μ',hp,a⟩:=h.sem Z μ w fr cs Q7 hB hf X8;⟨fr',w',μ',hp.lists hW,a⟩⟩
theorem GoE.step(h:GoE P B c0 H0 n c1 H1 n1 W1)(k:GoJ P B c1 H1 n1 c2 H2 n2 R2 W2):GoE P B c0 H0 n c2 H2 n2 (W1++W2):=by
 refine⟨h.under.shape k.shape,Nat.le_trans h.le k.shape.le,fun Z μ w fr cs Q7 hB hf X8=> ?_⟩;have le1:=h.le;obtain⟨UK,w1,μ1,hp,Kd,hr,hfn,XZ⟩:=h.sem Z μ w fr cs Q7 hB hf X8;obtain⟨fr2,w2,μ2,YF,hfr2,hr2,hfn2,hst2⟩:=k.sem _ μ1 w1 UK cs Z hp.ok (hB.post Q7 hp) (fun i hi=>hi.elim (fun e=>by omega) (fun e=>e.2)) (fun q a b=>by rw[hp.ext q (by omega)];exact hf q (by omega)) Kd
  (fun q _ Xi=>by
   rcases LF q n with h1|h1
   ·exact .inl h1
   ·exact .inr ⟨h1,Xi⟩)
 exact⟨fr2,w2,μ2,hp.trans YF,hfr2,hr2.trans hr,hfn2.trans hfn,XZ.trans hst2⟩
theorem GoE.fj{out:OO}(h:GoE P B c0 H0 n c1 H1 n1 W1)(k:FJ P B c1 H1 n1 out H2 n2 R2 W2)(μ:Mu)(w:World)(fr:Frame)(cs:List Frame)(Q7:Ok B (fun i=>i<n) μ (Qq H0) w)(hB:B.has w)(hf:∀i,n<=i->μ i=none)(X8:FrR Bot.no μ c0 fr):
 ∃XW w' μ',Post B (fun i=>i<n) n n2 (W1++W2) μ μ' H0 H2 w w'/\OR2 μ' out XW/\EndsAs P fr cs w XW w':=by
 have le1:=h.le;obtain⟨UK,w1,μ1,hp,Kd,hr,hfn,XZ⟩:=h.sem Bot.no μ w fr cs Q7 hB hf X8;obtain⟨XW,w2,μ2,YF,ho,he⟩:=k.sem _ μ1 w1 UK cs hp.ok (hB.post Q7 hp) (fun i hi=>hi.elim (fun e=>by omega) (fun e=>e.2)) (fun q a b=>by rw[hp.ext q (by omega)];exact hf q (by omega)) Kd
  (fun q _ Xi=>by
   rcases LF q n with h1|h1
   ·exact .inl h1
   ·exact .inr ⟨h1,Xi⟩)
 exact⟨XW,w2,μ2,hp.trans YF,ho,he.of_steps XZ hr hfn⟩
end

def look:List (Nat×Value)->Nat->Value->Value
 |[],_,d=>d
 |(a,v)::l,t,d=>bif Lf a t then v else look l t d
theorem Aj(l:List (Nat×Value))(t:Nat)(d:Value):look l t d=d\/∃v,(t,v)∈l/\look l t d=v:=by
 induction l with
 |nil=>exact .inl rfl
 |cons p l ih=>
  obtain⟨a,v⟩:=p;cases hb:Lf a t with
  |true=>
   have:=YE hb;subst this;exact .inr ⟨v,by simp,by simp[look]⟩
  |false=>
   simp only[look,hb,cond_false];exact ih.imp id fun⟨v,h1,h2⟩=>⟨v,Lj _ h1,h2⟩
def mkL(live:List (Nat×Value))(d:Nat->Value):Nat->Nat->List Value
 |0,_=>[]
 |k+1,t=>look live t (d t)::mkL live d k (t+1)
theorem cV(live:List (Nat×Value))(d:Nat->Value):∀(k t:Nat),(mkL live d k t).length=k
 |0,_=>rfl
 |k+1,t=>by simp[mkL,cV live d k]
theorem Bo(live:List (Nat×Value))(d:Nat->Value):∀(k t i:Nat),i<k->(mkL live d k t).getD i undef=look live (t+i) (d (t+i))
 |0,_,i,h=>by omega
 |k+1,t,0,_=>rfl
 |k+1,t,i+1,h=>by
  have:=Bo live d k (t+1) i (by omega);rw[show t+(i+1)=t+1+i by omega,<-this];rfl
def Ms(len:Nat)(live:List (Nat×Value))(d:Nat->Value):Tm:=ofList len (mkL live d len 0)
theorem NQ{len:Nat}{live:List (Nat×Value)}{d:Nat->Value}(hl:len<=16000)(t:Nat):Xx (Ms len live d) t=if t<len then look live t (d t)else undef:=by
 have h:=cb (mkL live d len 0) 0 .lf t (by rw[cV];omega);have e:Xx (Ms len live d) t=(ofL (mkL live d len 0) 0 .lf).get t:=rfl;rw[e,h];simp only[Nat.zero_le,true_and,Lv,cV,Nat.sub_zero,Tri.get_lf];split
 ·rename_i ht;rw[Bo live d len 0 t ht,Lv]
 ·rfl
def WJ:Item->Bool
 | .endRangeFunc _=>false
 | .inRangeFunc _=>false
 |_=>true
theorem TodoR.plain{μ μ1:Mu}{l L:List Item}(h:TodoR μ l L)(hp:l.all WJ=true):TodoR μ1 l L:=by
 induction h with
 |nil=>exact .nil
 |cons hi _ ih=>
  simp only[List.all_cons,YB]at hp;refine .cons ?_ (ih hp.2);cases hi with
  |code c=>exact .code c
  |inBlock id=>exact .inBlock id
  |inLoop c=>exact .inLoop c
  |inScope c=>exact .inScope c
  |beginRound=>exact .beginRound
  |endRF h=>cases hp.1
def QC(f:FuncId)(len:Nat)(live:List (Nat×Value))(d:Nat->Value)(todo:List Item):CF:=⟨f,Ms len live d,todo,[],.run,none⟩
end Go.CE

namespace Go.CE
open Go Go.RowKit

inductive Hint where
 |val (v:Value)
 |idx (k:Nat)
 |ld (v:Value)
 |raw (v:Value)
 |len (n:Nat)
 |eq (b:Bool)
 |app (cs:Array Value)
 |mk (m:Nat) (cs:Array Value)
 |st (cs:Array Value)
 |call (keys:List Nat) (out:Value) (UN:Qm) (n':Nat) (W:List Nat)
 |look (v:Value)
 |upd (es:Array MapEntry) (PT:Nat)
 |nil
def veq:Value->Value->Prop
 | .int k a,.int k' b=>bif decide (k=k')then a=b else False
 | .bool a,.bool b=>a=b
 |u,v=>u=v
theorem Qak{u v:Value}(h:veq u v):u=v:=by
 unfold veq at h;split at h
 ·rename_i k a k' b;by_cases e:k=k'
  ·simp only[e,decide_true,cond_true]at h;rw[e,h]
  ·simp[e]at h
 ·rw[h]
 ·exact h
def K8:Option Nat->Bool
 |none=>true
 |some 0=>true
 |_=>false
def Mq(v:Value)(m:Nat):Prop:=∀μ v',VR μ v v'->∃a c,v'=.slice a m c
theorem oS{P:Program}{t:TypeId}{cs:Array Value}{off:Nat}{v:Value}(h:Yl P t cs off=some v)(w:World):(part t cs off).run P w=.ok v w:=by
 unfold Yl at h;cases ha:pd P t with
 |none=>rw[ha]at h;cases h
 |some b=>
  rw[ha]at h;cases b with
  |true=>
   cases hs:W5 P t with
   |none=>rw[hs]at h;cases h
   |some s=>
    rw[hs]at h;dsimp only at h;cases hb:LI (off+s) cs.size with
    |false=>rw[hb]at h;cases h
    |true=>
     rw[hb]at h;simp only[cond_true,YO]at h;subst h;simp only[part,Sem.run_bind,Ki ha,Result.andThen_ok,if_true,Zj hs,Sem.run_pure]
  |false=>
   simp only at h;simp only[part,Sem.run_bind,Ki ha,Result.andThen_ok,h];rfl
def VW(v:Value):Bool:=af v
def Eh(P:Program)(rec:TypeId->Value->Value->Option Bool):List Field->Array Value->Array Value->Option Bool
 |[],_,_=>some true
 |f::fs,xs,ys=>bif decide (f.name= "_")then Eh P rec fs xs ys else
  match Yl P f.type xs f.offset,Yl P f.type ys f.offset with
  |some a,some b=>match rec f.type a b,Eh P rec fs xs ys with
   |some r,some q=>some (r && q)
   |_,_=>none
  |_,_=>none
def eqT(P:Program):Nat->TypeId->Value->Value->Option Bool
 |0,_,_,_=>none
 |d+1,t,x,y=>match JN P t,x,y with
  |some (.int _),.int k a,.int k' b=>bif decide (k=k')then some (TO a b)else none
  |some .bool,.bool a,.bool b=>some (bif a then b else !b)
  |some (.struct fs),.agg xs,.agg ys=>bif P.stoodInHeld t then none else Eh P (eqT P d) fs.toList xs ys
  |_,_,_=>none
theorem oK{P:Program}{rec:TypeId->Value->Value->Option Bool}(d:Nat)(Vq:∀t x y r,rec t x y=some r->∀(D:Nat) (w:World),d<=D->(Op.equalIn D t x y).run P w=.ok r w):∀(fs:List Field) (xs ys:Array Value) (r:Bool),Eh P rec fs xs ys=some r->∀(D:Nat) (w:World),d<=D->(Op.eqFields D xs ys fs).run P w=.ok r w
 |[],xs,ys,r,h,D,w,hD=>by
  simp only[Eh,YO]at h;subst h;simp[Op.eqFields]
 |f::fs,xs,ys,r,h,D,w,hD=>by
  unfold Eh at h;by_cases e:f.name= "_"
  ·simp only[e,decide_true,cond_true]at h;simp only[Op.eqFields,e,ne_eq,not_true_eq_false,if_false];exact oK d Vq fs xs ys r h D w hD
  ·simp only[e,decide_false,cond_false]at h;split at h
   ·rename_i a b ha hb;split at h
    ·rename_i r1 q h1 h2;simp only[YO]at h;subst h;have pa:(part f.type xs f.offset).run P w=.ok a w:=oS ha w;have pb:(part f.type ys f.offset).run P w=.ok b w:=oS hb w;simp only[Op.eqFields,e,ne_eq,not_false_eq_true,if_true,Sem.run_bind,pa,Result.andThen_ok,pb,Vq f.type a b r1 h1 D w hD];cases r1 with
     |true=>simpa using oK d Vq fs xs ys q h2 D w hD
     |false=>simp
    ·cases h
   ·cases h
theorem tw{P:Program}:∀(d:Nat) (t:TypeId) (x y:Value) (r:Bool),eqT P d t x y=some r->∀(D:Nat) (w:World),d<=D->(Op.equalIn D t x y).run P w=.ok r w
 |0,t,x,y,r,h,D,w,hD=>by simp[eqT]at h
 |d+1,t,x,y,r,h,D,w,hD=>by
  obtain⟨D,rfl⟩:∃e,D=e+1:=⟨D-1,by omega⟩
  unfold eqT at h;simp only[Zw]at h;split at h
  ·rename_i k0 k a k' b hu;by_cases e:k=k'
   ·subst e;simp only[decide_true,cond_true,YO]at h;rw[run_equalIn_int w D t k k0 a b hu,<-h,ig]
   ·simp[e]at h
  ·rename_i a b hu;simp only[YO]at h;rw[run_equalIn_bool' w D t a b hu,<-h];cases a <;> cases b <;> rfl
  ·rename_i fs xs ys hu;cases hs:P.stoodInHeld t with
   |true=>rw[hs]at h;cases h
   |false=>
    rw[hs]at h;simp only[cond_false]at h;have hf:P.fieldsOf t=fs:=by simp[Program.fieldsOf,hu]
    rw[run_equalIn_struct w D t xs ys (by rw[hf];exact hu) hs,hf];exact oK d (tw d) fs.toList xs ys r h D w (by omega)
  ·cases h
def BA(B:Lo)(b off:Nat)(v:Value):Prop:=∀w,B.has w->∃v',w.cell? ⟨b,off,none⟩=some v'/\∀μ,VR μ v v'
def pk(P:Program)(B:Lo)(g:FuncId)(args:Array Value)(H:Qm)(n:Nat)(out:OO)(H':Qm)(n':Nat)(R W:List Nat):Prop:=
 Shape H n H' n' R W/\∀(S:Nat->Prop) (μ:Mu) (w:World) (args':Array Value) (cs:List Frame),Ok B S μ (Qq H) w->B.has w->(∀i,S i->i<n)->JL μ n n'->VRs μ args args'->(∀i∈R,i<n->S i)->
  ∃XW w' μ',Post B S n n' W μ μ' H H' w w'/\OR2 μ' out XW/\EndsAs P (Frame.enter P g args' .normal) cs w XW w'
def CJ(P:Program)(B:Lo)(g:FuncId)(args:Array Value)(Hs:List (Nat×Option Obj))(n:Nat)(out:Value)(UN:Qm)(n':Nat)(W:List Nat):Prop:=
 ∀H,Under H n->(∀p∈Hs,Qq H p.1=p.2)->pk P B g args H n (.ret out) (UN++H) n' (Hs.map (·.1)) W
def RJ(P:Program)(B:Lo)(c:CF)(Hs:List (Nat×Option Obj))(n:Nat)(out:Value)(UN:Qm)(n':Nat)(W:List Nat):Prop:=
 ∀H,Under H n->(∀p∈Hs,Qq H p.1=p.2)->FJ P B c H n (.ret out) (UN++H) n' (Hs.map (·.1)) W
open Classical in
noncomputable def SX(c:CF)(H1:Qm)(n:Nat)(s:Rs):CF->Qm->Nat->Option Rs:=fun c' H' m'=>if c'=c/\H'=H1/\m'=n then some s else none
theorem RI(c:CF)(H1:Qm)(n:Nat)(s:Rs):SX c H1 n s c H1 n=some s:=by simp[SX]
theorem RJ.recS{P:Program}{B:Lo}{c:CF}{H1:Qm}{n:Nat}{out:Value}{UN:Qm}{n':Nat}{W keys:List Nat}(hu:Under H1 n)(h:RJ P B c (keys.map fun k=>(k,Qq H1 k)) n out UN n' W):iw P B (SX c H1 n ⟨.ret out,UN++H1,n',keys,W⟩):=by
 intro c' H' m' s _ hs;unfold SX at hs;split at hs
 ·rename_i q;obtain⟨rfl,rfl,rfl⟩:=q;simp only[YO]at hs;subst hs;have:=h H' hu (fun p hp=>by
   obtain⟨k,_,rfl⟩:=List.mem_map.1 hp;rfl)
  rw[List.map_map]at this;have e:keys.map ((fun p:Nat×Option Obj=>p.1) ∘ fun k=>(k,Qq H' k))=keys:=List.map_id' _;rw[e]at this;exact this
 ·cases hs
structure Told where
 s:Rs
 p:Option Prop
def Qbi(P:Program)(t:TypeId)(H:Qm)(n:Nat)(s x:Value)(cs':Array Value):Option (CR×Prop):=
 match JN P t with
 |some (.slice e)=>match inf P e with
  |some i=>match i.zero,i.size with
   |some zv,z+1=>match s with
    | .slice (some ⟨b,0,none⟩) k s'=>match Qq H b with
      |some (.cells cs te (0,0))=>match mR H (z+1) x with
       |some (ns,m,bx)=>bif Lf te e && Lf s' (z+1) && ones ns && Lf zv.cells.size (z+1) && Ll 0 m then
        some (⟨.val (.slice (some ⟨n,0,none⟩) (k+m) (z+1)),(n,.cells cs' e (0,0))::TH H (some b),n+1,[bx,b],[b]⟩,cs.size=k*(z+1)/\k+m<=maxLen/\(k+m)*i.bytes<=140737488355328/\cs++ns=cs')
         else none
       |none=>none
      |_=>none
    |_=>none
   |_,_=>none
  |none=>none
 |_=>none

def PO(P:Program)(t:TypeId)(es:Array MapEntry)(ok:Bool)(k v:Value):Prop:=∀H r PT,Qq H r=some (.map es PT)->TC P t H ok (.map (some r)) k=some (v,[r])
def ix(P:Program)(t:TypeId)(es:Array MapEntry)(PT:Nat)(k v:Value)(K0:Array MapEntry)(clk':Nat):Prop:=∀H r,Qq H r=some (.map es PT)->K3 P t H (.map (some r)) k v=some (VE H r (.map K0 clk'),r)
def opH(P:Program)(F:FuncId->Bool)(B:Lo)(T:Tm)(o:Oper)(H:Qm)(n:Nat):Option Hint->Option Told
 |none=>match o.op with
  | .fieldAddr s x f=>match XV T x with
    |some (.pointer (some ⟨b,off,some 0⟩))=>match Wo P s f (.pointer (some ⟨b,off,none⟩))with
     |some (.pointer (some ⟨b',off',none⟩))=>some ⟨⟨.ret (.pointer (some ⟨b',off',some 0⟩)),H,n,[],[]⟩,none⟩
     |_=>none
    |_=>match aN P F Xn (fun _ _ _=>none) T o H n with|some s=>some ⟨s,none⟩|none=>none
  |_=>match aN P F Xn (fun _ _ _=>none) T o H n with|some s=>some ⟨s,none⟩|none=>none
 |some (.val v)=>match aN P F Xn (fun _ _ _=>none) T o H n with
  |some ⟨.ret u,H1,n1,R,W⟩=>some ⟨⟨.ret v,H1,n1,R,W⟩,some (veq u v)⟩
  |_=>none
 |some (.idx k)=>match o.op with
  | .indexAddr t x i=>match XV T x,XV T i with
    |some (.slice (some ⟨b,off,sp⟩) len _),some (.int _ q)=>match JN P t with
     |some (.slice e)=>match W5 P e with
      |some z=>bif K8 sp then some ⟨⟨.ret (.pointer (some ⟨b,off+k*z,sp⟩)),H,n,[],[]⟩,some (q=(k:Int)/\k<len)⟩else none
      |none=>none
     |_=>none
    |some (.pointer (some ⟨b,off,sp⟩)),some (.int _ q)=>match JN P t with
     |some (.array len e)=>match W5 P e with
      |some z=>bif K8 sp then some ⟨⟨.ret (.pointer (some ⟨b,off+k*z,sp⟩)),H,n,[],[]⟩,some (q=(k:Int)/\k<len)⟩else none
      |none=>none
     |_=>none
    |_,_=>none
  |_=>none
 |some (.ld v)=>match o.op with
  | .load t a=>match XV T a with
    |some (.pointer (some ⟨b,off,none⟩))=>match Qq H b with
     |some (.cells cs _ _)=>bif Ll b n then match pd P t with
      |some true=>match W5 P t,v with
       |some z,.agg xs=>some ⟨⟨.ret v,H,n,[b],[]⟩,some (off+z<=cs.size/\cs.extract off (off+z)=xs)⟩
       |_,_=>none
      |some false=>some ⟨⟨.ret v,H,n,[b],[]⟩,some (cs[off]? =some v)⟩
      |none=>none
      else none
     |_=>none
    |_=>none
  |_=>none
 |some (.raw v)=>match o.op with
  | .load t a=>match XV T a with
    |some (.pointer (some ⟨b,off,some 0⟩))=>match pd P t with
     |some true=>match W5 P t,v with
      |some z,.agg xs=>bif Lf xs.size z then some ⟨⟨.ret v,H,n,[],[]⟩,some (∀(j:Nat) u,xs[j]? =some u->BA B b (off+j) u)⟩else none
      |_,_=>none
     |some false=>some ⟨⟨.ret v,H,n,[],[]⟩,some (BA B b off v)⟩
     |none=>none
    |_=>none
  |_=>none
 |some (.eq b)=>match o.op with
  | .binOp op t x y _=>match XV T x,XV T y with
    |some (.agg xs),some (.agg ys)=>bif P.eqGuardType P.depth t then none else match op with
     | .eql=>match eqT P 100 t (.agg xs) (.agg ys)with
       |some r=>bif VW (.agg xs) && VW (.agg ys)then some ⟨⟨.ret (.bool b),H,n,[],[]⟩,some (r=b)⟩else none
       |none=>none
     | .neq=>match eqT P 100 t (.agg xs) (.agg ys)with
       |some r=>bif VW (.agg xs) && VW (.agg ys)then some ⟨⟨.ret (.bool b),H,n,[],[]⟩,some ((!r)=b)⟩else none
       |none=>none
     |_=>none
    |_,_=>none
  |_=>none
 |some (.len m)=>match o.op with
  | .call c=>match c.callee with
    | .builtin .len=>match c.args.toList,c.argTypes.toList with
      |[x],[t]=>match XV T x,JN P t with
       |some v,some (.slice _)=>some ⟨⟨.ret (.int .i64 m),H,n,[],[]⟩,some (Mq v m)⟩
       |_,_=>none
      |_,_=>none
    |_=>none
  |_=>none
 |some (.app cs')=>match o.op with
  | .call c=>match c.callee with
    | .builtin .append=>match c.args.toList,c.argTypes.toList with
      |[s,x],[t,t']=>bif Lf t t' then
       match XV T s,XV T x with
       |some sv,some xv=>match Qbi P t H n sv xv cs' with
        |some (⟨.val v,H1,n1,R,W⟩,p)=>bif R.all (fun i=>Ll i n)then some ⟨⟨.ret v,H1,n1,R,W⟩,some p⟩else none
        |_=>none
       |_,_=>none
        else none
      |_,_=>none
    |_=>none
  |_=>none
 |some (.mk m cs)=>match o.op with
  | .makeSlice t l c=>match XV T l,XV T c with
    |some x,some y=>match JN P t with
     |some (.slice e)=>match W5 P e with
      |some z=>some ⟨⟨.ret (.slice (some ⟨n,0,none⟩) m z),(n,.cells cs e (0,0))::H,n+1,[],[]⟩,some (TK P t x y=some (e,cs,m,z))⟩
      |none=>none
     |_=>none
    |_,_=>none
  |_=>none
 |some (.st cs')=>match o.op with
  | .store t a x=>match XV T a,XV T x with
    |some (.pointer (some ⟨b,off,none⟩)),some v=>match Qq H b with
     |some (.cells cs te (0,0))=>match W5 P t with
      |some z=>bif Ll b n && Lf v.cells.size z && ones v.cells then some ⟨⟨.ret undef,VE H b (.cells cs' te (0,0)),n,[b],[b]⟩,some (off+z<=cs.size/\splice cs off v.cells=cs')⟩else none
      |none=>none
     |_=>none
    |_,_=>none
  |_=>none
 |some (.call keys out UN n' W)=>match o.op with
  | .call _=>match PK P F (XV T) o H n with
    |some ⟨.enter g args,H1,n1,R,W1⟩=>bif Lf n1 n && W1.isEmpty then some ⟨⟨.ret out,UN++H1,n',R++keys,W⟩,some (CJ P B g args (keys.map fun k=>(k,Qq H1 k)) n out UN n' W)⟩else none
    |some ⟨.round l fn tm a b,H1,n1,R,W1⟩=>bif Lf n1 n && W1.isEmpty && LI tm.size 16000 then some ⟨⟨.ret out,UN++H1,n',R++keys,W⟩,some (RJ P B ⟨fn,ofList tm.size tm.toList,[.code a,.beginRound,.code b],[],.run,some l⟩ (keys.map fun k=>(k,Qq H1 k)) n out UN n' W)⟩else none
    |_=>none
  |_=>none
 |some (.look v)=>match o.op with
  | .lookup t x k ok=>match XV T x,XV T k with
    |some (.map (some r)),some kv=>match Qq H r with
     |some (.map es _)=>bif Ll r n then some ⟨⟨.ret v,H,n,[r],[]⟩,some (PO P t es ok kv v)⟩else none
     |_=>none
    |_,_=>none
  |_=>none
 |some (.upd K0 clk')=>match o.op with
  | .mapUpdate t m k x=>match XV T m,XV T k,XV T x with
    |some (.map (some r)),some kv,some v=>match Qq H r with
     |some (.map es PT)=>bif Ll r n then some ⟨⟨.ret undef,VE H r (.map K0 clk'),n,[r],[r]⟩,some (ix P t es PT kv v K0 clk')⟩else none
     |_=>none
    |_,_,_=>none
  |_=>none
 |some .nil=>match o.op with
  | .call c=>match c.callee with
    | .builtin .append=>match c.args.toList,c.argTypes.toList with
      |[s,x],[t,t']=>bif Lf t t' then match XV T s,XV T x with
       |some (.slice none 0 0),some (.slice none 0 0)=>match JN P t with
        |some (.slice e)=>match W5 P e with
         |some _=>some ⟨⟨.ret (.slice none 0 0),H,n,[],[]⟩,none⟩
         |none=>none
        |_=>none
       |_,_=>none
        else none
      |_,_=>none
    |_=>none
  |_=>none
section
variable {P:Program} {F:FuncId->Bool} {B:Lo} {T:Tm} {o:Oper} {H:Qm} {n:Nat}
theorem JO:iw P B (fun _ _ _=>none):=fun _ _ _ _ _ h=>by cases h
theorem Ke{v:Value}{ev:Operand->Option Value}(hd:∀c,o.op≠.defer c)(h:∀(μ:Mu) (w:World) (ρ:Operand->Value),B.has w->(∀x∈o.op.operands,∀v,ev x=some v->VR μ v (ρ x))->∃v',(execOp ρ o).run P w=.ok (.value v') w/\VR μ v v'):
 SN P B o ev H n (.ret v) H n [] []:=fun _ μ w fr _ _ _ _ _ Q7 hB _ _ XK _ hm ht ho hw=>
 let⟨v',h1,h2⟩:=h μ w fr.eval hB XK
 ⟨.ret v',w,μ,Post.refl Q7,.ret h2,P8 hm ht ho hw hd h1⟩
theorem bd{s:TypeId}{f b off:Nat}{b' off':Nat}(h:Wo P s f (.pointer (some ⟨b,off,none⟩))=some (.pointer (some ⟨b',off',none⟩)))(w:World):b'=b/\(Instr.fieldAt s (.pointer (some ⟨b,off,none⟩)) f).run P w=.ok (.pointer (some ⟨b',off',none⟩)) w:=by
 unfold Wo at h;simp only[Zw]at h;split at h
 ·rename_i fields hu;cases hfd:fields[f]? with
  |none=>rw[hfd]at h;cases h
  |some fd=>
   rw[hfd]at h;dsimp only at h;split at h
   ·rename_i z hz;simp only[YO,Value.pointer.injEq,Addr.mk.injEq,and_true]at h;obtain⟨rfl,rfl⟩:=h;refine⟨rfl, ?_⟩;simp only[Instr.fieldAt,Sem.run_bind,run_underlying hu,Result.andThen_ok,hfd,Instr.sureAddr,Sem.run_pure,fieldPlace,Zj hz,WB];simp
   ·cases h
 ·cases h
theorem qZ{t e:TypeId}{b off len c z k:Nat}{q:Int}{kk:IntKind}(hu:JN P t=some (.slice e))(hz:W5 P e=some z)(hq:q=(k:Int))(hk:k<len)(w:World):
 (Instr.indexAt t (.slice (some ⟨b,off,none⟩) len c) (.int kk q)).run P w=.ok (.pointer (some ⟨b,off+k*z,none⟩)) w:=by
 rw[Zw]at hu;subst hq;have hc:0<=(k:Int)/\(k:Int)<len:=by omega
 simp only[Instr.indexAt,Sem.run_bind,asIntOf,Sem.run_pure,Result.andThen_ok,run_underlying hu,hc,and_self,if_true,Zj hz,WB,LR]
theorem fW{t e:TypeId}{b off len z k:Nat}{q:Int}{kk:IntKind}(hu:JN P t=some (.array len e))(hz:W5 P e=some z)(hq:q=(k:Int))(hk:k<len)(w:World):
 (Instr.indexAt t (.pointer (some ⟨b,off,none⟩)) (.int kk q)).run P w=.ok (.pointer (some ⟨b,off+k*z,none⟩)) w:=by
 rw[Zw]at hu;subst hq;have hc:0<=(k:Int)/\(k:Int)<len:=by omega
 simp only[Instr.indexAt,Sem.run_bind,asIntOf,Sem.run_pure,Result.andThen_ok,run_underlying hu,Instr.sureAddr,hc,and_self,if_true,Zj hz,WB,LR]
theorem OB{μ:Mu}{b off k z:Nat}{sp:Option Nat}{v':Value}(hsp:K8 sp=true)(h:VR μ (.pointer (some ⟨b,off,sp⟩)) v'):∃b' off',v'=.pointer (some ⟨b',off',none⟩)/\VR μ (.pointer (some ⟨b,off+k*z,sp⟩)) (.pointer (some ⟨b',off'+k*z,none⟩)):=by
 cases h with
 |ptr har=>
  obtain⟨im,h1,h2,rfl⟩:=har;simp only at h2;subst h2;exact⟨_,_,rfl,.ptr ⟨im,h1,rfl,by simp[Nat.add_assoc]⟩⟩
 |Yt _ _ q=>
  cases q with
  |zero=>exact⟨_,_,rfl,.Yt _ _ 0⟩
  |succ q=>cases hsp
theorem EH{μ:Mu}{b off len s k z:Nat}{sp:Option Nat}{v':Value}(hsp:K8 sp=true)(h:VR μ (.slice (some ⟨b,off,sp⟩) len s) v'):∃b' off' c',v'=.slice (some ⟨b',off',none⟩) len c'/\VR μ (.pointer (some ⟨b,off+k*z,sp⟩)) (.pointer (some ⟨b',off'+k*z,none⟩)):=by
 cases h with
 |slice har=>
  obtain⟨im,h1,h2,rfl⟩:=har;simp only at h2;subst h2;exact⟨_,_,_,rfl,.ptr ⟨im,h1,rfl,by simp[Nat.add_assoc]⟩⟩
 |rawSlice _ _ q=>
  cases q with
  |zero=>exact⟨_,_,_,rfl,.Yt _ _ 0⟩
  |succ q=>cases hsp
theorem o8{μ:Mu}{k:IntKind}{q:Int}{v':Value}(h:VR μ (.int k q) v'):v'=.int k q:=by cases h;rfl
theorem pB{t e ty:TypeId}{z:Nat}(hu:JN P t=some (.slice e))(hz:W5 P e=some z)(w:World):(Builtin.append_ #[t,t] ty #[.slice none 0 0,.slice none 0 0]).run P w=.ok (.slice none 0 0) w:=by
 rw[Zw]at hu;simp[Builtin.append_,Sem.run_bind,run_underlying hu,Result.andThen_ok,Zj hz,Builtin.lenOf,Builtin.firstCells,Sem.run_pure]
theorem qQ(hF:∀g,F g=true->Q0 P g=true)(hu:Under H n){h:Option Hint}{a:Told}(e:opH P F B T o H n h=some a)(hp:∀p,a.p=some p->p):
 SN P B o (XV T) H n a.s.out a.s.H a.s.n a.s.R a.s.W/\Shape H n a.s.H a.s.n a.s.R a.s.W:=by
 have plain:∀{s:Rs},aN P F Xn (fun _ _ _=>none) T o H n=some s->SN P B o (XV T) H n s.out s.H s.n s.R s.W/\Shape H n s.H s.n s.R s.W:=fun h=>Y0 hF JO (QF P B) hu h
 have plain':(match aN P F Xn (fun _ _ _=>none) T o H n with|some s=>some (⟨s,none⟩:Told)|none=>none)=some a->SN P B o (XV T) H n a.s.out a.s.H a.s.n a.s.R a.s.W/\Shape H n a.s.H a.s.n a.s.R a.s.W:=by
  intro h;split at h
  ·rename_i s hs;simp only[YO]at h;subst h;exact plain hs
  ·cases h
 unfold opH at e;split at e
 ·-- nothing is told
  split at e
  ·rename_i s x f XY;split at e
   ·rename_i b off hx;split at e
    ·rename_i b' off' hc;simp only[YO]at e;subst e;refine⟨Ke (fun c h=>by rw[XY]at h;cases h) fun μ w ρ _ XK=> ?_,Shape.same _ _ _⟩;have hv:=XK x (by simp[XY,Op.operands]) _ hx;obtain⟨rfl,hr⟩:=bd (P:=P) hc w;generalize hg:ρ x=u at hv;cases hv with
     |ptr har=>obtain⟨im,_,h2,_⟩:=har;cases h2
     |Yt=>exact⟨_,by simp[execOp,XY,hg,hr,kH],.Yt _ _ 0⟩
    ·cases e
   ·exact plain' e
  ·exact plain' e
 ·-- a value
  rename_i v;split at e
  ·rename_i u H1 n1 R W hs;simp only[YO]at e;subst e;have:=Qak (hp _ rfl);subst this;exact plain hs
  ·cases e
 ·-- an element's address
  rename_i k;split at e
  ·rename_i t x i XY;split at e
   ·rename_i b off sp len c kk q hx hi;split at e
    ·rename_i el hue;split at e
     ·rename_i z hz;have hsp:K8 sp=true:=by
       cases h:K8 sp with
       |true=>rfl
       |false=>rw[h]at e;cases e
      rw[hsp]at e;simp only[cond_true,YO]at e;subst e;obtain⟨hq,hk⟩:=hp _ rfl;refine⟨Ke (fun c h=>by rw[XY]at h;cases h) fun μ w ρ _ XK=> ?_,Shape.same _ _ _⟩;obtain⟨b',off',c',h1,h2⟩:=EH (k:=k) (z:=z) hsp (XK x (by simp[XY,Op.operands]) _ hx);have h3:=o8 (XK i (by simp[XY,Op.operands]) _ hi);exact⟨_,by simp[execOp,XY,h1,h3,qZ hue hz hq hk],h2⟩
     ·cases e
    ·cases e
   ·rename_i b off sp kk q hx hi;split at e
    ·rename_i len el hue;split at e
     ·rename_i z hz;have hsp:K8 sp=true:=by
       cases h:K8 sp with
       |true=>rfl
       |false=>rw[h]at e;cases e
      rw[hsp]at e;simp only[cond_true,YO]at e;subst e;obtain⟨hq,hk⟩:=hp _ rfl;refine⟨Ke (fun c h=>by rw[XY]at h;cases h) fun μ w ρ _ XK=> ?_,Shape.same _ _ _⟩;obtain⟨b',off',h1,h2⟩:=OB (k:=k) (z:=z) hsp (XK x (by simp[XY,Op.operands]) _ hx);have h3:=o8 (XK i (by simp[XY,Op.operands]) _ hi);exact⟨_,by simp[execOp,XY,h1,h3,fW hue hz hq hk],h2⟩
     ·cases e
    ·cases e
   ·cases e
  ·cases e
 ·-- a load of one's own
  rename_i v;split at e
  ·rename_i t x XY;split at e
   ·rename_i b off hx;split at e
    ·rename_i cs te fz hg;have key:Ll b n=true->Yl P t cs off=some v->SN P B o (XV T) H n (.ret v) H n [b] []/\Shape H n H n [b] []:=by
      intro hb hc;refine plain (s:=⟨.ret v,H,n,[b],[]⟩) ?_;have hcop:tB P F (XV T) o H n=some ⟨.val v,H,n,[b],[]⟩:=by simp[tB,XY,hx,SJ,hg,hc]
      have hcr:PK P F (XV T) o H n=some ⟨.val v,H,n,[b],[]⟩:=by simp[PK,hcop,hb]
      simp[aN,XY,hcr]
     have e:=Y8 (q:=Ll b n) e;have hb:Ll b n=true:=by
      have:=hu.lt hg;exact LC this
     split at e
     ·rename_i hag;split at e
      ·rename_i z xs hz _;simp only[YO]at e;subst e;obtain⟨h1,h2⟩:=hp _ rfl;refine key hb ?_;simp only[Yl,hag,hz,LC h1,cond_true,h2]
      ·cases e
     ·rename_i hag;simp only[YO]at e;subst e;refine key hb ?_;simp only[Yl,hag];exact hp _ rfl
     ·cases e
    ·cases e
   ·cases e
  ·cases e
 ·-- a load of memory Pd nobody writes
  rename_i v;split at e
  ·rename_i t x XY;split at e
   ·rename_i b off hx;split at e
    ·rename_i hag;split at e
     ·rename_i z xs hz;cases Zi:Lf xs.size z with
      |false=>rw[Zi]at e;cases e
      |true=>
       rw[Zi]at e;simp only[cond_true,YO]at e;subst e;have Zi:=YE Zi;have hc:=hp _ rfl;refine⟨Ke (fun c h=>by rw[XY]at h;cases h) fun μ w ρ hB XK=> ?_,Shape.same _ _ _⟩;have hv:=XK x (by simp[XY,Op.operands]) _ hx;have hf:∀j,j<z->∃v,xs[j]? =some v/\w.cell? ⟨b,off+j,none⟩=some ((w.cell? ⟨b,off+j,none⟩).getD undef)/\VR μ v ((w.cell? ⟨b,off+j,none⟩).getD undef):=by
        intro j hj;have Xi:j<xs.size:=by omega
        obtain⟨v',a,b⟩:=hc j xs[j] (by simp[Xi]) w hB;exact⟨xs[j],by simp[Xi],by simp[a],by simpa[a]using b μ⟩
       have hr:=run_loadCells (P:=P) w ⟨b,off,none⟩ z (fun j=>(w.cell? ⟨b,off+j,none⟩).getD undef) (fun j hj=>by
        obtain⟨_,_,hc,_⟩:=hf j hj;rw[WB];exact hc)
       generalize hg:ρ x=u at hv;cases hv with
       |ptr har=>obtain⟨im,_,h2,_⟩:=har;cases h2
       |Yt=>
        refine⟨.agg _,by simp[execOp,XY,hg,Instr.loadAt,Instr.sureAddr,loadVar,Ki hag,Zj hz,kH,hr];rfl,.agg (by simp[Zi]) fun i v v' hv ZW=> ?_⟩;have hi:i<z:=by
         have:=(Array.getElem?_eq_some_iff.1 hv).1;omega
        obtain⟨u,h1,_,h2⟩:=hf i hi;rw[hv]at h1;cases h1;simp[hi]at ZW;rw[<-ZW];exact h2
     ·cases e
    ·rename_i hag;simp only[YO]at e;subst e;have hc:=hp _ rfl;refine⟨Ke (fun c h=>by rw[XY]at h;cases h) fun μ w ρ hB XK=> ?_,Shape.same _ _ _⟩;have hv:=XK x (by simp[XY,Op.operands]) _ hx;obtain⟨v',h1,h2⟩:=hc w hB;generalize hg:ρ x=u at hv;cases hv with
     |ptr har=>obtain⟨im,_,h2,_⟩:=har;cases h2
     |Yt=>exact⟨v',by simp[execOp,XY,hg,Instr.loadAt,Instr.sureAddr,loadVar,Ki hag,run_load,kH,h1],h2 μ⟩
    ·cases e
   ·cases e
  ·cases e
 ·-- a comparison of structs
  rename_i b;split at e
  ·rename_i op t x y ty XY;split at e
   ·rename_i xs ys hx hy;cases hgt:P.eqGuardType P.depth t with
    |true=>rw[hgt]at e;cases e
    |false=>
     rw[hgt]at e;simp only[cond_false]at e;have vals:VW (.agg xs)=true->VW (.agg ys)=true->∀(μ:Mu) (ρ:Operand->Value),(∀x∈o.op.operands,∀v,XV T x=some v->VR μ v (ρ x))->ρ x=.agg xs/\ρ y=.agg ys:=fun h1 h2 μ ρ XK=>
      ⟨SM h1 (XK x (by simp[XY,Op.operands]) _ hx),SM h2 (XK y (by simp[XY,Op.operands]) _ hy)⟩
     split at e
     ·split at e
      ·rename_i r hr;cases hl:(VW (.agg xs) && VW (.agg ys))with
       |false=>simp only[hl]at e;cases e
       |true=>
        simp only[hl,cond_true,YO]at e;subst e;have WG:r=b:=hp _ rfl;subst WG;simp only[YB]at hl;refine⟨Ke (fun c h=>by rw[XY]at h;cases h) fun μ w ρ _ XK=> ?_,Shape.same _ _ _⟩;obtain⟨e1,e2⟩:=vals hl.1 hl.2 μ ρ XK;refine⟨.bool r, ?_,.bool _⟩;simp[execOp,XY,e1,e2,run_eqGuard_agg w _ t x y xs ys hgt,run_eql_struct,tw 100 t _ _ r hr 10000 w (by omega)]
      ·cases e
     ·split at e
      ·rename_i r hr;cases hl:(VW (.agg xs) && VW (.agg ys))with
       |false=>simp only[hl]at e;cases e
       |true=>
        simp only[hl,cond_true,YO]at e;subst e;have WG:(!r)=b:=hp _ rfl;subst WG;simp only[YB]at hl;refine⟨Ke (fun c h=>by rw[XY]at h;cases h) fun μ w ρ _ XK=> ?_,Shape.same _ _ _⟩;obtain⟨e1,e2⟩:=vals hl.1 hl.2 μ ρ XK;refine⟨.bool (!r), ?_,.bool _⟩;simp[execOp,XY,e1,e2,run_eqGuard_agg w _ t x y xs ys hgt,binOp,Op.equal,Op.maxDepth,tw 100 t _ _ r hr 10000 w (by omega)]
      ·cases e
     ·cases e
   ·cases e
  ·cases e
 ·-- a slice's length
  rename_i m;split at e
  ·rename_i c XY;split at e
   ·rename_i hc;split at e
    ·rename_i x t ha ht;split at e
     ·rename_i v el hx hu;rw[Zw]at hu;simp only[YO]at e;subst e;refine⟨Ke (fun c h=>by rw[XY]at h;cases h) fun μ w ρ hB XK=> ?_,Shape.same _ _ _⟩;have ea:c.args=#[x]:=by rw[<-ha]
      have et:c.argTypes=#[t]:=by rw[<-ht]
      obtain⟨a,cp,hv⟩:=hp _ rfl μ _ (XK x (by simp[XY,Op.operands,Call.operands,hc,ea]) _ hx);refine⟨.int .i64 m, ?_,.int _ _⟩;simp[execOp,XY,resolve,hc,invoke,builtin,ea,et,hv,Builtin.len_,run_underlying hu,goInt]
     ·cases e
    ·cases e
   ·cases e
  ·cases e
 ·-- append
  rename_i cs';split at e
  ·rename_i c XY;split at e
   ·rename_i hcal;split at e
    ·rename_i s x t t' ha ht;cases htt:Lf t t' with
     |false=>rw[htt]at e;cases e
     |true=>
      rw[htt]at e;simp only[cond_true]at e;split at e
      ·rename_i sv xv hs hx;split at e
       ·rename_i v H1 n1 R W p hap;cases hR:R.all (fun i=>Ll i n)with
        |false=>rw[hR]at e;cases e
        |true=>
         rw[hR]at e;simp only[cond_true,YO]at e;subst e;have hpp:p:=hp _ rfl;refine plain (s:=⟨.ret v,H1,n1,R,W⟩) ?_;have hca:Ue P t H n sv xv=some ⟨.val v,H1,n1,R,W⟩:=by
          unfold Qbi at hap;unfold Ue;split at hap
          ·rename_i e1 hue;rw[hue];simp only;split at hap
           ·rename_i inf1 hinf;rw[hinf];simp only;split at hap
            ·rename_i zv z hzv Zi;rw[hzv,Zi];simp only;split at hap
             ·rename_i b k s';split at hap
              ·rename_i cs te hg;split at hap
               ·rename_i ns m bx hns;cases hq:(Lf te e1 && Lf s' (z+1) && ones ns && Lf zv.cells.size (z+1) && Ll 0 m)with
                |false=>rw[hq]at hap;cases hap
                |true=>
                 rw[hq]at hap;simp only[cond_true,YO,YR,CR.mk.injEq,CN.val.injEq]at hap;obtain⟨⟨rfl,rfl,rfl,rfl,rfl⟩,rfl⟩:=hap;obtain⟨p1,p2,p3,p4⟩:=hpp;simp only[YB]at hq;obtain⟨⟨⟨⟨q1,q2⟩,q3⟩,q4⟩,q5⟩:=hq;have hh:R8 H e1 (z+1) (.slice (some ⟨b,0,none⟩) k s')=some (cs,k,some b):=by
                  simp[R8,hg,YE q1,YE q2,p1]
                 rw[hh,hns];simp only[q3,q4,q5,LC p2,LC p3,Bool.and_self,cond_true,p4];rfl
               ·cases hap
              ·cases hap
             ·cases hap
            ·cases hap
           ·cases hap
          ·cases hap
         have hbr:bare sv=sv:=by
          unfold bare;split
          ·exfalso;unfold Qbi at hap;repeat' (first|(cases hap;done)|split at hap)
          ·rfl
         have hcop:tB P F (XV T) o H n=some ⟨.val v,H1,n1,R,W⟩:=by simp[tB,XY,hcal,ha,ht,hs,hx,yE,htt,hbr,hca]
         have hcr:PK P F (XV T) o H n=some ⟨.val v,H1,n1,R,W⟩:=by
          simp only[PK,hcop,hR,cond_true]
         simp[aN,XY,hcr]
       ·cases e
      ·cases e
    ·cases e
   ·cases e
  ·cases e
 ·-- make
  rename_i m cs;split at e
  ·rename_i t l c XY;split at e
   ·rename_i x y hx hy;split at e
    ·rename_i el Tz;split at e
     ·rename_i z hz;simp only[YO]at e;subst e;have hc:=hp _ rfl;exact plain (s:=⟨.ret (.slice (some ⟨n,0,none⟩) m z),(n,.cells cs el (0,0))::H,n+1,[],[]⟩) (by simp[aN,XY,PK,tB,hx,hy,hc])
     ·cases e
    ·cases e
   ·cases e
  ·cases e
 ·-- a store
  rename_i cs';split at e
  ·rename_i t ad x XY;split at e
   ·rename_i b off v hx hy;split at e
    ·rename_i cs te hg;split at e
     ·rename_i z hz;cases hq:(Ll b n && Lf v.cells.size z && ones v.cells)with
      |false=>rw[hq]at e;cases e
      |true=>
       rw[hq]at e;simp only[cond_true,YO]at e;subst e;obtain⟨h1,h2⟩:=hp _ rfl;simp only[YB]at hq;have XZ:RC P t H v (.pointer (some ⟨b,off,none⟩))=some (VE H b (.cells cs' te (0,0)),b):=by
        simp only[RC,hg,hz,hq.1.2,hq.2,LC h1,Bool.and_self,cond_true,h2]
       exact plain (s:=⟨.ret undef,VE H b (.cells cs' te (0,0)),n,[b],[b]⟩) (by simp[aN,XY,PK,tB,hx,hy,XZ,hq.1.1])
     ·cases e
    ·cases e
   ·cases e
  ·cases e
 ·-- a call
  rename_i keys out UN n' W;split at e
  ·rename_i c XY;split at e
   ·rename_i g args H1 n1 R W1 hcr;cases hn:(Lf n1 n && W1.isEmpty)with
    |false=>rw[hn]at e;cases e
    |true=>
     rw[hn]at e;simp only[cond_true,YO]at e;subst e;simp only[YB,List.isEmpty_iff]at hn;obtain⟨PV,rfl⟩:=hn;have PV:=YE PV;subst PV;have Tz:Under H1 n1:=hu.shape (ik hu (oO hcr).1);have hcj:=hp _ rfl H1 Tz (fun p hp=>by
      obtain⟨k,_,rfl⟩:=List.mem_map.1 hp;rfl)
     have hk:(keys.map fun k=>(k,Qq H1 k)).map (·.1)=keys:=by
      rw[List.map_map];exact List.map_id' _
     rw[hk]at hcj;have We:W4 P B (fun g' a' H' m'=>open Classical in if g'=g/\a'=args/\H'=H1/\m'=n1 then some ⟨.ret out,UN++H1,n',keys,W⟩else none):=by
      intro g' a' H' m' s _ h;simp only at h;split at h
      ·rename_i q;obtain⟨rfl,rfl,rfl,rfl⟩:=q;simp only[YO]at h;subst h;exact hcj
      ·cases h
     have:=Y0 hF JO We hu (T:=T) (o:=o) (s:=⟨.ret out,UN++H1,n',R++keys,W⟩) (by
      simp[aN,XY,hcr])
     exact this
   ·rename_i l fn tm cda cdb H1 n1 R W1 hcr;cases hn:(Lf n1 n && W1.isEmpty && LI tm.size 16000)with
    |false=>rw[hn]at e;cases e
    |true=>
     rw[hn]at e;simp only[cond_true,YO]at e;subst e;simp only[YB,List.isEmpty_iff]at hn;obtain⟨⟨PV,rfl⟩,Zi⟩:=hn;have PV:=YE PV;subst PV;have Tz:Under H1 n1:=hu.shape (ik hu (oO hcr).1);have hrj:=hp _ rfl;have Vq:=RJ.recS Tz hrj;have:=Y0 hF Vq (QF P B) hu (T:=T) (o:=o) (s:=⟨.ret out,UN++H1,n',R++keys,W⟩) (by
      simp[aN,XY,hcr,Zi,RI])
     exact this
   ·cases e
  ·cases e
 ·-- what is found in a map
  rename_i v;split at e
  ·rename_i t x k ok XY;split at e
   ·rename_i r kv hx hk;split at e
    ·rename_i es PT hg;cases hq:Ll r n with
     |false=>rw[hq]at e;cases e
     |true=>
      rw[hq]at e;simp only[cond_true,YO]at e;subst e;have hl:=hp _ rfl H r PT hg;exact plain (s:=⟨.ret v,H,n,[r],[]⟩) (by simp[aN,XY,PK,tB,hx,hk,hl,hq])
    ·cases e
   ·cases e
  ·cases e
 ·-- what a map becomes
  rename_i K0 clk';split at e
  ·rename_i t m k x XY;split at e
   ·rename_i r kv v hm hk hx;split at e
    ·rename_i es PT hg;cases hq:Ll r n with
     |false=>rw[hq]at e;cases e
     |true=>
      rw[hq]at e;simp only[cond_true,YO]at e;subst e;have hl:=hp _ rfl H r hg;exact plain (s:=⟨.ret undef,VE H r (.map K0 clk'),n,[r],[r]⟩) (by simp[aN,XY,PK,tB,hm,hk,hx,hl,hq])
    ·cases e
   ·cases e
  ·cases e
 ·-- nothing behind nothing
  split at e
  ·rename_i c XY;split at e
   ·rename_i hcal;split at e
    ·rename_i s x t t' ha ht;cases htt:Lf t t' with
     |false=>rw[htt]at e;cases e
     |true=>
      rw[htt]at e;simp only[cond_true]at e;have htt:=YE htt;subst htt;split at e
      ·rename_i hs hx;split at e
       ·rename_i el hue;split at e
        ·rename_i z hz;simp only[YO]at e;subst e;have ea:c.args=#[s,x]:=by rw[<-ha]
         have et:c.argTypes=#[t,t]:=by rw[<-ht]
         refine⟨Ke (fun c h=>by rw[XY]at h;cases h) fun μ w ρ _ XK=> ?_,Shape.same _ _ _⟩;have h1:=SM (v:=.slice none 0 0) rfl (XK s (by simp[XY,Op.operands,Call.operands,hcal,ea]) _ hs);have h2:=SM (v:=.slice none 0 0) rfl (XK x (by simp[XY,Op.operands,Call.operands,hcal,ea]) _ hx);refine⟨.slice none 0 0, ?_,.P9 0 0⟩;have hr:=pB (ty:=o.type) hue hz w;simp[execOp,XY,resolve,hcal,invoke,builtin,ea,et,hr,h1,h2]
        ·cases e
       ·cases e
      ·cases e
    ·cases e
   ·cases e
  ·cases e
end
end Go.CE

namespace Go.CE
open Go Go.RowKit

def Qz:List Prop->Prop
 |[]=>True
 |p::l=>p/\Qz l
abbrev tV:=List (Nat×Hint)
def told(sc:tV)(q:Nat):Option Hint×tV:=match sc with
 |(k,h)::l=>bif Lf k q then(some h,l)else(none,sc)
 |[]=>(none,[])
structure RR where
 Qs:List Rec
 T:Tm
 H:Qm
 n:Nat
 sc:tV
 q:Nat
 L:List Prop
def more(p:Option Prop)(L:List Prop):List Prop:=match p with|some p=>p::L|none=>L
def OI(P:Program)(F:FuncId->Bool)(B:Lo)(ops:Array Oper):List Oper->Tm->Qm->Nat->tV->Nat->List Prop->Option RR
 |[],T,H,n,sc,q,L=>some ⟨[],T,H,n,sc,q,L⟩
 |o::l,T,H,n,sc,q,L=>
  bif PI T o.dst then
   bif Region.wanted o (XI ops T)then
    match told sc q with
    |(h,sc')=>match opH P F B T o H n h with
     |some ⟨⟨.ret v,H1,n1,R,W⟩,p⟩=>match OI P F B ops l (V0 T o.dst v) H1 n1 sc' (q+1) (more p L)with
      |some r=>some {r with Qs:=⟨o,true,v,T,H,H1,n,n1,R,W⟩::r.Qs}
      |none=>none
     |_=>none
   else match OI P F B ops l (V0 T o.dst undef) H n sc (q+1) L with
    |some r=>some {r with Qs:=⟨o,false,undef,T,H,H,n,n,[],[]⟩::r.Qs}
    |none=>none
  else none
inductive SR where
 |at (c:CF) (H:Qm) (n:Nat)
 |fin (out:OO) (H:Qm) (n:Nat)
structure ST where
 r:SR
 W:List Nat
 L:List Prop
def I9(P:Program)(F:FuncId->Bool)(B:Lo)(c:CF)(H:Qm)(n:Nat)(f:Operand)(params:Array Tmp)(assign body:Code)(k:List Item)(keys:List Nat)(out:Value)(UN:Qm)(n':Nat)(W:List Nat):Option (CF×Qm×Prop):=
 match XV c.tmps f with
 |some fv=>match Kb c H n params assign body with
  |some (H1,l,ds,_)=>match Rp F H1 fv #[.func (.yield l) #[] #[]]with
   |some (.enter g args,_)=>match Wi P g args with
    |some c1=>some ({c with todo:=.endRangeFunc l::k,defers:=ds++c.defers},UN++H1,RJ P B c1 (keys.map fun k=>(k,Qq H1 k)) (l+1) out UN n' W)
    |none=>none
   |_=>none
  |none=>none
 |none=>none
section
variable {P:Program} {F:FuncId->Bool} {B:Lo}
theorem fP{p:Option Prop}{L:List Prop}(h:Qz (more p L)):(∀x,p=some x->x)/\Qz L:=by
 cases p with
 |none=>exact⟨(fun x h=>by cases h),h⟩
 |some p=>exact⟨(fun x e=>by cases e;exact h.1),h.2⟩
theorem tt{c:CF}{H:Qm}{n:Nat}(XP:P.follows .mixedOrders=true){id:Nat}{ops:Array Oper}{draw:Bool}{k:List Item}{Qs:List Rec}{T':Tm}{H':Qm}{n':Nat}(hm:c.mode=.run)
 (ht:c.todo=.code (.region id ops draw)::k) (hs:∀x∈Qs,cv c.tmps.len x) (hk:∀x∈Qs,Rv P B ops x) (R9:KK Qs c.tmps H n T' H' n') (hmap:Qs.map (·.o)=ops.toList) (hd:(!draw || (Vg 0 ops.toList && indep ops 0 Qs (JK ops.toList [])))=true):
 GoJ P B c H n {c with tmps:=T',todo:=k} H' n' (Yn Qs) (Uh Qs):=by
 have hown:=U4 (l:=ops.toList) (l2:=[]) (by rw[List.append_nil];exact hmap) rfl;have hlen:Qs.length=ops.size:=by have:=congrArg Ld hmap;simpa using this
 refine⟨ZG Qs _ _ _ _ _ _ R9 hs,fun S μ w fr cs Z Q7 hB hS hf X8 hR=> ?_⟩;obtain⟨a,b,d⟩:=X8.running hm;rw[ht]at d;obtain⟨L',e,hL⟩:=d.code;cases draw with
 |false=>
  obtain⟨μ',A',w',hp,hT,XZ⟩:=bn (fr:=fr) (cs:=cs) (k:=L') a Qs 0 c.tmps H n T' H' n' [] R9 hs hk (fun j r hj=>by rw[Lv];exact hown j r hj) rfl S μ w fr.tmps Q7 hB hS hf hR b;rw[List.append_nil,hlen]at XZ;exact⟨{fr with tmps:=A',todo:=L'},w',μ',hp,⟨X8.fn,hT,fun _=>hL.mono (hp.mu hf),X8.defers.mono (hp.mu hf),X8.mode.mono (hp.mu hf),X8.kind,X8.round.mono (hp.mu hf)⟩,rfl,rfl,
   .head (ZS a e) (XZ.trans (.one (Vj a)))⟩
 |true=>
  simp only[Bool.not_true,Bool.false_or,YB]at hd;have hedge:∀(q:Nat) o,ops[q]? =some o->∀e∈o.after,Region.binds .any e=true->e.on<q:=by
   intro q o ho e he hb;have:=JH ops.toList 0 hd.1 q o (by rw[Lm];exact ho) e he hb;omega
  have hbef:=tP ops.toList (fun q o ho=>hedge q o (by simpa using ho));have VE:Setup P B ops Qs (JK ops.toList []) c.tmps H n T' H' n':=⟨R9,hs,hown,hlen,by simpa using hbef.1,Ty Qs _ 0 hd.2,hedge⟩
  obtain⟨μ',A',w',hp,hT,XZ⟩:=iE XP VE hk Q7 hS hR hf hB (fr:=fr) (cs:=cs) (id:=id) (k:=L') a b e;exact⟨{fr with tmps:=A',todo:=L'},w',μ',hp,⟨X8.fn,hT,fun _=>hL.mono (hp.mu hf),X8.defers.mono (hp.mu hf),X8.mode.mono (hp.mu hf),X8.kind,X8.round.mono (hp.mu hf)⟩,rfl,rfl,XZ⟩
def SRJ(P:Program)(B:Lo)(c:CF)(H:Qm)(n:Nat)(R W:List Nat):SR->Prop
 | .at c' H' n'=>GoJ P B c H n c' H' n' R W
 | .fin out H' n'=>FJ P B c H n out H' n' R W
theorem GoJ.srj{c c':CF}{H H':Qm}{n n':Nat}{R R' W W':List Nat}{r:SR}(h:GoJ P B c H n c' H' n' R W)(k:SRJ P B c' H' n' R' W' r):SRJ P B c H n (R++R') (W++W') r:=by
 cases r with
 | «at»=>exact h.trans k
 |fin=>exact h.fj k
theorem yo(hF:∀g,F g=true->Q0 P g=true)(XP:P.follows .mixedOrders=true){c c':CF}{H H':Qm}{n n':Nat}{f:Operand}{params:Array Tmp}{assign body:Code}{k:List Item}{keys W:List Nat}{out:Value}{UN:Qm}{p:Prop}(hu:Under H n)(hm:c.mode=.run)(ht:c.todo=.code (.rangeFunc f params assign body)::k)
 (h:I9 P F B c H n f params assign body k keys out UN n' W=some (c',H',p)) (hp:p):∃R,GoJ P B c H n c' H' n' R W:=by
 unfold I9 at h;split at h
 ·rename_i fv hfv;split at h
  ·rename_i H1 l ds R1 ho;split at h
   ·rename_i g args R2 hc;split at h
    ·rename_i c1 he;simp only[YO,YR]at h;obtain⟨rfl,rfl,rfl⟩:=h;have Tz:Under H1 (l+1):=hu.shape (aL (P:=P) (B:=B) hu ho).1;have Vq:=RJ.recS Tz hp;refine⟨R1++R2++keys, ?_⟩;have:Rn P F Xn (SX c1 H1 (l+1) ⟨.ret out,UN++H1,n',keys,W⟩) c H n=some (.go {c with todo:=.endRangeFunc l::k,defers:=ds++c.defers} (UN++H1) n' (R1++R2++keys) W):=by
      unfold Rn;simp only[hm,ht,hfv,ho,hc,he,RI]
     exact Vy hF XP (QF P B) Vq hu this
    ·cases h
   ·cases h
  ·cases h
 ·cases h
end
end Go.CE
