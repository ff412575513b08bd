/- CE: calls whose arguments are known, at the level of worlds. -/
import Derived.Test.YtncjjangllkokaaZRS06
import Derived.Laws.StructEq
set_option linter.all false
open Nat renaming le_refl->LI,beq->Lf,ble->LR,blt->Lr,lt_or_ge->LK,zero_add->LD,ble_eq_true_of_le->LH
open Option renaming map_some->LL
open Array renaming mem_of_getElem? ->LN,getElem?_toList->Lq
open List renaming getElem?_eq_none->LG,mem_cons_of_mem->Lt,mem_append_left->Ln,mem_append_right->Lw,range'->LM,length->Ld,getElem?_append_right->Lm,getElem?_map->LF,append_assoc->LY
namespace Go.CE
open Go Go.RowKit

def X1:WW:=fun _ _ _ _=>none
theorem QJ(P:Program)(B:Lo):Ws P B X1:=fun _ _ _ _ _ _ h=>by cases h
noncomputable def ou(P:Program)(F:FuncId->Bool)(Xu:WW)(fuel:Nat)(f:FuncId)(args:Array Value)(H:Qt)(n:Nat):Option Rs:=
 Option.rec none (fun c=>CF.rec (fun fn T todo ds mode ro=>CM.rec (Tm.rec (fun len tr=>bh P F Xu fuel n fn len tr todo ds ro H n [] []) T) none (fun _=>none) mode) c) (ZY P f args)
theorem dA{P:Program}{F:FuncId->Bool}{Xu:WW}{fuel:Nat}{f:FuncId}{args:Array Value}{H:Qt}{n:Nat}{s:Rs}(h:ou P F Xu fuel f args H n=some s):∃c,ZY P f args=some c/\oK P F Xu fuel n c H n [] []=some s:=by
 unfold ou at h;cases hc:ZY P f args with
 |none=>rw[hc]at h;cases h
 |some c=>
  rw[hc]at h;obtain⟨fn,⟨len,tr⟩,todo,ds,mode,ro⟩:=c;cases mode with
  |run=>
   refine⟨_,rfl, ?_⟩;rw[<-nV,<-nW];exact h
  |ret=>cases h
  |We v=>cases h
theorem xT{P:Program}{F:FuncId->Bool}{Xu:WW}{B:Lo}(ZX:Ws P B Xu)(hF:∀g,F g=true->Q6 P g=true)(Zm:P.follows .mixedOrders=true){fuel:Nat}{f:FuncId}{args:Array Value}{H:Qt}{n:Nat}{s:Rs}(h:ou P F Xu fuel f args H n=some s)(hu:Under H n):Under s.H s.n:=by
 obtain⟨c,_,hr⟩:=dA h;obtain⟨Rr,Wr,hfj,_,_,_,_⟩:=YZ (B:=B) hF Zm ZX fuel n c H n [] [] s hu (fun i hi=>by simp at hi) (fun i hi=>by simp at hi) hr;exact hu.shape hfj.shape
theorem so{P:Program}{F:FuncId->Bool}{Xu:WW}(hF:∀g,F g=true->Q6 P g=true)(Zm:P.follows .mixedOrders=true){fuel:Nat}{f:FuncId}{args args':Array Value}{H:Qt}{n:Nat}{s:Rs}(h:ou P F Xu fuel f args H n=some s)(hu:Under H n){w:World}{μ:Mu}
 {I:World->Prop} {hI:∀w1 w2:World,(∀b,b<w.heap.size->w2.heap[b]? =w1.heap[b]?)->I w1->I w2} (ZX:Ws P ⟨w.heap.size,I,hI⟩ Xu) (hi:I w) (QE:Ok w.heap.size (fun i=>i<n) μ (Qw H) w) (hv:VRs μ args args') (hf:∀i,n<=i->μ i=none):
 Calls P f args' w fun e w'=> ∃Zg μ',Post w.heap.size (fun i=>i<n) n s.n s.W μ μ' H s.H w w'/\OR2 μ' s.out Zg/\e=Zg.ending:=by
 obtain⟨c,hc,hr⟩:=dA h;obtain⟨Rr,Wr,hfj,a1,a2,a3,a4⟩:=YZ (B:=⟨w.heap.size,I,hI⟩) hF Zm ZX fuel n c H n [] [] s hu (fun i hi=>by simp at hi) (fun i hi=>by simp at hi) hr;have hfj:=hfj.lists (fun i hi=>by simpa using a1 i hi) (fun i hi=>by simpa using a2 i hi) a4;intro cs;obtain⟨Zg,w',μ',hp,ho,he⟩:=hfj.sem _ μ w _ cs QE ⟨LI _,hi⟩ (fun _ hi=>hi) (fun i hi _=>hf i hi) (UL hc hv) (fun i _ hi=>hi);obtain⟨frE,h1,h2,h3⟩:=he.1 rfl;refine⟨Zg.ending,w',frE,⟨Zg,μ',hp,ho,rfl⟩, ?_,h2,h3⟩;cases Zg with
 |ret v=>exact h1
 |We v=>exact h1
def OP(w:World)(Zt off:Nat)(cs:Array Value):Prop:=Zt<w.heap.size/\∀(i:Nat) v,cs[i]? =some v->w.cell? ⟨Zt,off+i,none⟩=some v
def wg(l:List (Nat×Nat)):Mu:=fun i=>(l[i]?).map fun x=>⟨x.1,x.2,0,false,aj⟩
def So(i:Nat):List (Array Value×TypeId)->Qt
 |[]=>[]
 |(cs,t)::l=>(i,.cells cs t (1,1))::So (i+1) l
theorem bg:∀(l:List (Array Value×TypeId)) (i k:Nat),Qw (So i l) k=if i<=k then(l[k-i]?).map fun x=>.cells x.1 x.2 (1,1)else none
 |[],i,k=>by simp[So,Qw]
 |(cs,t)::l,i,k=>by
  simp only[So];rw[QV,bg l (i+1) k];by_cases e:k=i
  ·subst e;simp
  ·rw[if_neg e];by_cases h:i<=k
   ·rw[if_pos h,if_pos (by omega),show k-i=(k-(i+1))+1 by omega];simp
   ·rw[if_neg h,if_neg (by omega)]
theorem Mm{w:World}{l:List (Array Value×TypeId)}{at':List (Nat×Nat)}(hl:at'.length=l.length)(h:∀(i:Nat) x a,l[i]? =some x->at'[i]? =some a->OP w a.1 a.2 x.1/\x.1.all af=true):Ok w.heap.size (fun i=>i<l.length) (wg at') (Qw (So 0 l)) w:=by
 have key:∀i o,i<l.length->Qw (So 0 l) i=some o->∃x a,l[i]? =some x/\at'[i]? =some a/\o=.cells x.1 x.2 (1,1):=by
  intro i o hi ho;rw[bg,if_pos (Nat.zero_le _),Nat.sub_zero]at ho;have h1:l[i]? =some l[i]:=by simp[hi]
  have h2:at'[i]? =some (at'[i]'(by omega)):=by simp[hl ▸ hi]
  rw[h1]at ho;simp only[LL,YO]at ho;exact⟨_,_,h1,h2,ho.symm⟩
 refine⟨fun i o hi ho _=> ?_,fun i o im hi ho _ QK=> ?_,fun i j oi oj a b hi hj _ Wc _ _ _ ha _ hra _=> ?_,fun i o hi ho hr=> ?_,fun i j oi oj a b x hi hj Wc Wb hr=> ?_⟩
 ·obtain⟨x,a,h1,h2,rfl⟩:=key i o hi ho;obtain⟨⟨_,hc⟩,haf⟩:=h i x a h1 h2;refine⟨⟨a.1,a.2,0,false,aj⟩,by simp[wg,h2],.inr ⟨by simp,fun k v hv=>⟨v,hc k v hv,PC (Array.all_eq_true'.1 haf v (LN hv))⟩⟩⟩
 ·obtain⟨x,a,h1,h2,rfl⟩:=key i o hi ho;simp only[wg,h2,LL,YO]at QK;subst QK;exact⟨(h i x a h1 h2).1.1,(fun h=>by cases h),fun _=>(h i x a h1 h2).1.1⟩
 ·obtain⟨x,q,h1,h2,_⟩:=key i oi hi Wc;simp only[wg,h2,LL,YO]at ha;subst ha;cases hra
 ·obtain⟨x,a,_,_,rfl⟩:=key i o hi ho;exact hr.elim
 ·obtain⟨x,a,_,_,rfl⟩:=key i oi hi Wc;exact hr.elim
theorem dF(l:List (Array Value×TypeId)):Under (So 0 l) l.length:=by
 intro i hi;rw[bg,if_pos (Nat.zero_le _),Nat.sub_zero,LG (by omega)];rfl
theorem DC{at':List (Nat×Nat)}:∀i,at'.length<=i->wg at' i=none:=fun i hi=>by simp[wg,LG hi]
end Go.CE

namespace Go.CE
open Go Go.RowKit

def H5(p:Value->Value->Bool):List Value->List Value->Bool
 |[],[]=>true
 |x::l,y::m=>p x y && H5 p l m
 |_,_=>false
theorem Yc{p:Value->Value->Bool}(hp:∀x y,p x y=true->x=y):∀(l m:List Value),H5 p l m=true->l=m
 |[],[],_=>rfl
 |x::l,y::m,h=>by
  simp only[H5,YB]at h;rw[hp x y h.1,Yc hp l m h.2]
 |[],_::_,h=>by cases h
 |_::_,[],h=>by cases h
def M5:List UInt8->List UInt8->Bool
 |[],[]=>true
 |x::l,y::m=>Lf x.toNat y.toNat && M5 l m
 |_,_=>false
theorem od:∀(l m:List UInt8),M5 l m=true->l=m
 |[],[],_=>rfl
 |x::l,y::m,h=>by
  simp only[M5,YB]at h;rw[UInt8.toNat_inj.1 (YE h.1),od l m h.2]
 |[],_::_,h=>by cases h
 |_::_,[],h=>by cases h
def NU:Value->Value->Bool
 | .bool a,.bool b=>a==b
 | .int k a,.int l b=>decide (k=l) && Rx a b
 | .slice (some ⟨a,o,none⟩) n s,.slice (some ⟨b,p,none⟩) m t=>Lf a b && Lf o p && Lf n m && Lf s t
 | .slice none n s,.slice none m t=>Lf n m && Lf s t
 | .string a,.string b=>M5 a.data.toList b.data.toList
 | .pointer (some ⟨a,o,none⟩),.pointer (some ⟨b,p,none⟩)=>Lf a b && Lf o p
 | .func (.func g) x y,.func (.func g') x' y'=>Lf g g' && (Lf x.toList.length 0 && (Lf y.toList.length 0 && (Lf x'.toList.length 0 && Lf y'.toList.length 0)))
 |_,_=>false
theorem H3{a b:Int}(h:Rx a b=true):a=b:=by
 rw[du]at h;simpa using h
theorem nZ(x y:Value)(h:NU x y=true):x=y:=by
 unfold NU at h;split at h
 ·simp only[beq_iff_eq]at h;rw[h]
 ·simp only[YB,decide_eq_true_eq]at h;rw[h.1,H3 h.2]
 ·simp only[YB]at h;obtain⟨⟨⟨h1,h2⟩,h3⟩,h4⟩:=h;rw[YE h1,YE h2,YE h3,YE h4]
 ·simp only[YB]at h;rw[YE h.1,YE h.2]
 ·rename_i a b;obtain⟨a⟩:=a;obtain⟨b⟩:=b;simp only at h;rw[Array.ext' (od _ _ h)]
 ·simp only[YB]at h;rw[YE h.1,YE h.2]
 ·rename_i x y _ x' y';simp only[YB,Nat.beq_eq]at h;obtain⟨h1,h2,h3,h4,h5⟩:=h;have e:∀z:Array Value,z.toList.length=0->z=#[]:=fun z hz=>by
   have:=List.eq_nil_of_length_eq_zero hz;exact Array.ext' this
  rw[h1,e x h2,e y h3,e x' h4,e y' h5]
 ·cases h
def DT:Nat->Value->Value->Bool
 |f+1,.agg x,.agg y=>H5 (DT f) x.toList y.toList
 |f+1,.tuple x,.tuple y=>H5 (DT f) x.toList y.toList
 |_,x,y=>NU x y
theorem UU:∀(f:Nat) (x y:Value),DT f x y=true->x=y
 |0,x,y,h=>nZ x y (by simpa[DT]using h)
 |f+1,x,y,h=>by
  unfold DT at h;split at h
  ·rename_i f' a b e;cases e;rw[Array.ext' (Yc (UU f) _ _ h)]
  ·rename_i f' a b e;cases e;rw[Array.ext' (Yc (UU f) _ _ h)]
  ·exact nZ _ _ h
def xH(H:Qt)(x:Nat×Array Value×TypeId):Bool:=match Qw H x.1 with
 |some (.cells ds t (0,0))=>H5 (DT 1) ds.toList x.2.1.toList && Lf t x.2.2
 |_=>false
def B7(x:Option Rs)(out:Value)(bs:List (Nat×Array Value×TypeId)):Bool:=match x with
 |some ⟨.ret v,H,_,_,[]⟩=>DT 3 v out && bs.all (xH H)
 |_=>false
theorem Ax{x:Option Rs}{out:Value}{bs:List (Nat×Array Value×TypeId)}(h:B7 x out bs=true):∃s,x=some s/\s.out=.ret out/\s.W=[]/\∀y∈bs,Qw s.H y.1=some (.cells y.2.1 y.2.2 (0,0)):=by
 unfold B7 at h;split at h
 ·rename_i v H n R;simp only[YB]at h;refine⟨_,rfl,by rw[UU 3 _ _ h.1],rfl,fun y hy=> ?_⟩;have:=List.all_eq_true.1 h.2 y hy;unfold xH at this;split at this
  ·rename_i ds t hg;simp only[YB]at this;have e1:=Array.ext' (Yc (UU 1) _ _ this.1);have e2:=YE this.2;simp only;rw[hg,e1,e2]
  ·cases this
 ·cases h
theorem DY{P:Program}{F:FuncId->Bool}{Xu:WW}(hF:∀g,F g=true->Q6 P g=true)(Zm:P.follows .mixedOrders=true){fuel:Nat}{f:FuncId}{args args':Array Value}{l:List (Array Value×TypeId)}{at':List (Nat×Nat)}{out:Value}{bs:List (Nat×Array Value×TypeId)}
 (h:B7 (ou P F Xu fuel f args (So 0 l) l.length) out bs=true) {w:World} {I:World->Prop} {hI:∀w1 w2:World,(∀b,b<w.heap.size->w2.heap[b]? =w1.heap[b]?)->I w1->I w2} (ZX:Ws P ⟨w.heap.size,I,hI⟩ Xu) (hi:I w) (hl:at'.length=l.length) (hlies:∀(i:Nat) x a,l[i]? =some x->at'[i]? =some a->OP w a.1 a.2 x.1/\x.1.all af=true) (hv:VRs (wg at') args args'):
 Calls P f args' w fun e w'=> ∃v' n' H' μ',e=.returned v'/\Post w.heap.size (fun i=>i<l.length) l.length n' [] (wg at') μ' (So 0 l) H' w w'/\VR μ' out v'/\(∀y∈bs,Qw H' y.1=some (.cells y.2.1 y.2.2 (0,0)))/\Under H' n'/\Below w.heap.size w w':=by
 obtain⟨s,hs,ho,hW,hb⟩:=Ax h;obtain hc:=so hF Zm hs (dF l) ZX hi (Mm hl hlies) hv (fun i hi=>DC i (by omega));intro cs;obtain⟨e,w',fr,⟨Zg,μ',hp,ZU,he⟩,h1,h2,h3⟩:=hc cs;refine⟨e,w',fr, ?_,h1,h2,h3⟩;rw[ho]at ZU;rw[hW]at hp;cases ZU with
 |ret VY=>exact⟨_,s.n,s.H,μ',he,hp,VY,hb,xT ZX hF Zm hs (dF l),⟨hp.os,hp.tape,hp.output,hp.grow,fun b hb=>hp.frame b hb fun i hi=>by simp at hi⟩⟩
end Go.CE

namespace Go.CE
open Go Go.RowKit

def H4:Obj->Obj->Bool
 | .cells a t (x,y),.cells b u (z,v)=>H5 (DT 1) a.toList b.toList && Lf t u && Lf x z && Lf y v
 |_,_=>false
theorem xM{a b:Obj}(h:H4 a b=true):a=b:=by
 unfold H4 at h;split at h
 ·simp only[YB]at h;obtain⟨⟨⟨h1,h2⟩,h3⟩,h4⟩:=h;rw[Array.ext' (Yc (UU 1) _ _ h1),YE h2,YE h3,YE h4]
 ·cases h
def hasAll(H:Qt):Qt->Bool
 |[]=>true
 |(i,o)::l=>(match Qw H i with|some x=>H4 x o|none=>false) && hasAll H l
theorem Pr{H:Qt}:∀{l:Qt},hasAll H l=true->∀i o,Qw l i=some o->Qw H i=some o
 |[],_,i,o,ho=>by cases ho
 |(k,x)::l,h,i,o,ho=>by
  simp only[hasAll,YB]at h;rw[QV]at ho;by_cases e:i=k
  ·subst e;rw[if_pos rfl]at ho;simp only[YO]at ho;subst ho;have h1:=h.1;split at h1
   ·rename_i y hy;rw[hy,xM h1]
   ·cases h1
  ·rw[if_neg e]at ho;exact Pr h.2 i o ho
structure Memo where
 g:FuncId
 args:Array Value
 H0:Qt
 n:Nat
 out:Value
 news:Qt
 n':Nat
def within(n n':Nat)(l:Qt):Bool:=l.all fun x=>LR n x.1 && Lr x.1 n'
def QR(m:Memo)(x:Option Rs):Bool:=match x with
 |some ⟨.ret v,H,n',R,[]⟩=>DT 3 v m.out && Lf n' m.n' && hasAll H m.news && within m.n m.n' m.news && within 0 m.n m.H0 && R.all (fun i=>LR m.n i || (Qw m.H0 i).isSome)
 |_=>false
noncomputable def Memo.run(P:Program)(F:FuncId->Bool)(Xu:WW)(fuel:Nat)(m:Memo):Option Rs:=ou P F Xu fuel m.g m.args m.H0 m.n
def XS:List Memo->WW
 |[],_,_,_,_=>none
 |m::l,g,args,H,n=>bif Lf m.n n && Lf m.g g && H5 (DT 1) args.toList m.args.toList && hasAll H m.H0 then some ⟨.ret m.out,m.news++H,m.n',m.H0.map (·.1),[]⟩else XS l g args H n
theorem ZI:∀(l H:Qt) (i:Nat),Qw (l++H) i=match Qw l i with|some o=>some o|none=>Qw H i
 |[],H,i=>rfl
 |(k,o)::l,H,i=>by
  rw[List.cons_append,QV,QV];by_cases e:i=k
  ·rw[if_pos e,if_pos e]
  ·rw[if_neg e,if_neg e];exact ZI l H i
theorem dB{n n':Nat}:∀{l:Qt},within n n' l=true->∀i o,Qw l i=some o->n<=i/\i<n'
 |[],_,i,o,ho=>by cases ho
 |(k,x)::l,h,i,o,ho=>by
  simp only[within,List.all_cons,YB]at h;rw[QV]at ho;by_cases e:i=k
  ·subst e;exact⟨YL h.1.1,YL h.1.2⟩
  ·rw[if_neg e]at ho;exact dB h.2 i o ho
theorem WU{n n':Nat}{l:Qt}(h:within n n' l=true){i:Nat}(hi:i<n\/n'<=i):Qw l i=none:=by
 cases hg:Qw l i with
 |none=>rfl
 |some o=>have:=dB h i o hg;omega
theorem fR{l:Qt}{i:Nat}{o:Obj}(h:Qw l i=some o):i∈l.map (·.1):=by
 induction l with
 |nil=>cases h
 |cons p l ih=>
  obtain⟨k,x⟩:=p;rw[QV]at h;by_cases e:i=k
  ·subst e;simp
  ·rw[if_neg e]at h;exact Lt _ (ih h)
theorem iM{m:Memo}{x:Option Rs}(h:QR m x=true):∃H R,x=some ⟨.ret m.out,H,m.n',R,[]⟩/\(∀i o,Qw m.news i=some o->Qw H i=some o)/\within m.n m.n' m.news=true/\within 0 m.n m.H0=true/\∀i∈R,i<m.n->∃o,Qw m.H0 i=some o:=by
 unfold QR at h;split at h
 ·rename_i v H n' R;simp only[YB]at h;obtain⟨⟨⟨⟨⟨h1,h2⟩,h3⟩,h4⟩,h5⟩,h6⟩:=h;refine⟨H,R,by rw[UU 3 _ _ h1,YE h2],Pr h3,h4,h5,fun i hi hl=> ?_⟩;have:=List.all_eq_true.1 h6 i hi;simp only[Bool.or_eq_true]at this;rcases this with h|h
  ·have:=YL h;omega
  ·exact Option.isSome_iff_exists.1 h
 ·cases h
theorem QU{P:Program}{F:FuncId->Bool}{Xu:WW}{B:Lo}(hF:∀g,F g=true->Q6 P g=true)(Zm:P.follows .mixedOrders=true)(ZX:Ws P B Xu){fuel:Nat}{m:Memo}{l:List Memo}(hm:QR m (m.run P F Xu fuel)=true)(hl:Ws P B (XS l)):Ws P B (XS (m::l)):=by
 intro g args H n s hu h;simp only[XS]at h;cases hq:(Lf m.n n && Lf m.g g && H5 (DT 1) args.toList m.args.toList && hasAll H m.H0)with
 |false=>
  rw[hq]at h;exact hl g args H n s hu h
 |true=>
  rw[hq]at h;simp only[cond_true,YO]at h;simp only[YB]at hq;obtain⟨⟨⟨q1,q2⟩,q3⟩,q4⟩:=hq;obtain rfl:=YE q1;obtain rfl:=YE q2;obtain rfl:=Array.ext' (Yc (UU 1) _ _ q3);have hH:=Pr q4;subst h;obtain⟨Hs,R,VU,hnews,hw,hw0,hR0⟩:=iM hm;obtain⟨c,hc,hr⟩:=dA VU;have hu0:Under m.H0 m.n:=fun i hi=>WU hw0 (.inr hi)
  obtain⟨Rr,Wr,hfj,a1,a2,a3,a4⟩:=YZ (B:=B) hF Zm ZX fuel m.n c m.H0 m.n [] [] _ hu0 (fun i hi=>by simp at hi) (fun i hi=>by simp at hi) hr;have hfj:=hfj.lists (fun i hi=>by simpa using a1 i hi) (fun i hi=>by simpa using a2 i hi) a4;have hle:m.n<=m.n':=hfj.shape.le;have SZ:∀i,i<m.n\/m.n'<=i->Qw (m.news++H) i=Qw H i:=fun i hi=>by
   rw[ZI,WU hw hi]
  have Ku:∀i o,m.n<=i->Qw (m.news++H) i=some o->Qw Hs i=some o:=by
   intro i o h1 h2;rw[ZI]at h2;cases hg:Qw m.news i with
   |some x=>
    rw[hg]at h2;rw[hnews i x hg];exact h2
   |none=>
    rw[hg,hu i h1]at h2;cases h2
  refine⟨⟨hle,fun i hi _=>SZ i (.inl hi),fun i hi=>SZ i (.inr hi),fun _ h=>by simp at h,fun _ h=>by simp at h⟩,fun S μ w args' cs QE hB hS hf hv hR=> ?_⟩;simp only at hf hR ⊢;have hok0:Ok B (fun i=>S i/\∃o,Qw m.H0 i=some o) μ (Qw m.H0) w:=by
   refine⟨fun i o hi ho hl=>QE.rel i o hi.1 (hH i o ho) hl,fun i o im hi ho hl=>QE.low i o im hi.1 (hH i o ho) hl,fun i j oi oj a b hi hj TS Wc Wb=>QE.inj i j oi oj a b hi.1 hj.1 TS (hH i oi Wc) (hH j oj Wb),
    fun i o hi ho=>QE.P1 i o hi.1 (hH i o ho),fun i j oi oj a b x hi hj Wc Wb=>QE.sep i j oi oj a b x hi.1 hj.1 (hH i oi Wc) (hH j oj Wb)⟩
  obtain⟨Zg,w',μ',hp,ho,he⟩:=hfj.sem _ μ w _ cs hok0 hB (fun i hi=>hS i hi.1) hf (UL hc hv) (fun i hi hl=>by
   obtain⟨o,ho⟩:=hR0 i hi hl;exact⟨hR i (fR ho) hl,o,ho⟩)
  simp only at hp ho;have hold:∀i im,S i->μ i=some im->μ' i=some im:=fun i im hi h=>by
   have:=hS i hi;rw[hp.ext i (by omega)];exact h
  have hext:Ext μ μ':=hp.mu hf;have XF:∀i im o,m.n<=i->i<m.n'->Qw (m.news++H) i=some o->live o->μ' i=some im->im.rw=true/\w.heap.size<=im.Zt:=by
   intro i im o h1 h2 h3 h4 h5;obtain⟨x,y⟩:=hp.fresh i im o h1 h2 (Ku i o h1 h3) h4 h5;exact⟨x,y.elim id fun⟨k,hk,_⟩=>by simp at hk⟩
  have hOld:∀i o,S i->Qw (m.news++H) i=some o->live o->∃im,μ i=some im/\μ' i=some im/\Qw H i=some o/\im.Zt<w.heap.size:=by
   intro i o hi ho hl;have:=hS i hi;rw[SZ i (.inl this)]at ho;obtain⟨im,QK,_⟩:=QE.rel i o hi ho hl;exact⟨im,QK,hold i im hi QK,ho,(QE.low i o im hi ho hl QK).1⟩
  refine⟨Zg,w',μ',⟨⟨fun i o hi ho hl=> ?_,fun i o im hi ho hl QK=> ?_,fun i j oi oj a b hi hj TS Wc Wb hli Ud ha hb hra Ym=> ?_,fun i o hi ho hr=> ?_,fun i j oi oj a b x hi hj Wc Wb Pa Ud ha hb Ym hx=> ?_⟩,hle,hp.ext,fun i hi _=>SZ i (.inl hi),hp.grow,fun b hb _=>hp.frame b hb fun i hi=>by simp at hi,fun i hi=>by simp at hi,
   fun i im o h1 h2 h3 h4 h5=>⟨(XF i im o h1 h2 h3 h4 h5).1,.inl (XF i im o h1 h2 h3 h4 h5).2⟩,fun i im o hi ho hr hm b x hx=> ?_,hp.os,hp.tape,hp.output⟩,ho,he⟩
  ·rcases hi with hi|hi
   ·obtain⟨im,QK,QS,Kt,Xp⟩:=hOld i o hi ho hl;obtain⟨im2,WS,hr2⟩:=QE.rel i o hi Kt hl;rw[QK]at WS;cases WS;exact⟨im,QS,hr2.keep hext (hp.frame _ Xp fun i hi=>by simp at hi)⟩
   ·exact hp.ok.rel i o (.inr hi) (Ku i o hi.1 ho) hl
  ·rcases hi with hi|hi
   ·obtain⟨im2,WS,QS,Kt,Xp⟩:=hOld i o hi ho hl;rw[QK]at QS;cases QS;exact⟨Nat.lt_of_lt_of_le Xp hp.grow,(QE.low i o im hi Kt hl WS).2⟩
   ·exact hp.ok.low i o im (.inr hi) (Ku i o hi.1 ho) hl QK
  ·rcases hi with hi|hi <;> rcases hj with hj|hj
   ·obtain⟨im,h1,h2,h3,_⟩:=hOld i oi hi Wc hli;obtain⟨jm,k1,k2,k3,_⟩:=hOld j oj hj Wb Ud;rw[ha]at h2;cases h2;rw[hb]at k2;cases k2;exact QE.inj i j oi oj a b hi hj TS h3 k3 hli Ud h1 k1 hra Ym
   ·obtain⟨im,h1,h2,h3,h4⟩:=hOld i oi hi Wc hli;rw[ha]at h2;cases h2;have:=(XF j b oj hj.1 hj.2 Wb Ud hb).2;omega
   ·obtain⟨im,h1,h2,h3,h4⟩:=hOld j oj hj Wb Ud;rw[hb]at h2;cases h2;have:=(XF i a oi hi.1 hi.2 Wc hli ha).2;omega
   ·exact hp.ok.inj i j oi oj a b (.inr hi) (.inr hj) TS (Ku i oi hi.1 Wc) (Ku j oj hj.1 Wb) hli Ud ha hb hra Ym
  ·rcases hi with hi|hi
   ·have:=hS i hi;rw[SZ i (.inl this)]at ho;obtain⟨im,QK,hf⟩:=QE.P1 i o hi ho hr;exact⟨im,hold i im hi QK,fun b x hx=>by rw[hp.frame b (PI QE hi ho hr QK hx) fun i hi=>by simp at hi];exact hf b x hx⟩
   ·exact hp.ok.P1 i o (.inr hi) (Ku i o hi.1 ho) hr
  ·have oldR:∀i oi a,S i->Qw (m.news++H) i=some oi->μ' i=some a->Wa oi->Qw H i=some oi/\μ i=some a:=by
    intro i oi a hi Wc ha hr;have:=hS i hi;rw[SZ i (.inl this)]at Wc;rw[hp.ext i (by omega)]at ha;exact⟨Wc,ha⟩
   rcases hi with hi|hi <;> rcases hj with hj|hj
   ·obtain⟨h1,h2⟩:=oldR i oi a hi Wc ha Pa;obtain⟨jm,k1,k2,k3,_⟩:=hOld j oj hj Wb Ud;rw[hb]at k2;cases k2;exact QE.sep i j oi oj a b x hi hj h1 k3 Pa Ud h2 k1 Ym hx
   ·obtain⟨h1,h2⟩:=oldR i oi a hi Wc ha Pa;have:=(XF j b oj hj.1 hj.2 Wb Ud hb).2;have:=PI QE hi h1 Pa h2 hx;omega
   ·obtain⟨jm,k1,k2,k3,k4⟩:=hOld j oj hj Wb Ud;rw[hb]at k2;cases k2;rcases hp.rf i a oi (.inl hi) (Ku i oi hi.1 Wc) Pa ha b.Zt x hx with e|⟨k,UT,ko,hSk,_,hko,hkr,hkm,hkb⟩|⟨k,hk,_⟩
    ·omega
    ·exact QE.sep k j ko oj UT b x hSk.1 hj (hH k ko hko) k3 hkr Ud hkm k1 Ym hkb
    ·simp at hk
   ·exact hp.ok.sep i j oi oj a b x (.inr hi) (.inr hj) (Ku i oi hi.1 Wc) (Ku j oj hj.1 Wb) Pa Ud ha hb Ym hx
  ·have Rw:m.n<=i/\i<m.n':=hi.elim id fun h=>by simp at h
   rcases hp.rf i im o (.inl Rw) (Ku i o Rw.1 ho) hr hm b x hx with e|⟨k,UT,ko,hSk,hkn,hko,c⟩|⟨k,hk,_⟩
   ·exact .inl e
   ·exact .inr (.inl ⟨k,UT,ko,hSk.1,hkn,hH k ko hko,c⟩)
   ·simp at hk
theorem Zf(P:Program)(B:Lo):Ws P B (XS []):=fun _ _ _ _ _ _ h=>by cases h
end Go.CE

namespace Go.CE
open Go Go.RowKit
noncomputable section

section
variable {P:Program} {fr:Frame} {cs:List Frame} {w:World} {A:Array Value} {ops:Array Oper} {i:Nat} {l:List Nat} {k:List Item} {o:Oper}
theorem step_defer{c:Call}{f:Operand}{d:Deferred}(hm:fr.mode=.run)(hr:fr.roundOf=none)(ho:ops[i]? =some o)(hw:Region.wanted o (yielded ops A)=true)(Zj:o.op=.defer c)(hc:c.callee=.value f)
 (hd:(Deferred.ofValue ((Xw fr A ops (i::l) k).eval f) (c.args.map (Xw fr A ops (i::l) k).eval)).run P w=.ok d w):
 step P (lone (Xw fr A ops (i::l) k) cs w)=.next (lone {(Xw fr A ops (i::l) k).finish undef with defers:=d::fr.defers} cs w):=by
 refine step_lone_go ?_;have he:(Xw fr A ops (i::l) k).oper? =some o:=by simp[Frame.oper?,Xw,ho]
 simp only[stepG,show(Xw fr A ops (i::l) k).mode=.run from hm];unfold stepG.exec;simp only[Xw,ho,LL,hw,Option.getD_some,if_true];unfold stepG.oper;simp only[Frame.oper?,ho,hr];unfold stepG.apply;simp only[Xw,hr]at hd;simp[execOp,Zj,resolve,hc,hd,Sem.runT_eq,Frame.finish,ho]
theorem qB{cal:Frame}{c:Call}{v:Value}(hm:fr.mode=.run)(hk:fr.kind=.deferred)(hr:fr.roundOf=none)(ho:ops[i]? =some o)(hw:Region.wanted o (yielded ops A)=true)(Zj:o.op=.call c)(hc:c.callee=.builtin .recover)(ha:c.args=#[])
 (hcal:cal.mode=.panicking [{v,recovered:=false}]):
 step P (lone (Xw fr A ops (i::l) k) (cal::cs) w)=.next (lone ((Xw fr A ops (i::l) k).finish v) ({cal with mode:=.panicking [{v,recovered:=true}]}::cs) w):=by
 refine step_lone_go ?_;simp only[stepG,show(Xw fr A ops (i::l) k).mode=.run from hm];unfold stepG.exec;simp only[Xw,ho,LL,hw,Option.getD_some,if_true];unfold stepG.oper;simp only[Frame.oper?,ho,hr];unfold stepG.apply;simp[execOp,Zj,resolve,hc,ha,invoke,builtin,Sem.runT_eq,tryRecover,hk,hcal,Frame.finish,ho]
theorem gi{cal:Frame}{c:Call}(hm:fr.mode=.run)(hr:fr.roundOf=none)(ho:ops[i]? =some o)(hw:Region.wanted o (yielded ops A)=true)(Zj:o.op=.call c)(hc:c.callee=.builtin .recover)(ha:c.args=#[])(hk:fr.kind=.deferred)
 (hcal:cal.mode=.returning):
 step P (lone (Xw fr A ops (i::l) k) (cal::cs) w)=.next (lone ((Xw fr A ops (i::l) k).finish .nilIface) (cal::cs) w):=by
 refine step_lone_go ?_;simp only[stepG,show(Xw fr A ops (i::l) k).mode=.run from hm];unfold stepG.exec;simp only[Xw,ho,LL,hw,Option.getD_some,if_true];unfold stepG.oper;simp only[Frame.oper?,ho,hr];unfold stepG.apply;simp[execOp,Zj,resolve,hc,ha,invoke,builtin,Sem.runT_eq,tryRecover,hk,hcal,Frame.finish,ho]
theorem cJ{g:FuncId}{args:Array Value}{d:Deferred}{ds:List Deferred}{fn:Fn}{ys:Array Value}(hm:fr.mode≠.run)(hd:fr.defers=d::ds)(ht:d.target=.fn fn ys)(hi:(invoke d.target d.args).run P w=.ok (.enter g args) w):
 step P (lone fr cs w)=.next (lone (Frame.enter P g args .deferred) ({fr with defers:=ds}::cs) w):=by
 obtain⟨t,a⟩:=d;simp only at ht;subst ht;refine step_lone_go ?_;cases hmode:fr.mode with
 |run=>exact absurd hmode hm
 |returning=>simp[stepG,unwind,hd,callDeferred,hmode,Sem.runT_eq,hi]
 |panicking ch=>simp[stepG,unwind,hd,callDeferred,hmode,Sem.runT_eq,hi]
def HZ(cal:Frame):Frame:=match cal.mode with
 | .panicking [{recovered:=true,..}]=>{cal with mode:=.returning}
 |_=>cal
theorem dK{cal:Frame}{fn:Func}{v:Value}(hm:fr.mode=.returning)(hd:fr.defers=[])(hk:fr.kind=.deferred)(hf:P.funcs[fr.fn]? =some fn)(hr:(results fn fr.tmps).run P w=.ok v w)
 (hcal:cal.mode=.returning\/∃v,cal.mode=.panicking [{v,recovered:=true}]):
 step P (lone fr (cal::cs) w)=.next (lone {cal with mode:=.returning} cs w):=by
 refine step_lone_go ?_;rcases hcal with h|⟨v,h⟩
 ·have:cal={cal with mode:=.returning}:=by cases cal;simp_all
  rw[<-this];simp[stepG,unwind,doReturn,hm,hd,hk,hf,Sem.runT_eq,hr,h]
 ·simp[stepG,unwind,doReturn,hm,hd,hk,hf,Sem.runT_eq,hr,h]
end

def NN(o:Oper):Bool:=match o.op with
 | .defer _=>true
 | .call c=>match c.callee with
   | .builtin .recover=>true
   |_=>false
 |_=>false
def bz:List Oper->List Oper×List Oper
 |[]=>([],[])
 |o::l=>bif NN o then([],o::l)else(o::(bz l).1,(bz l).2)
theorem kF:∀l:List Oper,(bz l).1++(bz l).2=l
 |[]=>rfl
 |o::l=>by
  simp only[bz];cases NN o with
  |true=>rfl
  |false=>simp[kF l]
def E5(P:Program)(F:FuncId->Bool)(Xu:WW)(fuel:Nat):CF->Qt->Nat->Option Rs:=fun c H n=>
 CF.rec (fun fn T todo ds mode ro=>CM.rec (Tm.rec (fun len tr=>bh P F Xu fuel n fn len tr todo ds ro H n [] []) T) none (fun _=>none) mode) c
theorem cL{P:Program}{F:FuncId->Bool}{Xu:WW}{B:Lo}(hF:∀g,F g=true->Q6 P g=true)(Zm:P.follows .mixedOrders=true)(ZX:Ws P B Xu)(fuel:Nat):gZ P B (E5 P F Xu fuel):=by
 intro c H n s hu h;have hr:oK P F Xu fuel n c H n [] []=some s:=by
  unfold E5 at h;obtain⟨fn,⟨len,tr⟩,todo,ds,mode,ro⟩:=c;cases mode with
  |run=>
   rw[<-nV,<-nW];exact h
  |ret=>cases h
  |We v=>cases h
 obtain⟨Rr,Wr,hfj,a1,a2,a3,a4⟩:=YZ hF Zm ZX fuel n c H n [] [] s hu (fun i hi=>by simp at hi) (fun i hi=>by simp at hi) hr;exact hfj.lists (fun i hi=>by simpa using a1 i hi) (fun i hi=>by simpa using a2 i hi) a4
structure MS where
 c:CF
 H:Qt
 n:Nat
 R:List Nat
 W:List Nat
def NX(c:CF):Bool:=match c.todo with
 | .code (.region _ ops false)::_=>ops.toList.any NN
 |_=>false
def mB(P:Program)(F:FuncId->Bool)(Xu:WW)(fu:Nat)(b:Nat):Nat->MS->Option MS
 |0,_=>none
 |k+1,m=>
  bif (match m.c.mode with| .run=>NX m.c|_=>m.c.defers.isEmpty)then some m else
  match RV P F Xu (E5 P F Xu fu) m.c m.H m.n with
  |some (.go c' H' n' R' W')=>mB P F Xu fu b k ⟨c',H',n',ZT b R' m.R,ZT b W' m.W⟩
  |_=>none
structure SpR where
 T:Tm
 H:Qt
 n:Nat
 o:Oper
 post:List Oper
 Qz:List Rec
def sZ(P:Program)(F:FuncId->Bool)(Xu:WW)(fu:Nat)(ops:Array Oper)(c:CF)(H:Qt)(n:Nat):Option SpR:=
 match bz ops.toList with
 |(pre,o::post)=>match gq P F Xu (E5 P F Xu fu) ops pre c.tmps H n with
  |some (Qz,.ok T H' n')=>bif Rq T o.dst && Region.wanted o (XO ops T)then some ⟨T,H',n',o,post,Qz⟩else none
  |_=>none
 |_=>none
def GF:CM->Option Value
 | .run=>none
 | .ret=>some .nilIface
 | .We v=>some v
def kM(P:Program)(F:FuncId->Bool)(Xu:WW)(fu:Nat)(b:Nat)(g:FuncId)(args:Array Value)(pv:Value)(H:Qt)(n:Nat)(R W:List Nat):Option MS:=
 match ZY P g args with
 |some cd=>match mB P F Xu fu b 10000 ⟨cd,H,n,R,W⟩with
  |some m1=>match m1.c.mode,m1.c.todo with
   | .run,.code (.region _ ops false)::todo=>match sZ P F Xu fu ops m1.c m1.H m1.n with
     |some s=>match s.o.op with
      | .call c=>match c.callee with
        | .builtin .recover=>bif c.args.isEmpty then
         match gq P F Xu (E5 P F Xu fu) ops s.post (VB s.T s.o.dst pv) s.H s.n with
         |some (recs2,.ok T2 H2 n2)=>match mB P F Xu fu b 10000 ⟨{m1.c with tmps:=T2,todo:=todo},H2,n2,ZT b (Y5 recs2) (ZT b (Y5 s.Qz) m1.R),ZT b (Ub recs2) (ZT b (Ub s.Qz) m1.W)⟩with
          |some m2=>match m2.c.mode,m2.c.defers,tt P m2.c.fn m2.H m2.c.tmps with
           | .ret,[],some (_,R3)=>some ⟨m2.c,m2.H,m2.n,ZT b R3 m2.R,m2.W⟩
           |_,_,_=>none
          |none=>none
         |_=>none
          else none
        |_=>none
      |_=>none
     |none=>none
   |_,_=>none
  |none=>none
 |none=>none
def HF(P:Program)(F:FuncId->Bool)(Xu:WW)(fu:Nat)(f:FuncId)(args:Array Value)(H:Qt)(n:Nat):Option Rs:=
 match ZY P f args with
 |some c0=>match mB P F Xu fu n 10000 ⟨c0,H,n,[],[]⟩with
  |some m1=>match m1.c.mode,m1.c.todo,m1.c.defers with
   | .run,.code (.region _ ops false)::todo,[]=>match sZ P F Xu fu ops m1.c m1.H m1.n with
     |some s=>match s.o.op,s.post with
      | .defer c,[]=>match c.callee with
        | .value x=>match Zd s.T x with
          |some (.func (.func g) xs ys)=>bif c.args.isEmpty && F g then
           match mB P F Xu fu n 100000 ⟨{m1.c with tmps:=VB s.T s.o.dst undef,todo:=todo},s.H,s.n,ZT n (Y5 s.Qz) m1.R,ZT n (Ub s.Qz) m1.W⟩with
           |some m2=>match GF m2.c.mode,m2.c.defers with
            |some pv,[]=>match kM P F Xu fu n g (xs++ys) pv m2.H m2.n m2.R m2.W with
             |some m3=>match tt P m2.c.fn m3.H m2.c.tmps with
              |some (v,R4)=>some ⟨.ret v,m3.H,m3.n,ZT n R4 m3.R,m3.W⟩
              |none=>none
             |none=>none
            |_,_=>none
           |none=>none
            else none
          |_=>none
        |_=>none
      |_,_=>none
     |none=>none
   |_,_,_=>none
  |none=>none
 |none=>none

section
variable {P:Program} {F:FuncId->Bool} {Xu:WW} {B:Lo}
theorem GoJ.refl(c:CF)(H:Qt)(n:Nat):GoJ P B c H n c H n [] []:=⟨Shape.same _ _ _,fun _ μ w fr _ _ QE _ _ _ XF _=>⟨fr,w,μ,Post.refl QE,XF,rfl,rfl,Steps.refl _ _⟩⟩
theorem GoJ.trans{c c' c'':CF}{H H' H'':Qt}{n n' n'':Nat}{R R' W W':List Nat}(h:GoJ P B c H n c' H' n' R W)(k:GoJ P B c' H' n' c'' H'' n'' R' W'):GoJ P B c H n c'' H'' n'' (R++R') (W++W'):=by
 refine⟨h.shape.trans k.shape,fun S μ w fr cs Z QE hB hS hf XF hR=> ?_⟩;have l1:=h.shape.le;have l2:=k.shape.le;obtain⟨Sw,w1,μ1,hp,Rz,hr,hfn,Zh⟩:=h.sem S μ w fr cs Z QE hB hS (fun q a b=>hf q a (by omega)) XF (fun q hq Xp=>hR q (Ln _ hq) Xp);obtain⟨fr2,w2,μ2,Sm,hfr2,hr2,hfn2,hst2⟩:=k.sem _ μ1 w1 Sw cs Z hp.ok (hB.post QE hp) (fun q hq=>hq.elim (fun e=>by have:=hS q e;omega) (fun e=>e.2))
  (fun q a b=>by rw[hp.ext q (by omega)];exact hf q (by omega) b) Rz (fun q hq Xp=>by
   rcases LK q n with h1|h1
   ·exact .inl (hR q (Lw _ hq) h1)
   ·exact .inr ⟨h1,Xp⟩)
 exact⟨fr2,w2,μ2,hp.trans Sm,hfr2,hr2.trans hr,hfn2.trans hfn,Zh.trans hst2⟩
theorem Rn(hF:∀g,F g=true->Q6 P g=true)(Zm:P.follows .mixedOrders=true)(ZX:Ws P B Xu){fu b:Nat}:∀(k:Nat) (m m':MS),Under m.H m.n->mB P F Xu fu b k m=some m'->
 ∃R W,GoJ P B m.c m.H m.n m'.c m'.H m'.n R W/\(∀i,i<b->(i∈m'.R<->i∈m.R\/i∈R))/\(∀i,i<b->(i∈m'.W<->i∈m.W\/i∈W))
 |0,m,m',hu,h=>by simp[mB]at h
 |k+1,m,m',hu,h=>by
  simp only[mB]at h;cases hq:(match m.c.mode with| .run=>NX m.c|_=>m.c.defers.isEmpty)with
  |true=>
   rw[hq]at h;simp only[cond_true,YO]at h;subst h;exact⟨[],[],GoJ.refl _ _ _,fun i _=>by simp,fun i _=>by simp⟩
  |false=>
   rw[hq]at h;simp only[cond_false]at h;split at h
   ·rename_i c' H' n' R' W' hs;have SZ:GoJ P B m.c m.H m.n c' H' n' R' W':=Vw hF Zm ZX (cL hF Zm ZX fu) hu hs;obtain⟨R,W,h1,h2,h3⟩:=Rn hF Zm ZX k ⟨c',H',n',ZT b R' m.R,ZT b W' m.W⟩ m' (hu.shape SZ.shape) h;refine⟨_,_,SZ.trans h1,fun i hi=> ?_,fun i hi=> ?_⟩
    ·rw[h2 i hi,Z5 hi,List.mem_append,or_assoc]
    ·rw[h3 i hi,Z5 hi,List.mem_append,or_assoc]
   ·cases h
structure Sofar (B:Lo) (S:Nat->Prop) (n N:Nat) (W:List Nat) (μ0 μ:Mu) (H0 H:Qt) (m:Nat) (w0 w:World):Prop where
 post:Post B S n m W μ0 μ H0 H w0 w
 has:B.has w
 free:P0 μ m N
variable {S:Nat->Prop} {n N m m2:Nat} {W W2 R2:List Nat} {μ0 μ:Mu} {H0 H H2:Qt} {w0 w:World}
theorem Sofar.goj(s:Sofar B S n N W μ0 μ H0 H m w0 w)(hS:∀i,S i->i<n){c c':CF}(h:GoJ P B c H m c' H2 m2 R2 W2)(hN:m2<=N)(hR:∀i∈R2,i<n->S i){Z:Bot}{fr:Frame}(XF:FrR Z μ c fr)(cs:List Frame):
 ∃fr' w' μ',Sofar B S n N (W++W2) μ0 μ' H0 H2 m2 w0 w'/\FrR Z μ' c' fr'/\fr'.roundOf=fr.roundOf/\fr'.fn=fr.fn/\Steps P (lone fr cs w) (lone fr' cs w')/\Ext μ μ':=by
 have l1:=s.post.le;have l2:=h.shape.le;have hf:P0 μ m m2:=fun q a b=>s.free q a (by omega)
 obtain⟨fr',w',μ',hp,h1,h2,h3,h4⟩:=h.sem _ μ w fr cs Z s.post.ok s.has (fun i hi=>hi.elim (fun e=>by have:=hS i e;omega) (fun e=>e.2)) hf XF
  (fun q hq Xp=>by
   rcases LK q n with h1|h1
   ·exact .inl (hR q hq h1)
   ·exact .inr ⟨h1,Xp⟩)
 exact⟨fr',w',μ',⟨s.post.trans hp,s.has.post s.post.ok hp,fun q a b=>by rw[hp.ext q (by omega)];exact s.free q (by omega) b⟩,h1,h2,h3,h4,hp.mu hf⟩
theorem Sofar.seq(s:Sofar B S n N W μ0 μ H0 H m w0 w)(hS:∀i,S i->i<n){ops:Array Oper}{Qz:List Rec}{len:Nat}{T T2:Tm}(Sq:Yf Qz T H m T2 H2 m2)(hs:∀r∈Qz,cn len r)(hk:∀r∈Qz,Se P B ops r)(i:Nat)
 (ho:∀(j:Nat) r,Qz[j]? =some r->ops[i+j]? =some r.o) (hl:T.len=len) (hN:m2<=N) (hR:∀i∈Y5 Qz,i<n->S i) {fr:Frame} {A:Array Value} (hm:fr.mode=.run) (hT:TR μ T A) (rest:List Nat) (k:List Item) (cs:List Frame):
 ∃A' w' μ',Sofar B S n N (W++Ub Qz) μ0 μ' H0 H2 m2 w0 w'/\TR μ' T2 A'/\Ext μ μ'/\Steps P (lone (Xw fr A ops (LM i Qz.length++rest) k) cs w) (lone (Xw fr A' ops rest k) cs w'):=by
 have l1:=s.post.le;have l2:=(ZZ Qz _ _ _ _ _ _ Sq hs).le;have hf:P0 μ m m2:=fun q a b=>s.free q a (by omega)
 obtain⟨μ',A',w',hp,h1,h2⟩:=b5 (fr:=fr) (cs:=cs) (k:=k) hm Qz i T H m T2 H2 m2 rest Sq hs hk ho hl _ μ w A s.post.ok s.has (fun i hi=>hi.elim (fun e=>by have:=hS i e;omega) (fun e=>e.2)) hf
  (fun q hq Xp=>by
   rcases LK q n with h1|h1
   ·exact .inl (hR q hq h1)
   ·exact .inr ⟨h1,Xp⟩) hT
 exact⟨A',w',μ',⟨s.post.trans hp,s.has.post s.post.ok hp,fun q a b=>by rw[hp.ext q (by omega)];exact s.free q (by omega) b⟩,h1,hp.mu hf,h2⟩
theorem ia(hF:∀g,F g=true->Q6 P g=true)(Zm:P.follows .mixedOrders=true)(ZX:Ws P B Xu){fu:Nat}{ops:Array Oper}{c:CF}{H:Qt}{n:Nat}{s:SpR}(hu:Under H n)(h:sZ P F Xu fu ops c H n=some s):
 ∃pre,ops.toList=pre++s.o::s.post/\(∀r∈s.Qz,cn c.tmps.len r)/\(∀r∈s.Qz,Se P B ops r)/\Yf s.Qz c.tmps H n s.T s.H s.n/\s.Qz.map (·.o)=pre/\Under s.H s.n/\Rq s.T s.o.dst=true/\Region.wanted s.o (XO ops s.T)=true:=by
 unfold sZ at h;have he:=kF ops.toList;split at h
 ·rename_i pre o post hsp;rw[hsp]at he;split at h
  ·rename_i Qz T H' n' hr;cases hd:(Rq T o.dst && Region.wanted o (XO ops T))with
   |false=>rw[hd]at h;cases h
   |true=>
    rw[<-ZN h];simp only[YB]at hd;obtain⟨h1,h2,h3,h4,h5⟩:=K1 hF (cL hF Zm ZX fu) ZX (len:=c.tmps.len) pre c.tmps H n Qz _ rfl hu hr;exact⟨pre,he.symm,h1,h2,h3,h4,h5,hd.1,hd.2⟩
  ·cases h
 ·cases h
theorem gU:∀(l:List Rec) (T:Tm) (H:Qt) (n:Nat) (T':Tm) (H':Qt) (n':Nat),Yf l T H n T' H' n'->T'.len=T.len
 |[],T,H,n,T',H',n',h=>by
  obtain⟨rfl,_,_⟩:=h;rfl
 |r::l,T,H,n,T',H',n',h=>by
  obtain⟨_,_,_,h4⟩:=h;rw[gU l _ _ _ _ _ _ h4,Ka]
theorem tq{B:Lo}{S:Nat->Prop}{μ:Mu}{H:Qt}{n:Nat}{w:World}{T:Tm}{A:Array Value}{f:FuncId}{v:Value}{R:List Nat}(hu:Under H n)(QE:Ok B S μ (Qw H) w)(ht:TR μ T A)(hv:tt P f H T=some (v,R))(hR:∀i∈R,i<n->S i):
 ∃fn v',P.funcs[f]? =some fn/\(results fn A).run P w=.ok v' w/\VR μ v v':=by
 unfold tt at hv;rw[ba,Lq]at hv;split at hv
 ·rename_i fn hfn;split at hv
  ·rename_i vs R1 hvs;simp only[YO,YR]at hv;obtain⟨rfl,rfl⟩:=hv;obtain⟨vs',h1,h2⟩:=R9 hu QE ht _ _ _ hvs hR;refine⟨fn,_,hfn, ?_,pZ h2⟩;rw[dR,Array.mapM_eq_mapM_toList];simp only[Sem.run_bind,Sem.run_map,h1,Result.andThen_ok,Sem.run_pure]
  ·cases hv
 ·cases hv
theorem range_split{a b:Nat}{m:Nat}(h:m=a+(b+1)):LM 0 m=LM 0 a++a::LM (a+1) b:=by
 subst h;have:=List.range'_append_1 (s:=0) (m:=a) (n:=b+1);rw[<-this,LD,List.range'_succ]
def BN(μ:Mu)(pv:Value)(cal:Frame):Prop:=(pv=.nilIface/\cal.mode=.returning)\/∃v',VR μ pv v'/\cal.mode=.panicking [{v:=v',recovered:=false}]
theorem qJ(hF:∀g,F g=true->Q6 P g=true)(Zm:P.follows .mixedOrders=true)(ZX:Ws P B Xu){fu b:Nat}{g:FuncId}{args:Array Value}{pv:Value}{R0 W0:List Nat}{m3:MS}(hu:Under H m)(h:kM P F Xu fu b g args pv H m R0 W0=some m3):
 ∃Rr Wr,Shape H m m3.H m3.n Rr Wr/\(∀i,i<b->(i∈m3.R<->i∈R0\/i∈Rr))/\(∀i,i<b->(i∈m3.W<->i∈W0\/i∈Wr))/\
  ∀(S:Nat->Prop) (n N:Nat) (W:List Nat) (μ0 μ:Mu) (H0:Qt) (w0 w:World),Sofar B S n N W μ0 μ H0 H m w0 w->(∀i,S i->i<n)->m3.n<=N->(∀i∈Rr,i<n->S i)->∀(args':Array Value) (cal:Frame) (cs:List Frame),VRs μ args args'->BN μ pv cal->
   ∃w' μ',Sofar B S n N (W++Wr) μ0 μ' H0 m3.H m3.n w0 w'/\Ext μ μ'/\Steps P (lone (Frame.enter P g args' .deferred) (cal::cs) w) (lone {cal with mode:=.returning} cs w'):=by
 unfold kM at h;split at h
 ·rename_i cd hcd;split at h
  ·rename_i m1 hm1;obtain⟨R1,W1,g1,a1,b1⟩:=Rn hF Zm ZX 10000 ⟨cd,H,m,R0,W0⟩ m1 hu hm1;have hu1:Under m1.H m1.n:=hu.shape g1.shape;split at h
   ·rename_i id ops todo hmode1 htodo1;split at h
    ·rename_i s hs;obtain⟨pre,e1,e2,e3,e4,e5,e6,e7,e8⟩:=ia hF Zm ZX hu1 hs;split at h
     ·rename_i c Zj;split at h
      ·rename_i hcal;cases hca:c.args.isEmpty with
       |false=>rw[hca]at h;cases h
       |true=>
        rw[hca]at h;simp only[cond_true]at h;split at h
        ·rename_i recs2 T2 H2 n2 hr2;obtain⟨f1,f2,f3,f4,f5⟩:=K1 hF (cL hF Zm ZX fu) ZX (len:=m1.c.tmps.len) s.post (VB s.T s.o.dst pv) s.H s.n recs2 _ (by rw[Ka];exact gU _ _ _ _ _ _ _ e4) e6 hr2;split at h
         ·rename_i m2 hm2;obtain⟨R7,W7,g7,a7,b7⟩:=Rn hF Zm ZX 10000 _ m2 f5 hm2;simp only at g7 a7 b7;have hu2:Under m2.H m2.n:=f5.shape g7.shape;split at h
          ·rename_i hmode2 hds2 hres;rename_i vres R3;simp only[YO]at h;subst h;have sh4:=ZZ s.Qz _ _ _ _ _ _ e4 e2;have sh5:=ZZ recs2 _ _ _ _ _ _ f3 f1;have shAll:=((g1.shape.trans sh4).trans sh5).trans g7.shape;have hca':c.args=#[]:=by simpa[Array.isEmpty]using hca
           refine⟨(((R1++Y5 s.Qz)++Y5 recs2)++R7)++R3,((W1++Ub s.Qz)++Ub recs2)++W7,⟨shAll.le,shAll.keep,shAll.top,fun i hi=>Ln _ (shAll.sub i hi),shAll.wlt⟩,fun i hi=> ?_,fun i hi=> ?_, ?_⟩
           ·simp only[List.mem_append];rw[Z5 hi,a7 i hi,Z5 hi,Z5 hi,a1 i hi];simp only[or_assoc]
           ·simp only[List.mem_append];rw[b7 i hi,Z5 hi,Z5 hi,b1 i hi];simp only[or_assoc]
           ·intro S n N W μ0 μ H0 w0 w hs0 hS hN hR args' cal cs hv hun;simp only at hN;have l1:=g1.shape.le;have l2:=sh4.le;have l3:=sh5.le;have l4:=g7.shape.le;simp only[List.mem_append]at hR;have hfr0:FrR ⟨[],.deferred⟩ μ cd (Frame.enter P g args' .deferred):=oe .deferred hcd hv;obtain⟨Sw,w1,μ1,s1,Rz,hro1,_,st1,x1⟩:=hs0.goj hS g1 (by omega) (fun i hi=>hR i (.inl (.inl (.inl (.inl hi))))) hfr0 (cal::cs);have hro1:Sw.roundOf=none:=hro1;obtain⟨ha,hb,hd⟩:=Rz.running hmode1;rw[htodo1]at hd;obtain⟨L',hL,hL'⟩:=hd.code;have hlen:ops.size=pre.length+(s.post.length+1):=by
             have:=congrArg Ld e1;simp at this;omega
            have hat:ops[pre.length]? =some s.o:=by
             rw[<-Lq,e1,Lm (LI _)];simp
            have hplen:s.Qz.length=pre.length:=by have:=congrArg Ld e5;simpa using this
            have hown1:∀(j:Nat) r,s.Qz[j]? =some r->ops[0+j]? =some r.o:=by
             intro j r hj;rw[LD];exact K8 (l:=ops.toList) (l2:=s.o::s.post) (by rw[e5];exact e1.symm) rfl j r hj
            obtain⟨A1,w2,μ2,s2,hT2,x2,st2⟩:=s1.seq hS e4 e2 e3 0 hown1 rfl (by omega) (fun i hi=>hR i (.inl (.inl (.inl (.inr hi))))) ha hb (pre.length::LM (pre.length+1) s.post.length) L' (cal::cs);have Rw:step P (lone Sw (cal::cs) w1)=.next (lone (Xw Sw Sw.tmps ops (LM 0 ops.size) L') (cal::cs) w1):=Wp ha hL;rw[range_split hlen]at Rw;rw[hplen]at st2;have Ya:Region.wanted s.o (yielded ops A1)=true:=by rw[Y8 hT2];exact e8
            have hk1:Sw.kind=.deferred:=Rz.kind
            -- the operation itself
            have Vs:∃v' cal1,VR μ2 pv v'/\(cal1.mode=.returning\/∃v,cal1.mode=.panicking [{v,recovered:=true}])/\{cal1 with mode:=.returning}={cal with mode:=FrameMode.returning}/\
             step P (lone (Xw Sw A1 ops (pre.length::LM (pre.length+1) s.post.length) L') (cal::cs) w2)=.next (lone ((Xw Sw A1 ops (pre.length::LM (pre.length+1) s.post.length) L').finish v') (cal1::cs) w2):=by
             rcases hun with ⟨rfl,hret⟩|⟨v',VY,hpan⟩
             ·exact⟨.nilIface,cal,.nilIface,.inl hret,rfl,gi ha hro1 hat Ya Zj hcal hca' hk1 hret⟩
             ·exact⟨v',{cal with mode:=.panicking [{v:=v',recovered:=true}]},(VY.mono x1).mono x2,.inr ⟨v',rfl⟩,rfl,qB ha hk1 hro1 hat Ya Zj hcal hca' hpan⟩
            obtain⟨v',cal1,VY,hcal1,hcalr,st3⟩:=Vs;rw[RX hat]at st3;have hdst:=Rp e7;have hT3:TR μ2 (VB s.T s.o.dst pv) (putA A1 v' s.o.dst):=hT2.putA hdst VY;have hown2:∀(j:Nat) r,recs2[j]? =some r->ops[pre.length+1+j]? =some r.o:=by
             intro j r hj;have e:(recs2.map (·.o))[j]? =some r.o:=by rw[LF,hj];rfl
             rw[f4]at e;rw[<-Lq,e1,Lm (by omega),show pre.length+1+j-pre.length=j+1 by omega];simpa using e
            have hplen2:recs2.length=s.post.length:=by have:=congrArg Ld f4;simpa using this
            obtain⟨A2,w3,μ3,s3,hT4,x3,st4⟩:=s2.seq hS f3 f1 f2 (pre.length+1) hown2 (by rw[Ka];exact gU _ _ _ _ _ _ _ e4) (by omega) (fun i hi=>hR i (.inl (.inl (.inr hi)))) ha hT3 [] L' (cal1::cs);rw[List.append_nil,hplen2]at st4;have st5:Steps P (lone (Xw Sw A2 ops [] L') (cal1::cs) w3) (lone {Sw with tmps:=A2,todo:=L'} (cal1::cs) w3):=.one (Ug ha);have hfr2:FrR ⟨[],.deferred⟩ μ3 {m1.c with tmps:=T2,todo:=todo} {Sw with tmps:=A2,todo:=L'}:=
             ⟨Rz.fn,hT4,fun _=>(hL'.mono x2).mono x3,(Rz.defers.mono x2).mono x3,(Rz.mode.mono x2).mono x3,Rz.kind,(Rz.round.mono x2).mono x3⟩
            obtain⟨fr3,w4,μ4,s4,hfr3,hro3,_,st6,x4⟩:=s3.goj hS g7 (by omega) (fun i hi=>hR i (.inl (.inr hi))) hfr2 (cal1::cs);have hmode3:fr3.mode=.returning:=by
             have:=hfr3.mode;rw[hmode2]at this;generalize fr3.mode=q at this;cases this;rfl
            have hd3:fr3.defers=[]:=by
             have:=hfr3.defers;rw[hds2]at this;exact this.empty
            obtain⟨fn,vr,hfn,hresr,_⟩:=tq hu2 s4.post.ok hfr3.tmps hres (fun i hi Xp=>by
             rcases LK i n with h1|h1
             ·exact .inl (hR i (.inr hi) h1)
             ·exact .inr ⟨h1,Xp⟩)
            have st7:=dK (cs:=cs) hmode3 hd3 hfr3.kind (by rw[hfr3.fn];exact hfn) hresr hcal1;rw[hcalr]at st7;refine⟨w4,μ4,by simpa[LY]using s4,((x1.trans x2).trans x3).trans x4, ?_⟩;exact st1.trans (.head Rw (st2.trans (.head st3 (st4.trans (st5.trans (st6.trans (.one st7)))))))
          ·cases h
         ·cases h
        ·cases h
      ·cases h
     ·cases h
    ·cases h
   ·cases h
  ·cases h
 ·cases h
theorem fN{fu b:Nat}:∀(k:Nat) (m m':MS),mB P F Xu fu b k m=some m'->(∀i∈m.W,i<b)->∀i∈m'.W,i<b
 |0,m,m',h,hw=>by simp[mB]at h
 |k+1,m,m',h,hw=>by
  simp only[mB]at h;cases hq:(match m.c.mode with| .run=>NX m.c|_=>m.c.defers.isEmpty)with
  |true=>
   rw[hq]at h;simp only[cond_true,YO]at h;subst h;exact hw
  |false=>
   rw[hq]at h;simp only[cond_false]at h;split at h
   ·exact fN k _ m' h (Sd hw)
   ·cases h
theorem Ca{fu b:Nat}{g:FuncId}{args:Array Value}{pv:Value}{H:Qt}{m:Nat}{R0 W0:List Nat}{m3:MS}(h:kM P F Xu fu b g args pv H m R0 W0=some m3)(hw:∀i∈W0,i<b):∀i∈m3.W,i<b:=by
 unfold kM at h;split at h
 ·split at h
  ·rename_i m1 hm1;have w1:=fN 10000 _ m1 hm1 hw;split at h
   ·split at h
    ·split at h
     ·split at h
      ·have h:=Je h;split at h
       ·split at h
        ·rename_i m2 hm2;have w2:=fN 10000 _ m2 hm2 (Sd (Sd w1));split at h
         ·simp only[YO]at h;subst h;exact w2
         ·cases h
        ·cases h
       ·cases h
      ·cases h
     ·cases h
    ·cases h
   ·cases h
  ·cases h
 ·cases h
theorem xO(hF:∀g,F g=true->Q6 P g=true)(Zm:P.follows .mixedOrders=true)(ZX:Ws P B Xu){fu:Nat}{f:FuncId}{args:Array Value}{H:Qt}{n:Nat}{s0:Rs}(hu:Under H n)(h:HF P F Xu fu f args H n=some s0):
 Shape H n s0.H s0.n s0.R s0.W/\∀(S:Nat->Prop) (μ:Mu) (w:World) (args':Array Value) (cs:List Frame),Ok B S μ (Qw H) w->B.has w->(∀i,S i->i<n)->P0 μ n s0.n->VRs μ args args'->(∀i∈s0.R,i<n->S i)->
  ∃Zg w' μ',Post B S n s0.n s0.W μ μ' H s0.H w w'/\OR2 μ' s0.out Zg/\EndsAs P (Frame.enter P f args' .normal) cs w Zg w':=by
 unfold HF at h;split at h
 ·rename_i c0 hc0;split at h
  ·rename_i m1 hm1;obtain⟨R1,W1,g1,a1,b1⟩:=Rn hF Zm ZX 10000 ⟨c0,H,n,[],[]⟩ m1 hu hm1;have hu1:Under m1.H m1.n:=hu.shape g1.shape;split at h
   ·rename_i id ops todo hmode1 htodo1 hds1;split at h
    ·rename_i s hs;obtain⟨pre,e1,e2,e3,e4,e5,e6,e7,e8⟩:=ia hF Zm ZX hu1 hs;split at h
     ·rename_i c Zj Zv;split at h
      ·rename_i x hcal;split at h
       ·rename_i g xs ys hx;cases hca:(c.args.isEmpty && F g)with
        |false=>rw[hca]at h;cases h
        |true=>
         rw[hca]at h;simp only[cond_true]at h;simp only[YB]at hca;split at h
         ·rename_i m2 hm2;obtain⟨R3,W3,g3,a3,b3⟩:=Rn hF Zm ZX 100000 _ m2 e6 hm2;simp only at g3 a3 b3;have hu2:Under m2.H m2.n:=e6.shape g3.shape;split at h
          ·rename_i pv hpv hds2;split at h
           ·rename_i m3 hm3;obtain⟨Rr,Wr,sh3,ar,br,hsem⟩:=qJ (B:=B) hF Zm ZX hu2 hm3;have hu3:Under m3.H m3.n:=hu2.shape sh3;split at h
            ·rename_i v R4 hres;simp only[YO]at h;subst h;have sh2:=ZZ s.Qz _ _ _ _ _ _ e4 e2;have shAll:=((g1.shape.trans sh2).trans g3.shape).trans sh3;have hRiff:∀i,i<n->(i∈ZT n R4 m3.R<->i∈((R1++Y5 s.Qz)++R3)++Rr\/i∈R4):=fun i hi=>by
              rw[Z5 hi,ar i hi,a3 i hi,Z5 hi,a1 i hi];simp only[List.mem_append,List.not_mem_nil,false_or]
             have hWiff:∀i,i<n->(i∈m3.W<->i∈((W1++Ub s.Qz)++W3)++Wr):=fun i hi=>by
              rw[br i hi,b3 i hi,Z5 hi,b1 i hi];simp only[List.mem_append,List.not_mem_nil,false_or]
             have hWlt:∀i∈m3.W,i<n:=Ca hm3 (fN 100000 _ m2 hm2 (Sd (fN 10000 _ m1 hm1 (fun i hi=>by simp at hi))));refine⟨⟨shAll.le,fun i hi hw=>shAll.keep i hi fun e=>hw ((hWiff i hi).2 e),shAll.top,fun i hi=>(hRiff i (hWlt i hi)).2 (.inl (shAll.sub i ((hWiff i (hWlt i hi)).1 hi))),fun i hi=>by have:=hWlt i hi;have:=shAll.le;simp only at *;omega⟩,fun S μ w args' cs QE hB hS hf hv hR=> ?_⟩;simp only at hf hR ⊢;have hR':∀i,i<n->i∈((R1++Y5 s.Qz)++R3)++Rr\/i∈R4->S i:=fun i hi h=>hR i ((hRiff i hi).2 h) hi
             have l1:=g1.shape.le;have l2:=sh2.le;have l3:=g3.shape.le;have l4:=sh3.le;have sf0:Sofar B S n m3.n [] μ μ H H n w w:=⟨Post.refl QE,hB,hf⟩
             have hfr0:FrR Bot.no μ c0 (Frame.enter P f args' .normal):=UL hc0 hv;obtain⟨Sw,w1,μ1,s1,Rz,hro1,hfn1,st1,x1⟩:=sf0.goj hS g1 (by omega) (fun i hi Xp=>hR' i Xp (.inl (Ln _ (Ln _ (Ln _ hi))))) hfr0 cs;have hro1:Sw.roundOf=none:=hro1;obtain⟨ha,hb,hd⟩:=Rz.running hmode1;rw[htodo1]at hd;obtain⟨L',hL,hL'⟩:=hd.code;have hd1:Sw.defers=[]:=by
              have:=Rz.defers;rw[hds1]at this;exact this.empty
             rw[Zv]at e1;have hlen:ops.size=pre.length+(0+1):=by
              have:=congrArg Ld e1;simp at this;omega
             have hat:ops[pre.length]? =some s.o:=by
              rw[<-Lq,e1,Lm (LI _)];simp
             have hplen:s.Qz.length=pre.length:=by have:=congrArg Ld e5;simpa using this
             have hown1:∀(j:Nat) r,s.Qz[j]? =some r->ops[0+j]? =some r.o:=by
              intro j r hj;rw[LD];exact K8 (l:=ops.toList) (l2:=[s.o]) (by rw[e5];exact e1.symm) rfl j r hj
             obtain⟨A1,w2,μ2,s2,hT2,x2,st2⟩:=s1.seq hS e4 e2 e3 0 hown1 rfl (by omega) (fun i hi Xp=>hR' i Xp (.inl (Ln _ (Ln _ (Lw _ hi))))) ha hb (pre.length::LM (pre.length+1) 0) L' cs;have Rw:step P (lone Sw cs w1)=.next (lone (Xw Sw Sw.tmps ops (LM 0 ops.size) L') cs w1):=Wp ha hL;rw[range_split hlen]at Rw;rw[hplen]at st2;have Ya:Region.wanted s.o (yielded ops A1)=true:=by rw[Y8 hT2];exact e8
             have hvx:=qi (fr:=Xw Sw A1 ops (pre.length::LM (pre.length+1) 0) L') hT2 x _ hx;have hca':c.args=#[]:=by simpa[Array.isEmpty]using hca.1
             generalize hgx:(Xw Sw A1 ops (pre.length::LM (pre.length+1) 0) L').eval x=ux at hvx;cases hvx with
             |func q1 q2 q3 q4=>
              rename_i xs' ys';have hdv:(Deferred.ofValue ((Xw Sw A1 ops (pre.length::LM (pre.length+1) 0) L').eval x) (c.args.map (Xw Sw A1 ops (pre.length::LM (pre.length+1) 0) L').eval)).run P w2=.ok {target:=.fn (.func g) ys',args:=xs'} w2:=by
               rw[hgx,hca'];simp[Deferred.ofValue]
              have st3:=step_defer (cs:=cs) (w:=w2) ha hro1 hat Ya Zj hcal hdv;rw[RX hat]at st3;have hdst:=Rp e7;have hT3:TR μ2 (VB s.T s.o.dst undef) (putA A1 undef s.o.dst):=hT2.putA hdst VR.undef
              -- the frame behind the region
              have st4:step P (lone {Xw Sw (putA A1 undef s.o.dst) ops (LM (pre.length+1) 0) L' with defers:={target:=.fn (.func g) ys',args:=xs'}::Sw.defers} cs w2)=
               .next (lone {Sw with tmps:=putA A1 undef s.o.dst,todo:=L',defers:={target:=.fn (.func g) ys',args:=xs'}::Sw.defers} cs w2):=
               Ug (fr:={Sw with defers:={target:=.fn (.func g) ys',args:=xs'}::Sw.defers}) (A:=putA A1 undef s.o.dst) (ops:=ops) (k:=L') ha
              have hfr2:FrR ⟨[{target:=.fn (.func g) ys',args:=xs'}],.normal⟩ μ2 {m1.c with tmps:=VB s.T s.o.dst undef,todo:=todo} {Sw with tmps:=putA A1 undef s.o.dst,todo:=L',defers:={target:=.fn (.func g) ys',args:=xs'}::Sw.defers}:=
               ⟨Rz.fn,hT3,fun _=>hL'.mono x2,by rw[show({m1.c with tmps:=VB s.T s.o.dst undef,todo:=todo}:CF).defers=[]from hds1];exact .of_empty (by simp[hd1]),Rz.mode.mono x2,Rz.kind,Rz.round.mono x2⟩
              obtain⟨fr3,w3,μ3,s3,hfr3,hro3,hfn3,st5,x3⟩:=s2.goj hS g3 (by omega) (fun i hi Xp=>hR' i Xp (.inl (Ln _ (Lw _ hi)))) hfr2 cs;have hd3:fr3.defers=[{target:=.fn (.func g) ys',args:=xs'}]:=by
               have:=hfr3.defers;rw[hds2]at this;exact this.empty
              have hun:BN μ3 pv {fr3 with defers:=[]}/\fr3.mode≠.run:=by
               have hm:=hfr3.mode;generalize fr3.mode=q at hm ⊢;cases hcm:m2.c.mode with
               |run=>rw[hcm]at hpv;cases hpv
               |ret=>
                rw[hcm]at hpv hm;cases hm;simp only[GF,YO]at hpv;exact⟨.inl ⟨hpv.symm,rfl⟩,fun e=>by cases e⟩
               |We v0=>
                rw[hcm]at hpv hm;cases hm with
                |We VY=>
                 simp only[GF,YO]at hpv;subst hpv;exact⟨.inr ⟨_,VY,rfl⟩,fun e=>by cases e⟩
              have st6:step P (lone fr3 cs w3)=.next (lone (Frame.enter P g (xs'++ys') .deferred) ({fr3 with defers:=[]}::cs) w3):=
               cJ hun.2 hd3 rfl (fX (hF g hca.2) _ w3)
              have hvargs:VRs μ3 (xs++ys) (xs'++ys'):=by
               have k1:VRs μ3 xs xs':=(VRs.mono x3 ⟨q1,q3⟩)
               have k2:VRs μ3 ys ys':=(VRs.mono x3 ⟨q2,q4⟩)
               exact k1.append k2
              obtain⟨w4,μ4,s4,x4,st7⟩:=hsem S n m3.n _ μ μ3 H w w3 s3 hS (LI _) (fun i hi Xp=>hR' i Xp (.inl (Lw _ hi))) _ {fr3 with defers:=[]} cs hvargs hun.1
              obtain⟨fn,v',hfn,hresr,VY⟩:=tq hu3 s4.post.ok (hfr3.tmps.mono x4) hres (fun i hi Xp=>by
               rcases LK i n with h1|h1
               ·exact .inl (hR' i h1 (.inr hi))
               ·exact .inr ⟨h1,Xp⟩)
              have hfnE:fr3.fn=f:=by
               have:(Frame.enter P f args' .normal).fn=f:=rfl;rw[hfn3];show Sw.fn=f;rw[hfn1,this]
              have hleave:({fr3 with defers:=[],mode:=.returning}:Frame).leaving P w4 (.returned v'):=⟨rfl,rfl,hfr3.kind,fn,by rw[<-hfn,hfr3.fn],hresr⟩
              have Zh:Steps P (lone (Frame.enter P f args' .normal) cs w) (lone {fr3 with defers:=[],mode:=.returning} cs w4):=
               st1.trans (.head Rw (st2.trans (.head st3 (.head st4 (st5.trans (.head st6 st7))))))
              refine⟨.ret v',w4,μ4,s4.post.lists (fun i hi=>by rw[hWiff i hi];simp[LY]),.ret VY,fun _=>⟨_,Zh,hfnE,hleave⟩,fun c1 cs' e=> ?_⟩;subst e;exact Zh.trans (.one (step_leave_returned hleave))
            ·cases h
           ·cases h
          ·cases h
         ·cases h
       ·cases h
      ·cases h
     ·cases h
    ·cases h
   ·cases h
  ·cases h
 ·cases h
end
def Memo.drun(P:Program)(F:FuncId->Bool)(Xu:WW)(fuel:Nat)(m:Memo):Option Rs:=HF P F Xu fuel m.g m.args m.H0 m.n
theorem QY{P:Program}{F:FuncId->Bool}{Xu:WW}{B:Lo}(hF:∀g,F g=true->Q6 P g=true)(Zm:P.follows .mixedOrders=true)(ZX:Ws P B Xu){fuel:Nat}{m:Memo}{l:List Memo}(hm:QR m (m.drun P F Xu fuel)=true)(hl:Ws P B (XS l)):Ws P B (XS (m::l)):=by
 intro g args H n s hu h;simp only[XS]at h;cases hq:(Lf m.n n && Lf m.g g && H5 (DT 1) args.toList m.args.toList && hasAll H m.H0)with
 |false=>
  rw[hq]at h;exact hl g args H n s hu h
 |true=>
  rw[hq]at h;simp only[cond_true,YO]at h;simp only[YB]at hq;obtain⟨⟨⟨q1,q2⟩,q3⟩,q4⟩:=hq;obtain rfl:=YE q1;obtain rfl:=YE q2;obtain rfl:=Array.ext' (Yc (UU 1) _ _ q3);have hH:=Pr q4;subst h;obtain⟨Hs,R,VU,hnews,hw,hw0,hR0⟩:=iM hm;have hu0:Under m.H0 m.n:=fun i hi=>WU hw0 (.inr hi)
  have hsem:=xO (B:=B) hF Zm ZX hu0 VU;have hle:m.n<=m.n':=hsem.1.le;have SZ:∀i,i<m.n\/m.n'<=i->Qw (m.news++H) i=Qw H i:=fun i hi=>by
   rw[ZI,WU hw hi]
  have Ku:∀i o,m.n<=i->Qw (m.news++H) i=some o->Qw Hs i=some o:=by
   intro i o h1 h2;rw[ZI]at h2;cases hg:Qw m.news i with
   |some x=>
    rw[hg]at h2;rw[hnews i x hg];exact h2
   |none=>
    rw[hg,hu i h1]at h2;cases h2
  refine⟨⟨hle,fun i hi _=>SZ i (.inl hi),fun i hi=>SZ i (.inr hi),fun _ h=>by simp at h,fun _ h=>by simp at h⟩,fun S μ w args' cs QE hB hS hf hv hR=> ?_⟩;simp only at hf hR ⊢;have hok0:Ok B (fun i=>S i/\∃o,Qw m.H0 i=some o) μ (Qw m.H0) w:=by
   refine⟨fun i o hi ho hl=>QE.rel i o hi.1 (hH i o ho) hl,fun i o im hi ho hl=>QE.low i o im hi.1 (hH i o ho) hl,fun i j oi oj a b hi hj TS Wc Wb=>QE.inj i j oi oj a b hi.1 hj.1 TS (hH i oi Wc) (hH j oj Wb),
    fun i o hi ho=>QE.P1 i o hi.1 (hH i o ho),fun i j oi oj a b x hi hj Wc Wb=>QE.sep i j oi oj a b x hi.1 hj.1 (hH i oi Wc) (hH j oj Wb)⟩
  obtain⟨Zg,w',μ',hp,ho,he⟩:=hsem.2 _ μ w args' cs hok0 hB (fun i hi=>hS i hi.1) hf hv (fun i hi hl=>by
   obtain⟨o,ho⟩:=hR0 i hi hl;exact⟨hR i (fR ho) hl,o,ho⟩)
  simp only at hp ho;have hold:∀i im,S i->μ i=some im->μ' i=some im:=fun i im hi h=>by
   have:=hS i hi;rw[hp.ext i (by omega)];exact h
  have hext:Ext μ μ':=hp.mu hf;have XF:∀i im o,m.n<=i->i<m.n'->Qw (m.news++H) i=some o->live o->μ' i=some im->im.rw=true/\w.heap.size<=im.Zt:=by
   intro i im o h1 h2 h3 h4 h5;obtain⟨x,y⟩:=hp.fresh i im o h1 h2 (Ku i o h1 h3) h4 h5;exact⟨x,y.elim id fun⟨k,hk,_⟩=>by simp at hk⟩
  have hOld:∀i o,S i->Qw (m.news++H) i=some o->live o->∃im,μ i=some im/\μ' i=some im/\Qw H i=some o/\im.Zt<w.heap.size:=by
   intro i o hi ho hl;have:=hS i hi;rw[SZ i (.inl this)]at ho;obtain⟨im,QK,_⟩:=QE.rel i o hi ho hl;exact⟨im,QK,hold i im hi QK,ho,(QE.low i o im hi ho hl QK).1⟩
  refine⟨Zg,w',μ',⟨⟨fun i o hi ho hl=> ?_,fun i o im hi ho hl QK=> ?_,fun i j oi oj a b hi hj TS Wc Wb hli Ud ha hb hra Ym=> ?_,fun i o hi ho hr=> ?_,fun i j oi oj a b x hi hj Wc Wb Pa Ud ha hb Ym hx=> ?_⟩,hle,hp.ext,fun i hi _=>SZ i (.inl hi),hp.grow,fun b hb _=>hp.frame b hb fun i hi=>by simp at hi,fun i hi=>by simp at hi,
   fun i im o h1 h2 h3 h4 h5=>⟨(XF i im o h1 h2 h3 h4 h5).1,.inl (XF i im o h1 h2 h3 h4 h5).2⟩,fun i im o hi ho hr hm b x hx=> ?_,hp.os,hp.tape,hp.output⟩,ho,he⟩
  ·rcases hi with hi|hi
   ·obtain⟨im,QK,QS,Kt,Xp⟩:=hOld i o hi ho hl;obtain⟨im2,WS,hr2⟩:=QE.rel i o hi Kt hl;rw[QK]at WS;cases WS;exact⟨im,QS,hr2.keep hext (hp.frame _ Xp fun i hi=>by simp at hi)⟩
   ·exact hp.ok.rel i o (.inr hi) (Ku i o hi.1 ho) hl
  ·rcases hi with hi|hi
   ·obtain⟨im2,WS,QS,Kt,Xp⟩:=hOld i o hi ho hl;rw[QK]at QS;cases QS;exact⟨Nat.lt_of_lt_of_le Xp hp.grow,(QE.low i o im hi Kt hl WS).2⟩
   ·exact hp.ok.low i o im (.inr hi) (Ku i o hi.1 ho) hl QK
  ·rcases hi with hi|hi <;> rcases hj with hj|hj
   ·obtain⟨im,h1,h2,h3,_⟩:=hOld i oi hi Wc hli;obtain⟨jm,k1,k2,k3,_⟩:=hOld j oj hj Wb Ud;rw[ha]at h2;cases h2;rw[hb]at k2;cases k2;exact QE.inj i j oi oj a b hi hj TS h3 k3 hli Ud h1 k1 hra Ym
   ·obtain⟨im,h1,h2,h3,h4⟩:=hOld i oi hi Wc hli;rw[ha]at h2;cases h2;have:=(XF j b oj hj.1 hj.2 Wb Ud hb).2;omega
   ·obtain⟨im,h1,h2,h3,h4⟩:=hOld j oj hj Wb Ud;rw[hb]at h2;cases h2;have:=(XF i a oi hi.1 hi.2 Wc hli ha).2;omega
   ·exact hp.ok.inj i j oi oj a b (.inr hi) (.inr hj) TS (Ku i oi hi.1 Wc) (Ku j oj hj.1 Wb) hli Ud ha hb hra Ym
  ·rcases hi with hi|hi
   ·have:=hS i hi;rw[SZ i (.inl this)]at ho;obtain⟨im,QK,hf⟩:=QE.P1 i o hi ho hr;exact⟨im,hold i im hi QK,fun b x hx=>by rw[hp.frame b (PI QE hi ho hr QK hx) fun i hi=>by simp at hi];exact hf b x hx⟩
   ·exact hp.ok.P1 i o (.inr hi) (Ku i o hi.1 ho) hr
  ·have oldR:∀i oi a,S i->Qw (m.news++H) i=some oi->μ' i=some a->Wa oi->Qw H i=some oi/\μ i=some a:=by
    intro i oi a hi Wc ha hr;have:=hS i hi;rw[SZ i (.inl this)]at Wc;rw[hp.ext i (by omega)]at ha;exact⟨Wc,ha⟩
   rcases hi with hi|hi <;> rcases hj with hj|hj
   ·obtain⟨h1,h2⟩:=oldR i oi a hi Wc ha Pa;obtain⟨jm,k1,k2,k3,_⟩:=hOld j oj hj Wb Ud;rw[hb]at k2;cases k2;exact QE.sep i j oi oj a b x hi hj h1 k3 Pa Ud h2 k1 Ym hx
   ·obtain⟨h1,h2⟩:=oldR i oi a hi Wc ha Pa;have:=(XF j b oj hj.1 hj.2 Wb Ud hb).2;have:=PI QE hi h1 Pa h2 hx;omega
   ·obtain⟨jm,k1,k2,k3,k4⟩:=hOld j oj hj Wb Ud;rw[hb]at k2;cases k2;rcases hp.rf i a oi (.inl hi) (Ku i oi hi.1 Wc) Pa ha b.Zt x hx with e|⟨k,UT,ko,hSk,_,hko,hkr,hkm,hkb⟩|⟨k,hk,_⟩
    ·omega
    ·exact QE.sep k j ko oj UT b x hSk.1 hj (hH k ko hko) k3 hkr Ud hkm k1 Ym hkb
    ·simp at hk
   ·exact hp.ok.sep i j oi oj a b x (.inr hi) (.inr hj) (Ku i oi hi.1 Wc) (Ku j oj hj.1 Wb) Pa Ud ha hb Ym hx
  ·have Rw:m.n<=i/\i<m.n':=hi.elim id fun h=>by simp at h
   rcases hp.rf i im o (.inl Rw) (Ku i o Rw.1 ho) hr hm b x hx with e|⟨k,UT,ko,hSk,hkn,hko,c⟩|⟨k,hk,_⟩
   ·exact .inl e
   ·exact .inr (.inl ⟨k,UT,ko,hSk.1,hkn,hH k ko hko,c⟩)
   ·simp at hk
end
end Go.CE

namespace Go.CE
open Go Go.RowKit

section
variable {μ μ1:Mu} {ρ:Nat->Nat} {m:Nat}
end

def Xe(v:Value):Prop:=∀μ μ1 v',VR μ v v'->VR μ1 v v'
theorem SX{v:Value}(h:af v=true):Xe v:=fun _ _ _ hv=>by rw[Tj h hv];exact PC h
theorem Ap:Xe (.chan none):=fun _ _ _ h=>by
 cases h with
 |Yz a b c=>exact .Yz a b c
theorem DJ{xs:Array Value}(h:∀x∈xs,Xe x):Xe (.agg xs):=fun μ μ1 v' hv=>by
 cases hv with
 |agg h1 h2=>exact .agg h1 fun i v v' a b=>h v (LN a) μ μ1 v' (h2 i v v' a b)
theorem x9{xs:Array Value}(h:∀x∈xs,Xe x):Xe (.tuple xs):=fun μ μ1 v' hv=>by
 cases hv with
 |tuple h1 h2=>exact .tuple h1 fun i v v' a b=>h v (LN a) μ μ1 v' (h2 i v v' a b)
theorem Aq{g:FuncId}{xs ys:Array Value}(h:∀x∈xs,Xe x)(k:∀x∈ys,Xe x):Xe (.func (.func g) xs ys):=fun μ μ1 v' hv=>by
 cases hv with
 |func h1 h2 h3 h4=>exact .func h1 h2 (fun i v v' a b=>h v (LN a) μ μ1 v' (h3 i v v' a b)) (fun i v v' a b=>k v (LN a) μ μ1 v' (h4 i v v' a b))
theorem xA{t:TypeId}{v:Value}(h:Xe v):Xe (.iface t v):=fun μ μ1 v' hv=>by
 cases hv with
 |iface hv=>exact .iface (h μ μ1 _ hv)
theorem sB{xs:Array Value}(h:∀x∈xs,∃d,Xe d/\∀μ v',VR μ x v'->VR μ d v'):∃ds:Array Value,ds.size=xs.size/\(∀d∈ds,Xe d)/\∀μ (xs':Array Value),(∀(i:Nat) v v',xs[i]? =some v->xs'[i]? =some v'->VR μ v v')->∀(i:Nat) v v',ds[i]? =some v->xs'[i]? =some v'->VR μ v v':=by
 have h':∀i:Fin xs.size,∃d,Xe d/\∀μ v',VR μ xs[i] v'->VR μ d v':=fun i=>h xs[i] (Array.getElem_mem i.2)
 refine⟨Array.ofFn fun i=>Classical.choose (h' i),by simp,fun d hd=> ?_,fun μ xs' hx i v v' hv ZQ=> ?_⟩
 ·obtain⟨i,hi⟩:=Array.mem_ofFn.1 hd;rw[<-hi];exact(Classical.choose_spec (h' i)).1
 ·rw[Array.getElem?_ofFn]at hv;split at hv
  ·rename_i hi;simp only[YO]at hv;subst hv;exact(Classical.choose_spec (h' ⟨i,hi⟩)).2 μ v' (hx i _ v' (by simp[hi]) ZQ)
  ·cases hv
theorem Ja(v:Value):∃d,Xe d/\∀μ v',VR μ v v'->VR μ d v':=by
 have Yz:∀{v:Value},(∀μ v',VR μ v v'->(∀b,v'≠.bool b)/\v'.cells=#[v']/\v'.oneCell'=true)->∃d,Xe d/\∀μ v',VR μ v v'->VR μ d v':=
  fun h=>⟨.chan none,Ap,fun μ v' hv=>.Yz (h μ v' hv).1 (h μ v' hv).2.1 (h μ v' hv).2.2⟩
 match v with
 | .agg xs=>
   obtain⟨ds,e,hl,hd⟩:=sB (xs:=xs) fun x _=>Ja x
   refine⟨.agg ds,DJ hl,fun μ v' hv=> ?_⟩;cases hv with
   |agg h1 h2=>exact .agg (e.trans h1) (hd μ _ h2)
 | .tuple xs=>
   obtain⟨ds,e,hl,hd⟩:=sB (xs:=xs) fun x _=>Ja x
   refine⟨.tuple ds,x9 hl,fun μ v' hv=> ?_⟩;cases hv with
   |tuple h1 h2=>exact .tuple (e.trans h1) (hd μ _ h2)
 | .func (.func g) xs ys=>
   obtain⟨ds,e,hl,hd⟩:=sB (xs:=xs) fun x _=>Ja x
   obtain⟨es,e',hl',hd'⟩:=sB (xs:=ys) fun x _=>Ja x
   refine⟨.func (.func g) ds es,Aq hl hl',fun μ v' hv=> ?_⟩;cases hv with
   |func h1 h2 h3 h4=>exact .func (e.trans h1) (e'.trans h2) (hd μ _ h3) (hd' μ _ h4)
 | .iface t x=>
   obtain⟨d,hl,hd⟩:=Ja x;refine⟨.iface t d,xA hl,fun μ v' hv=> ?_⟩;cases hv with
   |iface hv=>exact .iface (hd μ _ hv)
 | .bool b=>exact⟨_,SX rfl,fun _ _ h=>h⟩
 | .int k n=>exact⟨_,SX rfl,fun _ _ h=>h⟩
 | .string s=>exact⟨_,SX rfl,fun _ _ h=>h⟩
 | .nilFunc=>exact⟨_,SX rfl,fun _ _ h=>h⟩
 | .nilIface=>exact⟨_,SX rfl,fun _ _ h=>h⟩
 | .chan r=>exact Yz fun μ v' h=>by cases h with
   |Yz a b c=>exact⟨a,b,c⟩
   |noCap=>exact⟨(fun b e=>by cases e),rfl,rfl⟩
 | .pointer a=>exact Yz fun μ v' h=>by cases h <;> exact⟨(fun b e=>by cases e),rfl,rfl⟩
 | .slice a n c=>exact Yz fun μ v' h=>by cases h <;> exact⟨(fun b e=>by cases e),rfl,rfl⟩
 | .map r=>exact Yz fun μ v' h=>by cases h <;> exact⟨(fun b e=>by cases e),rfl,rfl⟩
 | .func (.yield l) xs ys=>exact Yz fun μ v' h=>by cases h <;> exact⟨(fun b e=>by cases e),rfl,rfl⟩
 | .func (.method s) xs ys=>exact Yz fun μ v' h=>by cases h
 | .func (.methodOf t s) xs ys=>exact Yz fun μ v' h=>by cases h
 | .func (.via t p f q) xs ys=>exact Yz fun μ v' h=>by cases h with|top a b c=>exact⟨c.nobool a,c.one a⟩
 | .float k b=>exact Yz fun μ v' h=>by cases h
 | .complex k a b=>exact Yz fun μ v' h=>by cases h
termination_by SizeOf.sizeOf v
decreasing_by
 all_goals simp_wf
 all_goals first
  |(have:=Array.sizeOf_lt_of_mem ‹_∈_›;omega)
  |omega
end Go.CE
namespace Go.CE
open Go Go.RowKit
end Go.CE

namespace Go.CE
open Go Go.RowKit

structure GoE (P:Program) (B:Lo) (c0:CF) (H0:Qt) (n:Nat) (c':CF) (H':Qt) (n':Nat) (W:List Nat):Prop where
 under:Under H' n'
 le:n<=n'
 sem:∀(Z:Bot) (μ:Mu) (w:World) (fr:Frame) (cs:List Frame),Ok B (fun i=>i<n) μ (Qw H0) w->B.has w->(∀i,n<=i->μ i=none)->FrR Z μ c0 fr->
  ∃fr' w' μ',Post B (fun i=>i<n) n n' W μ μ' H0 H' w w'/\FrR Z μ' c' fr'/\fr'.roundOf=fr.roundOf/\fr'.fn=fr.fn/\Steps P (lone fr cs w) (lone fr' cs w')
section
variable {P:Program} {B:Lo} {c0 c1 c2:CF} {H0 H1 H2:Qt} {n n1 n2:Nat} {W W1 W2 R2:List Nat}
theorem GoE.refl(hu:Under H0 n):GoE P B c0 H0 n c0 H0 n []:=
 ⟨hu,LI _,fun _ μ w fr _ QE _ _ XF=>⟨fr,w,μ,Post.refl QE,XF,rfl,rfl,Steps.refl _ _⟩⟩
theorem GoE.lists(h:GoE P B c0 H0 n c1 H1 n1 W)(hW:∀i,i<n->(i∈W1<->i∈W)):GoE P B c0 H0 n c1 H1 n1 W1:=
 ⟨h.under,h.le,fun Z μ w fr cs QE hB hf XF=>let⟨fr',w',μ',hp,a⟩:=h.sem Z μ w fr cs QE hB hf XF;⟨fr',w',μ',hp.lists hW,a⟩⟩
theorem GoE.step(h:GoE P B c0 H0 n c1 H1 n1 W1)(k:GoJ P B c1 H1 n1 c2 H2 n2 R2 W2):GoE P B c0 H0 n c2 H2 n2 (W1++W2):=by
 refine⟨h.under.shape k.shape,Nat.le_trans h.le k.shape.le,fun Z μ w fr cs QE hB hf XF=> ?_⟩;have le1:=h.le;obtain⟨Sw,w1,μ1,hp,Rz,hr,hfn,Zh⟩:=h.sem Z μ w fr cs QE hB hf XF;obtain⟨fr2,w2,μ2,Sm,hfr2,hr2,hfn2,hst2⟩:=k.sem _ μ1 w1 Sw cs Z hp.ok (hB.post QE hp) (fun i hi=>hi.elim (fun e=>by omega) (fun e=>e.2)) (fun q a b=>by rw[hp.ext q (by omega)];exact hf q (by omega)) Rz
  (fun q _ Xp=>by
   rcases LK q n with h1|h1
   ·exact .inl h1
   ·exact .inr ⟨h1,Xp⟩)
 exact⟨fr2,w2,μ2,hp.trans Sm,hfr2,hr2.trans hr,hfn2.trans hfn,Zh.trans hst2⟩
theorem GoE.fj{out:OO}(h:GoE P B c0 H0 n c1 H1 n1 W1)(k:FJ P B c1 H1 n1 out H2 n2 R2 W2)(μ:Mu)(w:World)(fr:Frame)(cs:List Frame)(QE:Ok B (fun i=>i<n) μ (Qw H0) w)(hB:B.has w)(hf:∀i,n<=i->μ i=none)(XF:FrR Bot.no μ c0 fr):
 ∃Zg w' μ',Post B (fun i=>i<n) n n2 (W1++W2) μ μ' H0 H2 w w'/\OR2 μ' out Zg/\EndsAs P fr cs w Zg w':=by
 have le1:=h.le;obtain⟨Sw,w1,μ1,hp,Rz,hr,hfn,Zh⟩:=h.sem Bot.no μ w fr cs QE hB hf XF;obtain⟨Zg,w2,μ2,Sm,ho,he⟩:=k.sem _ μ1 w1 Sw cs hp.ok (hB.post QE hp) (fun i hi=>hi.elim (fun e=>by omega) (fun e=>e.2)) (fun q a b=>by rw[hp.ext q (by omega)];exact hf q (by omega)) Rz
  (fun q _ Xp=>by
   rcases LK q n with h1|h1
   ·exact .inl h1
   ·exact .inr ⟨h1,Xp⟩)
 exact⟨Zg,w2,μ2,hp.trans Sm,ho,he.of_steps Zh hr hfn⟩
end

def look:List (Nat×Value)->Nat->Value->Value
 |[],_,d=>d
 |(a,v)::l,t,d=>bif Lf a t then v else look l t d
theorem Ar(l:List (Nat×Value))(t:Nat)(d:Value):look l t d=d\/∃v,(t,v)∈l/\look l t d=v:=by
 induction l with
 |nil=>exact .inl rfl
 |cons p l ih=>
  obtain⟨a,v⟩:=p;cases hb:Lf a t with
  |true=>
   have:=YE hb;subst this;exact .inr ⟨v,by simp,by simp[look]⟩
  |false=>
   simp only[look,hb,cond_false];exact ih.imp id fun⟨v,h1,h2⟩=>⟨v,Lt _ h1,h2⟩
def NI(live:List (Nat×Value))(d:Nat->Value):Nat->Nat->List Value
 |0,_=>[]
 |k+1,t=>look live t (d t)::NI live d k (t+1)
theorem dp(live:List (Nat×Value))(d:Nat->Value):∀(k t:Nat),(NI live d k t).length=k
 |0,_=>rfl
 |k+1,t=>by simp[NI,dp live d k]
theorem B1(live:List (Nat×Value))(d:Nat->Value):∀(k t i:Nat),i<k->(NI live d k t).getD i undef=look live (t+i) (d (t+i))
 |0,_,i,h=>by omega
 |k+1,t,0,_=>rfl
 |k+1,t,i+1,h=>by
  have:=B1 live d k (t+1) i (by omega);rw[show t+(i+1)=t+1+i by omega,<-this];rfl
def OC(len:Nat)(live:List (Nat×Value))(d:Nat->Value):Tm:=ofList len (NI live d len 0)
theorem Mp{len:Nat}{live:List (Nat×Value)}{d:Nat->Value}(hl:len<=16000)(t:Nat):XT (OC len live d) t=if t<len then look live t (d t)else undef:=by
 have h:=jI (NI live d len 0) 0 .lf t (by rw[dp];omega);have e:XT (OC len live d) t=(Og (NI live d len 0) 0 .lf).get t:=rfl;rw[e,h];simp only[Nat.zero_le,true_and,LD,dp,Nat.sub_zero,Tri.get_lf];split
 ·rename_i ht;rw[B1 live d len 0 t ht,LD]
 ·rfl
def P8:Item->Bool
 | .endRangeFunc _=>false
 | .inRangeFunc _=>false
 |_=>true
theorem TodoR.plain{μ μ1:Mu}{l L:List Item}(h:TodoR μ l L)(hp:l.all P8=true):TodoR μ1 l L:=by
 induction h with
 |nil=>exact .nil
 |cons hi _ ih=>
  simp only[List.all_cons,YB]at hp;refine .cons ?_ (ih hp.2);cases hi with
  |code c=>exact .code c
  |inBlock id=>exact .inBlock id
  |inLoop c=>exact .inLoop c
  |inScope c=>exact .inScope c
  |beginRound=>exact .beginRound
  |endRF h=>cases hp.1
def Q9(f:FuncId)(len:Nat)(live:List (Nat×Value))(d:Nat->Value)(todo:List Item):CF:=⟨f,OC len live d,todo,[],.run,none⟩
end Go.CE

namespace Go.CE
open Go Go.RowKit

inductive Hint where
 |val (v:Value)
 |idx (k:Nat)
 |ld (v:Value)
 |raw (v:Value)
 |len (n:Nat)
 |eq (b:Bool)
 |app (cs:Array Value)
 |mk (m:Nat) (cs:Array Value)
 |st (cs:Array Value)
 |call (keys:List Nat) (out:Value) (Yl:Qt) (n':Nat) (W:List Nat)
 |look (v:Value)
 |upd (es:Array MapEntry) (RZ:Nat)
 |nil
def OY:Value->Value->Prop
 | .int k a,.int k' b=>bif decide (k=k')then a=b else False
 | .bool a,.bool b=>a=b
 |u,v=>u=v
theorem Ni{u v:Value}(h:OY u v):u=v:=by
 unfold OY at h;split at h
 ·rename_i k a k' b;by_cases e:k=k'
  ·simp only[e,decide_true,cond_true]at h;rw[e,h]
  ·simp[e]at h
 ·rw[h]
 ·exact h
def KH:Option Nat->Bool
 |none=>true
 |some 0=>true
 |_=>false
def HY(v:Value)(m:Nat):Prop:=∀μ v',VR μ v v'->∃a c,v'=.slice a m c
theorem ox{P:Program}{t:TypeId}{cs:Array Value}{off:Nat}{v:Value}(h:Y4 P t cs off=some v)(w:World):(part t cs off).run P w=.ok v w:=by
 unfold Y4 at h;cases ha:o6 P t with
 |none=>rw[ha]at h;cases h
 |some b=>
  rw[ha]at h;cases b with
  |true=>
   cases hs:Wz P t with
   |none=>rw[hs]at h;cases h
   |some s=>
    rw[hs]at h;dsimp only at h;cases hb:LR (off+s) cs.size with
    |false=>rw[hb]at h;cases h
    |true=>
     rw[hb]at h;simp only[cond_true,YO]at h;subst h;simp only[part,Sem.run_bind,Ko ha,Result.andThen_ok,if_true,Zp hs,Sem.run_pure]
  |false=>
   simp only at h;simp only[part,Sem.run_bind,Ko ha,Result.andThen_ok,h];rfl
def VM(v:Value):Bool:=af v
def DU(P:Program)(rec:TypeId->Value->Value->Option Bool):List Field->Array Value->Array Value->Option Bool
 |[],_,_=>some true
 |f::fs,xs,ys=>bif decide (f.name= "_")then DU P rec fs xs ys else
  match Y4 P f.type xs f.offset,Y4 P f.type ys f.offset with
  |some a,some b=>match rec f.type a b,DU P rec fs xs ys with
   |some r,some q=>some (r && q)
   |_,_=>none
  |_,_=>none
def Oi(P:Program):Nat->TypeId->Value->Value->Option Bool
 |0,_,_,_=>none
 |d+1,t,x,y=>match R5 P t,x,y with
  |some (.int _),.int k a,.int k' b=>bif decide (k=k')then some (Rx a b)else none
  |some .bool,.bool a,.bool b=>some (bif a then b else !b)
  |some (.struct fs),.agg xs,.agg ys=>bif P.stoodInHeld t then none else DU P (Oi P d) fs.toList xs ys
  |_,_,_=>none
theorem oc{P:Program}{rec:TypeId->Value->Value->Option Bool}(d:Nat)(Vs:∀t x y r,rec t x y=some r->∀(D:Nat) (w:World),d<=D->(Op.equalIn D t x y).run P w=.ok r w):∀(fs:List Field) (xs ys:Array Value) (r:Bool),DU P rec fs xs ys=some r->∀(D:Nat) (w:World),d<=D->(Op.eqFields D xs ys fs).run P w=.ok r w
 |[],xs,ys,r,h,D,w,hD=>by
  simp only[DU,YO]at h;subst h;simp[Op.eqFields]
 |f::fs,xs,ys,r,h,D,w,hD=>by
  unfold DU at h;by_cases e:f.name= "_"
  ·simp only[e,decide_true,cond_true]at h;simp only[Op.eqFields,e,ne_eq,not_true_eq_false,if_false];exact oc d Vs fs xs ys r h D w hD
  ·simp only[e,decide_false,cond_false]at h;split at h
   ·rename_i a b ha hb;split at h
    ·rename_i r1 q h1 h2;simp only[YO]at h;subst h;have pa:(part f.type xs f.offset).run P w=.ok a w:=ox ha w;have pb:(part f.type ys f.offset).run P w=.ok b w:=ox hb w;simp only[Op.eqFields,e,ne_eq,not_false_eq_true,if_true,Sem.run_bind,pa,Result.andThen_ok,pb,Vs f.type a b r1 h1 D w hD];cases r1 with
     |true=>simpa using oc d Vs fs xs ys q h2 D w hD
     |false=>simp
    ·cases h
   ·cases h
theorem sg{P:Program}:∀(d:Nat) (t:TypeId) (x y:Value) (r:Bool),Oi P d t x y=some r->∀(D:Nat) (w:World),d<=D->(Op.equalIn D t x y).run P w=.ok r w
 |0,t,x,y,r,h,D,w,hD=>by simp[Oi]at h
 |d+1,t,x,y,r,h,D,w,hD=>by
  obtain⟨D,rfl⟩:∃e,D=e+1:=⟨D-1,by omega⟩
  unfold Oi at h;simp only[Zx]at h;split at h
  ·rename_i k0 k a k' b hu;by_cases e:k=k'
   ·subst e;simp only[decide_true,cond_true,YO]at h;rw[run_equalIn_int w D t k k0 a b hu,<-h,du]
   ·simp[e]at h
  ·rename_i a b hu;simp only[YO]at h;rw[run_equalIn_bool' w D t a b hu,<-h];cases a <;> cases b <;> rfl
  ·rename_i fs xs ys hu;cases hs:P.stoodInHeld t with
   |true=>rw[hs]at h;cases h
   |false=>
    rw[hs]at h;simp only[cond_false]at h;have hf:P.fieldsOf t=fs:=by simp[Program.fieldsOf,hu]
    rw[run_equalIn_struct w D t xs ys (by rw[hf];exact hu) hs,hf];exact oc d (sg d) fs.toList xs ys r h D w (by omega)
  ·cases h
def BO(B:Lo)(b off:Nat)(v:Value):Prop:=∀w,B.has w->∃v',w.cell? ⟨b,off,none⟩=some v'/\∀μ,VR μ v v'
def oA(P:Program)(B:Lo)(g:FuncId)(args:Array Value)(H:Qt)(n:Nat)(out:OO)(H':Qt)(n':Nat)(R W:List Nat):Prop:=
 Shape H n H' n' R W/\∀(S:Nat->Prop) (μ:Mu) (w:World) (args':Array Value) (cs:List Frame),Ok B S μ (Qw H) w->B.has w->(∀i,S i->i<n)->P0 μ n n'->VRs μ args args'->(∀i∈R,i<n->S i)->
  ∃Zg w' μ',Post B S n n' W μ μ' H H' w w'/\OR2 μ' out Zg/\EndsAs P (Frame.enter P g args' .normal) cs w Zg w'
def CJ(P:Program)(B:Lo)(g:FuncId)(args:Array Value)(Hs:List (Nat×Option Obj))(n:Nat)(out:Value)(Yl:Qt)(n':Nat)(W:List Nat):Prop:=
 ∀H,Under H n->(∀p∈Hs,Qw H p.1=p.2)->oA P B g args H n (.ret out) (Yl++H) n' (Hs.map (·.1)) W
def RJ(P:Program)(B:Lo)(c:CF)(Hs:List (Nat×Option Obj))(n:Nat)(out:Value)(Yl:Qt)(n':Nat)(W:List Nat):Prop:=
 ∀H,Under H n->(∀p∈Hs,Qw H p.1=p.2)->FJ P B c H n (.ret out) (Yl++H) n' (Hs.map (·.1)) W
open Classical in
noncomputable def Tt(c:CF)(H1:Qt)(n:Nat)(s:Rs):CF->Qt->Nat->Option Rs:=fun c' H' m'=>if c'=c/\H'=H1/\m'=n then some s else none
theorem S0(c:CF)(H1:Qt)(n:Nat)(s:Rs):Tt c H1 n s c H1 n=some s:=by simp[Tt]
theorem RJ.recS{P:Program}{B:Lo}{c:CF}{H1:Qt}{n:Nat}{out:Value}{Yl:Qt}{n':Nat}{W keys:List Nat}(hu:Under H1 n)(h:RJ P B c (keys.map fun k=>(k,Qw H1 k)) n out Yl n' W):gZ P B (Tt c H1 n ⟨.ret out,Yl++H1,n',keys,W⟩):=by
 intro c' H' m' s _ hs;unfold Tt at hs;split at hs
 ·rename_i q;obtain⟨rfl,rfl,rfl⟩:=q;simp only[YO]at hs;subst hs;have:=h H' hu (fun p hp=>by
   obtain⟨k,_,rfl⟩:=List.mem_map.1 hp;rfl)
  rw[List.map_map]at this;have e:keys.map ((fun p:Nat×Option Obj=>p.1) ∘ fun k=>(k,Qw H' k))=keys:=List.map_id' _;rw[e]at this;exact this
 ·cases hs
structure Told where
 s:Rs
 p:Option Prop
def NY(P:Program)(t:TypeId)(H:Qt)(n:Nat)(s x:Value)(cs':Array Value):Option (CR×Prop):=
 match R5 P t with
 |some (.slice e)=>match inf P e with
  |some i=>match i.zero,i.size with
   |some zv,z+1=>match s with
    | .slice (some ⟨b,0,none⟩) k s'=>match Qw H b with
      |some (.cells cs te (0,0))=>match m8 H (z+1) x with
       |some (ns,m,bx)=>bif Lf te e && Lf s' (z+1) && ones ns && Lf zv.cells.size (z+1) && Lr 0 m then
        some (⟨.val (.slice (some ⟨n,0,none⟩) (k+m) (z+1)),(n,.cells cs' e (0,0))::ah H (some b),n+1,[bx,b],[b]⟩,cs.size=k*(z+1)/\k+m<=maxLen/\(k+m)*i.bytes<=140737488355328/\cs++ns=cs')
         else none
       |none=>none
      |_=>none
    |_=>none
   |_,_=>none
  |none=>none
 |_=>none

def Of(P:Program)(t:TypeId)(es:Array MapEntry)(ok:Bool)(k v:Value):Prop:=∀H r RZ,Qw H r=some (.map es RZ)->fY P t H ok (.map (some r)) k=some (v,[r])
def Oe(P:Program)(t:TypeId)(es:Array MapEntry)(RZ:Nat)(k v:Value)(KA:Array MapEntry)(clk':Nat):Prop:=∀H r,Qw H r=some (.map es RZ)->Jc P t H (.map (some r)) k v=some (VA H r (.map KA clk'),r)
def O9(P:Program)(F:FuncId->Bool)(B:Lo)(T:Tm)(o:Oper)(H:Qt)(n:Nat):Option Hint->Option Told
 |none=>match o.op with
  | .fieldAddr s x f=>match Zd T x with
    |some (.pointer (some ⟨b,off,some 0⟩))=>match Wd P s f (.pointer (some ⟨b,off,none⟩))with
     |some (.pointer (some ⟨b',off',none⟩))=>some ⟨⟨.ret (.pointer (some ⟨b',off',some 0⟩)),H,n,[],[]⟩,none⟩
     |_=>none
    |_=>match dn P F X1 (fun _ _ _=>none) T o H n with|some s=>some ⟨s,none⟩|none=>none
  |_=>match dn P F X1 (fun _ _ _=>none) T o H n with|some s=>some ⟨s,none⟩|none=>none
 |some (.val v)=>match dn P F X1 (fun _ _ _=>none) T o H n with
  |some ⟨.ret u,H1,n1,R,W⟩=>some ⟨⟨.ret v,H1,n1,R,W⟩,some (OY u v)⟩
  |_=>none
 |some (.idx k)=>match o.op with
  | .indexAddr t x i=>match Zd T x,Zd T i with
    |some (.slice (some ⟨b,off,sp⟩) len _),some (.int _ q)=>match R5 P t with
     |some (.slice e)=>match Wz P e with
      |some z=>bif KH sp then some ⟨⟨.ret (.pointer (some ⟨b,off+k*z,sp⟩)),H,n,[],[]⟩,some (q=(k:Int)/\k<len)⟩else none
      |none=>none
     |_=>none
    |some (.pointer (some ⟨b,off,sp⟩)),some (.int _ q)=>match R5 P t with
     |some (.array len e)=>match Wz P e with
      |some z=>bif KH sp then some ⟨⟨.ret (.pointer (some ⟨b,off+k*z,sp⟩)),H,n,[],[]⟩,some (q=(k:Int)/\k<len)⟩else none
      |none=>none
     |_=>none
    |_,_=>none
  |_=>none
 |some (.ld v)=>match o.op with
  | .load t a=>match Zd T a with
    |some (.pointer (some ⟨b,off,none⟩))=>match Qw H b with
     |some (.cells cs _ _)=>bif Lr b n then match o6 P t with
      |some true=>match Wz P t,v with
       |some z,.agg xs=>some ⟨⟨.ret v,H,n,[b],[]⟩,some (off+z<=cs.size/\cs.extract off (off+z)=xs)⟩
       |_,_=>none
      |some false=>some ⟨⟨.ret v,H,n,[b],[]⟩,some (cs[off]? =some v)⟩
      |none=>none
      else none
     |_=>none
    |_=>none
  |_=>none
 |some (.raw v)=>match o.op with
  | .load t a=>match Zd T a with
    |some (.pointer (some ⟨b,off,some 0⟩))=>match o6 P t with
     |some true=>match Wz P t,v with
      |some z,.agg xs=>bif Lf xs.size z then some ⟨⟨.ret v,H,n,[],[]⟩,some (∀(j:Nat) u,xs[j]? =some u->BO B b (off+j) u)⟩else none
      |_,_=>none
     |some false=>some ⟨⟨.ret v,H,n,[],[]⟩,some (BO B b off v)⟩
     |none=>none
    |_=>none
  |_=>none
 |some (.eq b)=>match o.op with
  | .binOp op t x y _=>match Zd T x,Zd T y with
    |some (.agg xs),some (.agg ys)=>bif P.eqGuardType P.depth t then none else match op with
     | .eql=>match Oi P 100 t (.agg xs) (.agg ys)with
       |some r=>bif VM (.agg xs) && VM (.agg ys)then some ⟨⟨.ret (.bool b),H,n,[],[]⟩,some (r=b)⟩else none
       |none=>none
     | .neq=>match Oi P 100 t (.agg xs) (.agg ys)with
       |some r=>bif VM (.agg xs) && VM (.agg ys)then some ⟨⟨.ret (.bool b),H,n,[],[]⟩,some ((!r)=b)⟩else none
       |none=>none
     |_=>none
    |_,_=>none
  |_=>none
 |some (.len m)=>match o.op with
  | .call c=>match c.callee with
    | .builtin .len=>match c.args.toList,c.argTypes.toList with
      |[x],[t]=>match Zd T x,R5 P t with
       |some v,some (.slice _)=>some ⟨⟨.ret (.int .i64 m),H,n,[],[]⟩,some (HY v m)⟩
       |_,_=>none
      |_,_=>none
    |_=>none
  |_=>none
 |some (.app cs')=>match o.op with
  | .call c=>match c.callee with
    | .builtin .append=>match c.args.toList,c.argTypes.toList with
      |[s,x],[t,t']=>bif Lf t t' then
       match Zd T s,Zd T x with
       |some sv,some xv=>match NY P t H n sv xv cs' with
        |some (⟨.val v,H1,n1,R,W⟩,p)=>bif R.all (fun i=>Lr i n)then some ⟨⟨.ret v,H1,n1,R,W⟩,some p⟩else none
        |_=>none
       |_,_=>none
        else none
      |_,_=>none
    |_=>none
  |_=>none
 |some (.mk m cs)=>match o.op with
  | .makeSlice t l c=>match Zd T l,Zd T c with
    |some x,some y=>match R5 P t with
     |some (.slice e)=>match Wz P e with
      |some z=>some ⟨⟨.ret (.slice (some ⟨n,0,none⟩) m z),(n,.cells cs e (0,0))::H,n+1,[],[]⟩,some (Tg P t x y=some (e,cs,m,z))⟩
      |none=>none
     |_=>none
    |_,_=>none
  |_=>none
 |some (.st cs')=>match o.op with
  | .store t a x=>match Zd T a,Zd T x with
    |some (.pointer (some ⟨b,off,none⟩)),some v=>match Qw H b with
     |some (.cells cs te (0,0))=>match Wz P t with
      |some z=>bif Lr b n && Lf v.cells.size z && ones v.cells then some ⟨⟨.ret undef,VA H b (.cells cs' te (0,0)),n,[b],[b]⟩,some (off+z<=cs.size/\splice cs off v.cells=cs')⟩else none
      |none=>none
     |_=>none
    |_,_=>none
  |_=>none
 |some (.call keys out Yl n' W)=>match o.op with
  | .call _=>match Ss P F (Zd T) o H n with
    |some ⟨.enter g args,H1,n1,R,W1⟩=>bif Lf n1 n && W1.isEmpty then some ⟨⟨.ret out,Yl++H1,n',R++keys,W⟩,some (CJ P B g args (keys.map fun k=>(k,Qw H1 k)) n out Yl n' W)⟩else none
    |some ⟨.round l fn tm a b,H1,n1,R,W1⟩=>bif Lf n1 n && W1.isEmpty && LR tm.size 16000 then some ⟨⟨.ret out,Yl++H1,n',R++keys,W⟩,some (RJ P B ⟨fn,ofList tm.size tm.toList,[.code a,.beginRound,.code b],[],.run,some l⟩ (keys.map fun k=>(k,Qw H1 k)) n out Yl n' W)⟩else none
    |_=>none
  |_=>none
 |some (.look v)=>match o.op with
  | .lookup t x k ok=>match Zd T x,Zd T k with
    |some (.map (some r)),some kv=>match Qw H r with
     |some (.map es _)=>bif Lr r n then some ⟨⟨.ret v,H,n,[r],[]⟩,some (Of P t es ok kv v)⟩else none
     |_=>none
    |_,_=>none
  |_=>none
 |some (.upd KA clk')=>match o.op with
  | .mapUpdate t m k x=>match Zd T m,Zd T k,Zd T x with
    |some (.map (some r)),some kv,some v=>match Qw H r with
     |some (.map es RZ)=>bif Lr r n then some ⟨⟨.ret undef,VA H r (.map KA clk'),n,[r],[r]⟩,some (Oe P t es RZ kv v KA clk')⟩else none
     |_=>none
    |_,_,_=>none
  |_=>none
 |some .nil=>match o.op with
  | .call c=>match c.callee with
    | .builtin .append=>match c.args.toList,c.argTypes.toList with
      |[s,x],[t,t']=>bif Lf t t' then match Zd T s,Zd T x with
       |some (.slice none 0 0),some (.slice none 0 0)=>match R5 P t with
        |some (.slice e)=>match Wz P e with
         |some _=>some ⟨⟨.ret (.slice none 0 0),H,n,[],[]⟩,none⟩
         |none=>none
        |_=>none
       |_,_=>none
        else none
      |_,_=>none
    |_=>none
  |_=>none
section
variable {P:Program} {F:FuncId->Bool} {B:Lo} {T:Tm} {o:Oper} {H:Qt} {n:Nat}
theorem P2:gZ P B (fun _ _ _=>none):=fun _ _ _ _ _ h=>by cases h
theorem Kl{v:Value}{ev:Operand->Option Value}(hd:∀c,o.op≠.defer c)(h:∀(μ:Mu) (w:World) (ρ:Operand->Value),B.has w->(∀x∈o.op.operands,∀v,ev x=some v->VR μ v (ρ x))->∃v',(execOp ρ o).run P w=.ok (.value v') w/\VR μ v v'):
 Tk P B o ev H n (.ret v) H n [] []:=fun _ μ w fr _ _ _ _ _ QE hB _ _ XP _ hm ht ho hw=>
 let⟨v',h1,h2⟩:=h μ w fr.eval hB XP
 ⟨.ret v',w,μ,Post.refl QE,.ret h2,Rk hm ht ho hw hd h1⟩
theorem bn{s:TypeId}{f b off:Nat}{b' off':Nat}(h:Wd P s f (.pointer (some ⟨b,off,none⟩))=some (.pointer (some ⟨b',off',none⟩)))(w:World):b'=b/\(Instr.fieldAt s (.pointer (some ⟨b,off,none⟩)) f).run P w=.ok (.pointer (some ⟨b',off',none⟩)) w:=by
 unfold Wd at h;simp only[Zx]at h;split at h
 ·rename_i fields hu;cases hfd:fields[f]? with
  |none=>rw[hfd]at h;cases h
  |some fd=>
   rw[hfd]at h;dsimp only at h;split at h
   ·rename_i z hz;simp only[YO,Value.pointer.injEq,Addr.mk.injEq,and_true]at h;obtain⟨rfl,rfl⟩:=h;refine⟨rfl, ?_⟩;simp only[Instr.fieldAt,Sem.run_bind,run_underlying hu,Result.andThen_ok,hfd,Instr.sureAddr,Sem.run_pure,fieldPlace,Zp hz,Wx];simp
   ·cases h
 ·cases h
theorem qg{t e:TypeId}{b off len c z k:Nat}{q:Int}{kk:IntKind}(hu:R5 P t=some (.slice e))(hz:Wz P e=some z)(hq:q=(k:Int))(hk:k<len)(w:World):
 (Instr.indexAt t (.slice (some ⟨b,off,none⟩) len c) (.int kk q)).run P w=.ok (.pointer (some ⟨b,off+k*z,none⟩)) w:=by
 rw[Zx]at hu;subst hq;have hc:0<=(k:Int)/\(k:Int)<len:=by omega
 simp only[Instr.indexAt,Sem.run_bind,asIntOf,Sem.run_pure,Result.andThen_ok,run_underlying hu,hc,and_self,if_true,Zp hz,Wx,Int.toNat_natCast]
theorem fQ{t e:TypeId}{b off len z k:Nat}{q:Int}{kk:IntKind}(hu:R5 P t=some (.array len e))(hz:Wz P e=some z)(hq:q=(k:Int))(hk:k<len)(w:World):
 (Instr.indexAt t (.pointer (some ⟨b,off,none⟩)) (.int kk q)).run P w=.ok (.pointer (some ⟨b,off+k*z,none⟩)) w:=by
 rw[Zx]at hu;subst hq;have hc:0<=(k:Int)/\(k:Int)<len:=by omega
 simp only[Instr.indexAt,Sem.run_bind,asIntOf,Sem.run_pure,Result.andThen_ok,run_underlying hu,Instr.sureAddr,hc,and_self,if_true,Zp hz,Wx,Int.toNat_natCast]
theorem ME{μ:Mu}{b off k z:Nat}{sp:Option Nat}{v':Value}(hsp:KH sp=true)(h:VR μ (.pointer (some ⟨b,off,sp⟩)) v'):∃b' off',v'=.pointer (some ⟨b',off',none⟩)/\VR μ (.pointer (some ⟨b,off+k*z,sp⟩)) (.pointer (some ⟨b',off'+k*z,none⟩)):=by
 cases h with
 |ptr har=>
  obtain⟨im,h1,h2,rfl⟩:=har;simp only at h2;subst h2;exact⟨_,_,rfl,.ptr ⟨im,h1,rfl,by simp[Nat.add_assoc]⟩⟩
 |YF _ _ q=>
  cases q with
  |zero=>exact⟨_,_,rfl,.YF _ _ 0⟩
  |succ q=>cases hsp
theorem Ey{μ:Mu}{b off len s k z:Nat}{sp:Option Nat}{v':Value}(hsp:KH sp=true)(h:VR μ (.slice (some ⟨b,off,sp⟩) len s) v'):∃b' off' c',v'=.slice (some ⟨b',off',none⟩) len c'/\VR μ (.pointer (some ⟨b,off+k*z,sp⟩)) (.pointer (some ⟨b',off'+k*z,none⟩)):=by
 cases h with
 |slice har=>
  obtain⟨im,h1,h2,rfl⟩:=har;simp only at h2;subst h2;exact⟨_,_,_,rfl,.ptr ⟨im,h1,rfl,by simp[Nat.add_assoc]⟩⟩
 |rawSlice _ _ q=>
  cases q with
  |zero=>exact⟨_,_,_,rfl,.YF _ _ 0⟩
  |succ q=>cases hsp
theorem nS{μ:Mu}{k:IntKind}{q:Int}{v':Value}(h:VR μ (.int k q) v'):v'=.int k q:=by cases h;rfl
theorem oM{t e ty:TypeId}{z:Nat}(hu:R5 P t=some (.slice e))(hz:Wz P e=some z)(w:World):(Builtin.append_ #[t,t] ty #[.slice none 0 0,.slice none 0 0]).run P w=.ok (.slice none 0 0) w:=by
 rw[Zx]at hu;simp[Builtin.append_,Sem.run_bind,run_underlying hu,Result.andThen_ok,Zp hz,Builtin.lenOf,Builtin.firstCells,Sem.run_pure]
theorem pY(hF:∀g,F g=true->Q6 P g=true)(hu:Under H n){h:Option Hint}{a:Told}(e:O9 P F B T o H n h=some a)(hp:∀p,a.p=some p->p):
 Tk P B o (Zd T) H n a.s.out a.s.H a.s.n a.s.R a.s.W/\Shape H n a.s.H a.s.n a.s.R a.s.W:=by
 have plain:∀{s:Rs},dn P F X1 (fun _ _ _=>none) T o H n=some s->Tk P B o (Zd T) H n s.out s.H s.n s.R s.W/\Shape H n s.H s.n s.R s.W:=fun h=>YV hF P2 (QJ P B) hu h
 have plain':(match dn P F X1 (fun _ _ _=>none) T o H n with|some s=>some (⟨s,none⟩:Told)|none=>none)=some a->Tk P B o (Zd T) H n a.s.out a.s.H a.s.n a.s.R a.s.W/\Shape H n a.s.H a.s.n a.s.R a.s.W:=by
  intro h;split at h
  ·rename_i s hs;simp only[YO]at h;subst h;exact plain hs
  ·cases h
 unfold O9 at e;split at e
 ·-- nothing is told
  split at e
  ·rename_i s x f Zj;split at e
   ·rename_i b off hx;split at e
    ·rename_i b' off' hc;simp only[YO]at e;subst e;refine⟨Kl (fun c h=>by rw[Zj]at h;cases h) fun μ w ρ _ XP=> ?_,Shape.same _ _ _⟩;have hv:=XP x (by simp[Zj,Op.operands]) _ hx;obtain⟨rfl,hr⟩:=bn (P:=P) hc w;generalize hg:ρ x=u at hv;cases hv with
     |ptr har=>obtain⟨im,_,h2,_⟩:=har;cases h2
     |YF=>exact⟨_,by simp[execOp,Zj,hg,hr,k8],.YF _ _ 0⟩
    ·cases e
   ·exact plain' e
  ·exact plain' e
 ·-- a value
  rename_i v;split at e
  ·rename_i u H1 n1 R W hs;simp only[YO]at e;subst e;have:=Ni (hp _ rfl);subst this;exact plain hs
  ·cases e
 ·-- an element's address
  rename_i k;split at e
  ·rename_i t x i Zj;split at e
   ·rename_i b off sp len c kk q hx hi;split at e
    ·rename_i el hue;split at e
     ·rename_i z hz;have hsp:KH sp=true:=by
       cases h:KH sp with
       |true=>rfl
       |false=>rw[h]at e;cases e
      rw[hsp]at e;simp only[cond_true,YO]at e;subst e;obtain⟨hq,hk⟩:=hp _ rfl;refine⟨Kl (fun c h=>by rw[Zj]at h;cases h) fun μ w ρ _ XP=> ?_,Shape.same _ _ _⟩;obtain⟨b',off',c',h1,h2⟩:=Ey (k:=k) (z:=z) hsp (XP x (by simp[Zj,Op.operands]) _ hx);have h3:=nS (XP i (by simp[Zj,Op.operands]) _ hi);exact⟨_,by simp[execOp,Zj,h1,h3,qg hue hz hq hk],h2⟩
     ·cases e
    ·cases e
   ·rename_i b off sp kk q hx hi;split at e
    ·rename_i len el hue;split at e
     ·rename_i z hz;have hsp:KH sp=true:=by
       cases h:KH sp with
       |true=>rfl
       |false=>rw[h]at e;cases e
      rw[hsp]at e;simp only[cond_true,YO]at e;subst e;obtain⟨hq,hk⟩:=hp _ rfl;refine⟨Kl (fun c h=>by rw[Zj]at h;cases h) fun μ w ρ _ XP=> ?_,Shape.same _ _ _⟩;obtain⟨b',off',h1,h2⟩:=ME (k:=k) (z:=z) hsp (XP x (by simp[Zj,Op.operands]) _ hx);have h3:=nS (XP i (by simp[Zj,Op.operands]) _ hi);exact⟨_,by simp[execOp,Zj,h1,h3,fQ hue hz hq hk],h2⟩
     ·cases e
    ·cases e
   ·cases e
  ·cases e
 ·-- a load of one's own
  rename_i v;split at e
  ·rename_i t x Zj;split at e
   ·rename_i b off hx;split at e
    ·rename_i cs te fz hg;have key:Lr b n=true->Y4 P t cs off=some v->Tk P B o (Zd T) H n (.ret v) H n [b] []/\Shape H n H n [b] []:=by
      intro hb hc;refine plain (s:=⟨.ret v,H,n,[b],[]⟩) ?_;have hcop:sL P F (Zd T) o H n=some ⟨.val v,H,n,[b],[]⟩:=by simp[sL,Zj,hx,Th,hg,hc]
      have hcr:Ss P F (Zd T) o H n=some ⟨.val v,H,n,[b],[]⟩:=by simp[Ss,hcop,hb]
      simp[dn,Zj,hcr]
     have e:=Je (q:=Lr b n) e;have hb:Lr b n=true:=by
      have:=hu.lt hg;exact LH this
     split at e
     ·rename_i hag;split at e
      ·rename_i z xs hz _;simp only[YO]at e;subst e;obtain⟨h1,h2⟩:=hp _ rfl;refine key hb ?_;simp only[Y4,hag,hz,LH h1,cond_true,h2]
      ·cases e
     ·rename_i hag;simp only[YO]at e;subst e;refine key hb ?_;simp only[Y4,hag];exact hp _ rfl
     ·cases e
    ·cases e
   ·cases e
  ·cases e
 ·-- a load of memory Sy nobody writes
  rename_i v;split at e
  ·rename_i t x Zj;split at e
   ·rename_i b off hx;split at e
    ·rename_i hag;split at e
     ·rename_i z xs hz;cases ZW:Lf xs.size z with
      |false=>rw[ZW]at e;cases e
      |true=>
       rw[ZW]at e;simp only[cond_true,YO]at e;subst e;have ZW:=YE ZW;have hc:=hp _ rfl;refine⟨Kl (fun c h=>by rw[Zj]at h;cases h) fun μ w ρ hB XP=> ?_,Shape.same _ _ _⟩;have hv:=XP x (by simp[Zj,Op.operands]) _ hx;have hf:∀j,j<z->∃v,xs[j]? =some v/\w.cell? ⟨b,off+j,none⟩=some ((w.cell? ⟨b,off+j,none⟩).getD undef)/\VR μ v ((w.cell? ⟨b,off+j,none⟩).getD undef):=by
        intro j hj;have Xp:j<xs.size:=by omega
        obtain⟨v',a,b⟩:=hc j xs[j] (by simp[Xp]) w hB;exact⟨xs[j],by simp[Xp],by simp[a],by simpa[a]using b μ⟩
       have hr:=run_loadCells (P:=P) w ⟨b,off,none⟩ z (fun j=>(w.cell? ⟨b,off+j,none⟩).getD undef) (fun j hj=>by
        obtain⟨_,_,hc,_⟩:=hf j hj;rw[Wx];exact hc)
       generalize hg:ρ x=u at hv;cases hv with
       |ptr har=>obtain⟨im,_,h2,_⟩:=har;cases h2
       |YF=>
        refine⟨.agg _,by simp[execOp,Zj,hg,Instr.loadAt,Instr.sureAddr,loadVar,Ko hag,Zp hz,k8,hr];rfl,.agg (by simp[ZW]) fun i v v' hv ZQ=> ?_⟩;have hi:i<z:=by
         have:=(Array.getElem?_eq_some_iff.1 hv).1;omega
        obtain⟨u,h1,_,h2⟩:=hf i hi;rw[hv]at h1;cases h1;simp[hi]at ZQ;rw[<-ZQ];exact h2
     ·cases e
    ·rename_i hag;simp only[YO]at e;subst e;have hc:=hp _ rfl;refine⟨Kl (fun c h=>by rw[Zj]at h;cases h) fun μ w ρ hB XP=> ?_,Shape.same _ _ _⟩;have hv:=XP x (by simp[Zj,Op.operands]) _ hx;obtain⟨v',h1,h2⟩:=hc w hB;generalize hg:ρ x=u at hv;cases hv with
     |ptr har=>obtain⟨im,_,h2,_⟩:=har;cases h2
     |YF=>exact⟨v',by simp[execOp,Zj,hg,Instr.loadAt,Instr.sureAddr,loadVar,Ko hag,run_load,k8,h1],h2 μ⟩
    ·cases e
   ·cases e
  ·cases e
 ·-- a comparison of structs
  rename_i b;split at e
  ·rename_i op t x y ty Zj;split at e
   ·rename_i xs ys hx hy;cases hgt:P.eqGuardType P.depth t with
    |true=>rw[hgt]at e;cases e
    |false=>
     rw[hgt]at e;simp only[cond_false]at e;have vals:VM (.agg xs)=true->VM (.agg ys)=true->∀(μ:Mu) (ρ:Operand->Value),(∀x∈o.op.operands,∀v,Zd T x=some v->VR μ v (ρ x))->ρ x=.agg xs/\ρ y=.agg ys:=fun h1 h2 μ ρ XP=>
      ⟨Tj h1 (XP x (by simp[Zj,Op.operands]) _ hx),Tj h2 (XP y (by simp[Zj,Op.operands]) _ hy)⟩
     split at e
     ·split at e
      ·rename_i r hr;cases hl:(VM (.agg xs) && VM (.agg ys))with
       |false=>simp only[hl]at e;cases e
       |true=>
        simp only[hl,cond_true,YO]at e;subst e;have Ym:r=b:=hp _ rfl;subst Ym;simp only[YB]at hl;refine⟨Kl (fun c h=>by rw[Zj]at h;cases h) fun μ w ρ _ XP=> ?_,Shape.same _ _ _⟩;obtain⟨e1,e2⟩:=vals hl.1 hl.2 μ ρ XP;refine⟨.bool r, ?_,.bool _⟩;simp[execOp,Zj,e1,e2,run_eqGuard_agg w _ t x y xs ys hgt,run_eql_struct,sg 100 t _ _ r hr 10000 w (by omega)]
      ·cases e
     ·split at e
      ·rename_i r hr;cases hl:(VM (.agg xs) && VM (.agg ys))with
       |false=>simp only[hl]at e;cases e
       |true=>
        simp only[hl,cond_true,YO]at e;subst e;have Ym:(!r)=b:=hp _ rfl;subst Ym;simp only[YB]at hl;refine⟨Kl (fun c h=>by rw[Zj]at h;cases h) fun μ w ρ _ XP=> ?_,Shape.same _ _ _⟩;obtain⟨e1,e2⟩:=vals hl.1 hl.2 μ ρ XP;refine⟨.bool (!r), ?_,.bool _⟩;simp[execOp,Zj,e1,e2,run_eqGuard_agg w _ t x y xs ys hgt,binOp,Op.equal,Op.maxDepth,sg 100 t _ _ r hr 10000 w (by omega)]
      ·cases e
     ·cases e
   ·cases e
  ·cases e
 ·-- a slice's length
  rename_i m;split at e
  ·rename_i c Zj;split at e
   ·rename_i hc;split at e
    ·rename_i x t ha ht;split at e
     ·rename_i v el hx hu;rw[Zx]at hu;simp only[YO]at e;subst e;refine⟨Kl (fun c h=>by rw[Zj]at h;cases h) fun μ w ρ hB XP=> ?_,Shape.same _ _ _⟩;have ea:c.args=#[x]:=by rw[<-ha]
      have et:c.argTypes=#[t]:=by rw[<-ht]
      obtain⟨a,cp,hv⟩:=hp _ rfl μ _ (XP x (by simp[Zj,Op.operands,Call.operands,hc,ea]) _ hx);refine⟨.int .i64 m, ?_,.int _ _⟩;simp[execOp,Zj,resolve,hc,invoke,builtin,ea,et,hv,Builtin.len_,run_underlying hu,goInt]
     ·cases e
    ·cases e
   ·cases e
  ·cases e
 ·-- append
  rename_i cs';split at e
  ·rename_i c Zj;split at e
   ·rename_i hcal;split at e
    ·rename_i s x t t' ha ht;cases htt:Lf t t' with
     |false=>rw[htt]at e;cases e
     |true=>
      rw[htt]at e;simp only[cond_true]at e;split at e
      ·rename_i sv xv hs hx;split at e
       ·rename_i v H1 n1 R W p hap;cases hR:R.all (fun i=>Lr i n)with
        |false=>rw[hR]at e;cases e
        |true=>
         rw[hR]at e;simp only[cond_true,YO]at e;subst e;have hpp:p:=hp _ rfl;refine plain (s:=⟨.ret v,H1,n1,R,W⟩) ?_;have hca:VZ P t H n sv xv=some ⟨.val v,H1,n1,R,W⟩:=by
          unfold NY at hap;unfold VZ;split at hap
          ·rename_i e1 hue;rw[hue];simp only;split at hap
           ·rename_i inf1 hinf;rw[hinf];simp only;split at hap
            ·rename_i zv z hzv ZW;rw[hzv,ZW];simp only;split at hap
             ·rename_i b k s';split at hap
              ·rename_i cs te hg;split at hap
               ·rename_i ns m bx hns;cases hq:(Lf te e1 && Lf s' (z+1) && ones ns && Lf zv.cells.size (z+1) && Lr 0 m)with
                |false=>rw[hq]at hap;cases hap
                |true=>
                 rw[hq]at hap;simp only[cond_true,YO,YR,CR.mk.injEq,CN.val.injEq]at hap;obtain⟨⟨rfl,rfl,rfl,rfl,rfl⟩,rfl⟩:=hap;obtain⟨p1,p2,p3,p4⟩:=hpp;simp only[YB]at hq;obtain⟨⟨⟨⟨q1,q2⟩,q3⟩,q4⟩,q5⟩:=hq;have hh:Sp H e1 (z+1) (.slice (some ⟨b,0,none⟩) k s')=some (cs,k,some b):=by
                  simp[Sp,hg,YE q1,YE q2,p1]
                 rw[hh,hns];simp only[q3,q4,q5,LH p2,LH p3,Bool.and_self,cond_true,p4];rfl
               ·cases hap
              ·cases hap
             ·cases hap
            ·cases hap
           ·cases hap
          ·cases hap
         have hbr:bare sv=sv:=by
          unfold bare;split
          ·exfalso;unfold NY at hap;repeat' (first|(cases hap;done)|split at hap)
          ·rfl
         have hcop:sL P F (Zd T) o H n=some ⟨.val v,H1,n1,R,W⟩:=by simp[sL,Zj,hcal,ha,ht,hs,hx,xY,htt,hbr,hca]
         have hcr:Ss P F (Zd T) o H n=some ⟨.val v,H1,n1,R,W⟩:=by
          simp only[Ss,hcop,hR,cond_true]
         simp[dn,Zj,hcr]
       ·cases e
      ·cases e
    ·cases e
   ·cases e
  ·cases e
 ·-- make
  rename_i m cs;split at e
  ·rename_i t l c Zj;split at e
   ·rename_i x y hx hy;split at e
    ·rename_i el hu1;split at e
     ·rename_i z hz;simp only[YO]at e;subst e;have hc:=hp _ rfl;exact plain (s:=⟨.ret (.slice (some ⟨n,0,none⟩) m z),(n,.cells cs el (0,0))::H,n+1,[],[]⟩) (by simp[dn,Zj,Ss,sL,hx,hy,hc])
     ·cases e
    ·cases e
   ·cases e
  ·cases e
 ·-- a store
  rename_i cs';split at e
  ·rename_i t ad x Zj;split at e
   ·rename_i b off v hx hy;split at e
    ·rename_i cs te hg;split at e
     ·rename_i z hz;cases hq:(Lr b n && Lf v.cells.size z && ones v.cells)with
      |false=>rw[hq]at e;cases e
      |true=>
       rw[hq]at e;simp only[cond_true,YO]at e;subst e;obtain⟨h1,h2⟩:=hp _ rfl;simp only[YB]at hq;have Zh:Su P t H v (.pointer (some ⟨b,off,none⟩))=some (VA H b (.cells cs' te (0,0)),b):=by
        simp only[Su,hg,hz,hq.1.2,hq.2,LH h1,Bool.and_self,cond_true,h2]
       exact plain (s:=⟨.ret undef,VA H b (.cells cs' te (0,0)),n,[b],[b]⟩) (by simp[dn,Zj,Ss,sL,hx,hy,Zh,hq.1.1])
     ·cases e
    ·cases e
   ·cases e
  ·cases e
 ·-- a call
  rename_i keys out Yl n' W;split at e
  ·rename_i c Zj;split at e
   ·rename_i g args H1 n1 R W1 hcr;cases hn:(Lf n1 n && W1.isEmpty)with
    |false=>rw[hn]at e;cases e
    |true=>
     rw[hn]at e;simp only[cond_true,YO]at e;subst e;simp only[YB,List.isEmpty_iff]at hn;obtain⟨JV,rfl⟩:=hn;have JV:=YE JV;subst JV;have hu1:Under H1 n1:=hu.shape (gS hu (om hcr).1);have hcj:=hp _ rfl H1 hu1 (fun p hp=>by
      obtain⟨k,_,rfl⟩:=List.mem_map.1 hp;rfl)
     have hk:(keys.map fun k=>(k,Qw H1 k)).map (·.1)=keys:=by
      rw[List.map_map];exact List.map_id' _
     rw[hk]at hcj;have ZX:Ws P B (fun g' a' H' m'=>open Classical in if g'=g/\a'=args/\H'=H1/\m'=n1 then some ⟨.ret out,Yl++H1,n',keys,W⟩else none):=by
      intro g' a' H' m' s _ h;simp only at h;split at h
      ·rename_i q;obtain⟨rfl,rfl,rfl,rfl⟩:=q;simp only[YO]at h;subst h;exact hcj
      ·cases h
     have:=YV hF P2 ZX hu (T:=T) (o:=o) (s:=⟨.ret out,Yl++H1,n',R++keys,W⟩) (by
      simp[dn,Zj,hcr])
     exact this
   ·rename_i l fn tm cda cdb H1 n1 R W1 hcr;cases hn:(Lf n1 n && W1.isEmpty && LR tm.size 16000)with
    |false=>rw[hn]at e;cases e
    |true=>
     rw[hn]at e;simp only[cond_true,YO]at e;subst e;simp only[YB,List.isEmpty_iff]at hn;obtain⟨⟨JV,rfl⟩,ZW⟩:=hn;have JV:=YE JV;subst JV;have hu1:Under H1 n1:=hu.shape (gS hu (om hcr).1);have hrj:=hp _ rfl;have Vs:=RJ.recS hu1 hrj;have:=YV hF Vs (QJ P B) hu (T:=T) (o:=o) (s:=⟨.ret out,Yl++H1,n',R++keys,W⟩) (by
      simp[dn,Zj,hcr,ZW,S0])
     exact this
   ·cases e
  ·cases e
 ·-- what is found in a map
  rename_i v;split at e
  ·rename_i t x k ok Zj;split at e
   ·rename_i r kv hx hk;split at e
    ·rename_i es RZ hg;cases hq:Lr r n with
     |false=>rw[hq]at e;cases e
     |true=>
      rw[hq]at e;simp only[cond_true,YO]at e;subst e;have hl:=hp _ rfl H r RZ hg;exact plain (s:=⟨.ret v,H,n,[r],[]⟩) (by simp[dn,Zj,Ss,sL,hx,hk,hl,hq])
    ·cases e
   ·cases e
  ·cases e
 ·-- what a map becomes
  rename_i KA clk';split at e
  ·rename_i t m k x Zj;split at e
   ·rename_i r kv v hm hk hx;split at e
    ·rename_i es RZ hg;cases hq:Lr r n with
     |false=>rw[hq]at e;cases e
     |true=>
      rw[hq]at e;simp only[cond_true,YO]at e;subst e;have hl:=hp _ rfl H r hg;exact plain (s:=⟨.ret undef,VA H r (.map KA clk'),n,[r],[r]⟩) (by simp[dn,Zj,Ss,sL,hm,hk,hx,hl,hq])
    ·cases e
   ·cases e
  ·cases e
 ·-- nothing behind nothing
  split at e
  ·rename_i c Zj;split at e
   ·rename_i hcal;split at e
    ·rename_i s x t t' ha ht;cases htt:Lf t t' with
     |false=>rw[htt]at e;cases e
     |true=>
      rw[htt]at e;simp only[cond_true]at e;have htt:=YE htt;subst htt;split at e
      ·rename_i hs hx;split at e
       ·rename_i el hue;split at e
        ·rename_i z hz;simp only[YO]at e;subst e;have ea:c.args=#[s,x]:=by rw[<-ha]
         have et:c.argTypes=#[t,t]:=by rw[<-ht]
         refine⟨Kl (fun c h=>by rw[Zj]at h;cases h) fun μ w ρ _ XP=> ?_,Shape.same _ _ _⟩;have h1:=Tj (v:=.slice none 0 0) rfl (XP s (by simp[Zj,Op.operands,Call.operands,hcal,ea]) _ hs);have h2:=Tj (v:=.slice none 0 0) rfl (XP x (by simp[Zj,Op.operands,Call.operands,hcal,ea]) _ hx);refine⟨.slice none 0 0, ?_,.Rm 0 0⟩;have hr:=oM (ty:=o.type) hue hz w;simp[execOp,Zj,resolve,hcal,invoke,builtin,ea,et,hr,h1,h2]
        ·cases e
       ·cases e
      ·cases e
    ·cases e
   ·cases e
  ·cases e
end
end Go.CE

namespace Go.CE
open Go Go.RowKit

def Q3:List Prop->Prop
 |[]=>True
 |p::l=>p/\Q3 l
abbrev sF:=List (Nat×Hint)
def told(sc:sF)(q:Nat):Option Hint×sF:=match sc with
 |(k,h)::l=>bif Lf k q then(some h,l)else(none,sc)
 |[]=>(none,[])
structure RR where
 Qz:List Rec
 T:Tm
 H:Qt
 n:Nat
 sc:sF
 q:Nat
 L:List Prop
def more(p:Option Prop)(L:List Prop):List Prop:=match p with|some p=>p::L|none=>L
def MN(P:Program)(F:FuncId->Bool)(B:Lo)(ops:Array Oper):List Oper->Tm->Qt->Nat->sF->Nat->List Prop->Option RR
 |[],T,H,n,sc,q,L=>some ⟨[],T,H,n,sc,q,L⟩
 |o::l,T,H,n,sc,q,L=>
  bif Rq T o.dst then
   bif Region.wanted o (XO ops T)then
    match told sc q with
    |(h,sc')=>match O9 P F B T o H n h with
     |some ⟨⟨.ret v,H1,n1,R,W⟩,p⟩=>match MN P F B ops l (VB T o.dst v) H1 n1 sc' (q+1) (more p L)with
      |some r=>some {r with Qz:=⟨o,true,v,T,H,H1,n,n1,R,W⟩::r.Qz}
      |none=>none
     |_=>none
   else match MN P F B ops l (VB T o.dst undef) H n sc (q+1) L with
    |some r=>some {r with Qz:=⟨o,false,undef,T,H,H,n,n,[],[]⟩::r.Qz}
    |none=>none
  else none
inductive SR where
 |at (c:CF) (H:Qt) (n:Nat)
 |fin (out:OO) (H:Qt) (n:Nat)
structure ST where
 r:SR
 W:List Nat
 L:List Prop
def Hk(P:Program)(F:FuncId->Bool)(B:Lo)(c:CF)(H:Qt)(n:Nat)(f:Operand)(params:Array Tmp)(assign body:Code)(k:List Item)(keys:List Nat)(out:Value)(Yl:Qt)(n':Nat)(W:List Nat):Option (CF×Qt×Prop):=
 match Zd c.tmps f with
 |some fv=>match Kh c H n params assign body with
  |some (H1,l,ds,_)=>match Sa F H1 fv #[.func (.yield l) #[] #[]]with
   |some (.enter g args,_)=>match ZY P g args with
    |some c1=>some ({c with todo:=.endRangeFunc l::k,defers:=ds++c.defers},Yl++H1,RJ P B c1 (keys.map fun k=>(k,Qw H1 k)) (l+1) out Yl n' W)
    |none=>none
   |_=>none
  |none=>none
 |none=>none
section
variable {P:Program} {F:FuncId->Bool} {B:Lo}
theorem fO{p:Option Prop}{L:List Prop}(h:Q3 (more p L)):(∀x,p=some x->x)/\Q3 L:=by
 cases p with
 |none=>exact⟨(fun x h=>by cases h),h⟩
 |some p=>exact⟨(fun x e=>by cases e;exact h.1),h.2⟩
theorem sd{c:CF}{H:Qt}{n:Nat}(Zm:P.follows .mixedOrders=true){id:Nat}{ops:Array Oper}{draw:Bool}{k:List Item}{Qz:List Rec}{T':Tm}{H':Qt}{n':Nat}(hm:c.mode=.run)
 (ht:c.todo=.code (.region id ops draw)::k) (hs:∀x∈Qz,cn c.tmps.len x) (hk:∀x∈Qz,Se P B ops x) (Sq:Yf Qz c.tmps H n T' H' n') (hmap:Qz.map (·.o)=ops.toList) (hd:(!draw || (WV 0 ops.toList && indep ops 0 Qz (Py ops.toList [])))=true):
 GoJ P B c H n {c with tmps:=T',todo:=k} H' n' (Y5 Qz) (Ub Qz):=by
 have hown:=K8 (l:=ops.toList) (l2:=[]) (by rw[List.append_nil];exact hmap) rfl;have hlen:Qz.length=ops.size:=by have:=congrArg Ld hmap;simpa using this
 refine⟨ZZ Qz _ _ _ _ _ _ Sq hs,fun S μ w fr cs Z QE hB hS hf XF hR=> ?_⟩;obtain⟨a,b,d⟩:=XF.running hm;rw[ht]at d;obtain⟨L',e,hL⟩:=d.code;cases draw with
 |false=>
  obtain⟨μ',A',w',hp,hT,Zh⟩:=b5 (fr:=fr) (cs:=cs) (k:=L') a Qz 0 c.tmps H n T' H' n' [] Sq hs hk (fun j r hj=>by rw[LD];exact hown j r hj) rfl S μ w fr.tmps QE hB hS hf hR b;rw[List.append_nil,hlen]at Zh;exact⟨{fr with tmps:=A',todo:=L'},w',μ',hp,⟨XF.fn,hT,fun _=>hL.mono (hp.mu hf),XF.defers.mono (hp.mu hf),XF.mode.mono (hp.mu hf),XF.kind,XF.round.mono (hp.mu hf)⟩,rfl,rfl,
   .head (Wp a e) (Zh.trans (.one (Ug a)))⟩
 |true=>
  simp only[Bool.not_true,Bool.false_or,YB]at hd;have hedge:∀(q:Nat) o,ops[q]? =some o->∀e∈o.after,Region.binds .any e=true->e.on<q:=by
   intro q o ho e he hb;have:=Pv ops.toList 0 hd.1 q o (by rw[Lq];exact ho) e he hb;omega
  have hbef:=s8 ops.toList (fun q o ho=>hedge q o (by simpa using ho));have VA:Setup P B ops Qz (Py ops.toList []) c.tmps H n T' H' n':=⟨Sq,hs,hown,hlen,by simpa using hbef.1,TO Qz _ 0 hd.2,hedge⟩
  obtain⟨μ',A',w',hp,hT,Zh⟩:=ic Zm VA hk QE hS hR hf hB (fr:=fr) (cs:=cs) (id:=id) (k:=L') a b e;exact⟨{fr with tmps:=A',todo:=L'},w',μ',hp,⟨XF.fn,hT,fun _=>hL.mono (hp.mu hf),XF.defers.mono (hp.mu hf),XF.mode.mono (hp.mu hf),XF.kind,XF.round.mono (hp.mu hf)⟩,rfl,rfl,Zh⟩
def OX(P:Program)(B:Lo)(c:CF)(H:Qt)(n:Nat)(R W:List Nat):SR->Prop
 | .at c' H' n'=>GoJ P B c H n c' H' n' R W
 | .fin out H' n'=>FJ P B c H n out H' n' R W
theorem GoJ.srj{c c':CF}{H H':Qt}{n n':Nat}{R R' W W':List Nat}{r:SR}(h:GoJ P B c H n c' H' n' R W)(k:OX P B c' H' n' R' W' r):OX P B c H n (R++R') (W++W') r:=by
 cases r with
 | «at»=>exact h.trans k
 |fin=>exact h.fj k
theorem xE(hF:∀g,F g=true->Q6 P g=true)(Zm:P.follows .mixedOrders=true){c c':CF}{H H':Qt}{n n':Nat}{f:Operand}{params:Array Tmp}{assign body:Code}{k:List Item}{keys W:List Nat}{out:Value}{Yl:Qt}{p:Prop}(hu:Under H n)(hm:c.mode=.run)(ht:c.todo=.code (.rangeFunc f params assign body)::k)
 (h:Hk P F B c H n f params assign body k keys out Yl n' W=some (c',H',p)) (hp:p):∃R,GoJ P B c H n c' H' n' R W:=by
 unfold Hk at h;split at h
 ·rename_i fv hfv;split at h
  ·rename_i H1 l ds R1 ho;split at h
   ·rename_i g args R2 hc;split at h
    ·rename_i c1 he;simp only[YO,YR]at h;obtain⟨rfl,rfl,rfl⟩:=h;have hu1:Under H1 (l+1):=hu.shape (aZ (P:=P) (B:=B) hu ho).1;have Vs:=RJ.recS hu1 hp;refine⟨R1++R2++keys, ?_⟩;have:RV P F X1 (Tt c1 H1 (l+1) ⟨.ret out,Yl++H1,n',keys,W⟩) c H n=some (.go {c with todo:=.endRangeFunc l::k,defers:=ds++c.defers} (Yl++H1) n' (R1++R2++keys) W):=by
      unfold RV;simp only[hm,ht,hfv,ho,hc,he,S0]
     exact Vw hF Zm (QJ P B) Vs hu this
    ·cases h
   ·cases h
  ·cases h
 ·cases h
end
end Go.CE
