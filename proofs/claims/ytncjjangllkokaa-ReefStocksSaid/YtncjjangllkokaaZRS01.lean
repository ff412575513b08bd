/- CE: canonical memory, and what it has to do with a world. Nothing of any program stands here. -/
import Derived.Calls
import Derived.Below
import Derived.Laws.AppendOwn
import Derived.Laws.OwnMore
import Derived.Maps.AppendAt
import Derived.Lib.AppendZeros
import Derived.Orders
import Derived.Laws.CopyRow
import Derived.Laws.Rows
import Derived.Laws.Tables
import Derived.Great.BuildSlice
import Derived.Laws.MakeOwn
set_option linter.all false
open Nat renaming ble->LR,beq->Lf,le_refl->LI,zero_add->LD,blt->Lr
open Array renaming eq_empty_of_size_eq_zero->LO,getElem?_toList->Lq,getElem?_extract->LX
open List renaming mem_append_right->Lw,mem_append_left->Ln,append_assoc->LY,getElem?_append_left->Lx,getElem?_take_of_lt->L0,getElem?_append_right->Lm,range->Ll,getElem?_map->LF,getElem?_eq_none->LG,mem_cons_of_mem->Lt,getElem?_cons_zero->Lu
open Option renaming map_some->LL
namespace Go.CE
theorem YO{α:Type _}{a b:α}:(some a=some b)=(a=b):=Option.some.injEq a b
theorem YR{α:Type _}{β:Type _}(a:α)(b:β)(c:α)(d:β):((a,b)=(c,d))=(a=c/\b=d):=Prod.mk.injEq a b c d
theorem YB(a b:Bool):((a&&b)=true)=(a=true/\b=true):=Bool.and_eq_true a b
theorem YL{n m:Nat}(h:LR n m=true):n<=m:=Nat.le_of_ble_eq_true h
theorem YE{n m:Nat}(h:Lf n m=true):n=m:=Nat.eq_of_beq_eq_true h
end Go.CE
namespace Go.CE
abbrev YI(n:Int):Go.Value:=Go.Value.int .i64 n
end Go.CE
namespace Go.CE
open Go Go.RowKit

structure c7 where
 Zt:Nat
 off:Nat
 cap:Nat
 rw:Bool
 fm:Nat->Option Obj
def aj:Nat->Option Obj:=fun _=>none
abbrev Mu:=Nat->Option c7
def AR(μ:Mu)(a a':Addr):Prop:=∃im,μ a.block=some im/\a.spot=none/\a'=⟨im.Zt,im.off+a.off,none⟩

def simple:Value->Bool
 | .bool _| .int _ _| .string _| .pointer none| .slice none _ _| .map none| .nilFunc| .nilIface=>true
 | .func (.func _) xs ys=>xs.size==0 && ys.size==0
 |_=>false
def QH(n:Nat)(cs:Array Value):Value:=.func (.via n #[] 0 false) #[] cs
def SK(off:Nat)(cs:Array Value):Value:=.func (.via off #[] 1 true) #[] cs
inductive TRv (fm:Nat->Option Obj):Value->Value->Prop
 |simple {v}:simple v=true->TRv fm v v
 |agg {xs xs'}:xs.size=xs'.size->(∀(i:Nat) v v',xs[i]? =some v->xs'[i]? =some v'->TRv fm v v')->TRv fm (.agg xs) (.agg xs')
 |tuple {xs xs'}:xs.size=xs'.size->(∀(i:Nat) v v',xs[i]? =some v->xs'[i]? =some v'->TRv fm v v')->TRv fm (.tuple xs) (.tuple xs')
 |iface {t v v'}:TRv fm v v'->TRv fm (.iface t v) (.iface t v')
 |func {f xs xs' ys ys'}:xs.size=xs'.size->ys.size=ys'.size->(∀(i:Nat) v v',xs[i]? =some v->xs'[i]? =some v'->TRv fm v v')->(∀(i:Nat) v v',ys[i]? =some v->ys'[i]? =some v'->TRv fm v v')->
  TRv fm (.func (.func f) xs ys) (.func (.func f) xs' ys')
 |slice {n cs b o c' arr t fl}:n<=c'->c'<=maxLen->fm b=some (.cells arr t fl)->(∀i,i<cs.size->o+i<arr.size)->(∀(i:Nat) v v',cs[i]? =some v->arr[o+i]? =some v'->TRv fm v v')->TRv fm (QH n cs) (.slice (some ⟨b,o,none⟩) n c')
 |nil:TRv fm (QH 0 #[]) (.slice none 0 0)
 |empty {a c'}:c'<=maxLen->TRv fm (QH 0 #[]) (.slice (some a) 0 c')
 |ptr {off cs b o arr t fl}:fm b=some (.cells arr t fl)->(∀i,i<cs.size->o+i<arr.size)->(∀(i:Nat) v v',cs[i]? =some v->arr[o+i]? =some v'->TRv fm v v')->TRv fm (SK off cs) (.pointer (some ⟨b,o+off,none⟩))
def Q2(r:Nat)(t:Value):Value:=.func (.via r #[] 0 true) #[t] #[]
def WI:Value->Bool
 | .func _ _ _=>true
 |_=>false
def k8:Nat->Option Nat
 |0=>none
 |k+1=>some k
abbrev bc:Value:=.chan (some 0)
inductive VR (μ:Mu):Value->Value->Prop
 |bool (b):VR μ (.bool b) (.bool b)
 |int (k n):VR μ (.int k n) (.int k n)
 |string (s):VR μ (.string s) (.string s)
 |nilPtr:VR μ (.pointer none) (.pointer none)
 |ptr {a a'}:AR μ a a'->VR μ (.pointer (some a)) (.pointer (some a'))
 |Rm (n c):VR μ (.slice none n c) (.slice none n c)
 |slice {a a' n s c'}:AR μ a a'->n<=c'->c'<=maxLen->(s≠0->∀im,μ a.block=some im->im.rw=true->a.off=0->c'*s=im.cap)->VR μ (.slice (some a) n s) (.slice (some a') n c')
 |nilMap:VR μ (.map none) (.map none)
 |map {r im}:μ r=some im->VR μ (.map (some r)) (.map (some im.Zt))
 |func {f xs xs' ys ys'}:xs.size=xs'.size->ys.size=ys'.size->(∀(i:Nat) v v',xs[i]? =some v->xs'[i]? =some v'->VR μ v v')->(∀(i:Nat) v v',ys[i]? =some v->ys'[i]? =some v'->VR μ v v')->
  VR μ (.func (.func f) xs ys) (.func (.func f) xs' ys')
 |yield {l im}:μ l=some im->VR μ (.func (.yield l) #[] #[]) (.func (.yield im.Zt) #[] #[])
 |nilFunc:VR μ .nilFunc .nilFunc
 |nilIface:VR μ .nilIface .nilIface
 |iface {t v v'}:VR μ v v'->VR μ (.iface t v) (.iface t v')
 |agg {xs xs'}:xs.size=xs'.size->(∀(i:Nat) v v',xs[i]? =some v->xs'[i]? =some v'->VR μ v v')->VR μ (.agg xs) (.agg xs')
 |tuple {xs xs'}:xs.size=xs'.size->(∀(i:Nat) v v',xs[i]? =some v->xs'[i]? =some v'->VR μ v v')->VR μ (.tuple xs) (.tuple xs')
 |YF (b o k):VR μ (.pointer (some ⟨b,o,some k⟩)) (.pointer (some ⟨b,o,k8 k⟩))
 |rawSlice (b o k n c):VR μ (.slice (some ⟨b,o,some k⟩) n c) (.slice (some ⟨b,o,k8 k⟩) n c)
 |top {r t v' im}:WI t=true->μ r=some im->TRv im.fm t v'->VR μ (Q2 r t) v'
 |Yz {v'}:(∀b,v'≠.bool b)->v'.cells=#[v']->v'.oneCell'=true->VR μ (.chan none) v'
 |noCap {a}:VR μ bc (.slice a 0 0)
def VRs(μ:Mu)(xs xs':Array Value):Prop:=xs.size=xs'.size/\∀(i:Nat) v v',xs[i]? =some v->xs'[i]? =some v'->VR μ v v'

def Ext(μ μ':Mu):Prop:=∀k im,μ k=some im->μ' k=some im
theorem Ext.refl(μ:Mu):Ext μ μ:=fun _ _ h=>h
theorem Ext.trans{a b c:Mu}(h:Ext a b)(k:Ext b c):Ext a c:=fun _ _ x=>k _ _ (h _ _ x)
theorem AR.mono{μ μ':Mu}(e:Ext μ μ'){a a':Addr}(h:AR μ a a'):AR μ' a a':=let⟨im,h1,h2⟩:=h;⟨im,e _ _ h1,h2⟩
theorem VR.mono{μ μ':Mu}(e:Ext μ μ'){v v':Value}(h:VR μ v v'):VR μ' v v':=by
 induction h with
 |bool b=>exact .bool b
 |int k n=>exact .int k n
 |string s=>exact .string s
 |nilPtr=>exact .nilPtr
 |ptr h=>exact .ptr (h.mono e)
 |Rm n c=>exact .Rm n c
 |slice h h1 h2 h3=>
  refine .slice (h.mono e) h1 h2 ?_;intro hs im QK;obtain⟨Z9,hi,_⟩:=h;rw[e _ _ hi]at QK;cases QK;exact h3 hs _ hi
 |nilMap=>exact .nilMap
 |map h=>exact .map (e _ _ h)
 |func h1 h2 _ _ h3 h4=>exact .func h1 h2 h3 h4
 |yield h=>exact .yield (e _ _ h)
 |nilFunc=>exact .nilFunc
 |nilIface=>exact .nilIface
 |iface _ h=>exact .iface h
 |agg h1 _ h=>exact .agg h1 h
 |tuple h1 _ h=>exact .tuple h1 h
 |YF b o k=>exact .YF b o k
 |rawSlice b o k n c=>exact .rawSlice b o k n c
 |top h h1 h2=>exact .top h (e _ _ h1) h2
 |Yz h h1 h2=>exact .Yz h h1 h2
 |noCap=>exact .noCap
theorem VRs.mono{μ μ':Mu}(e:Ext μ μ'){v v':Array Value}(h:VRs μ v v'):VRs μ' v v':=⟨h.1,fun i a b x y=>(h.2 i a b x y).mono e⟩
theorem VRs.get{μ:Mu}{xs xs':Array Value}(h:VRs μ xs xs'){i:Nat}{v:Value}(hi:xs[i]? =some v):∃v',xs'[i]? =some v'/\VR μ v v':=by
 have Xp:i<xs.size:=(Array.getElem?_eq_some_iff.1 hi).1;have hlt':i<xs'.size:=h.1 ▸ Xp;exact⟨xs'[i],by simp[hlt'],h.2 i v _ hi (by simp[hlt'])⟩

def sa:Value->Bool
 | .agg xs=>xs.all simple
 |v=>simple v
def af:Value->Bool
 | .agg xs=>xs.all simple
 | .tuple xs=>xs.all sa
 | .iface _ v=>sa v
 |v=>simple v
theorem ZO{μ:Mu}{v:Value}(h:simple v=true):VR μ v v:=by
 cases v with
 |bool b=>exact .bool b
 |int k n=>exact .int k n
 |string s=>exact .string s
 |pointer a=>cases a with
  |none=>exact .nilPtr
  |some a=>cases h
 |slice a n c=>cases a with
  |none=>exact .Rm n c
  |some a=>cases h
 |map r=>cases r with
  |none=>exact .nilMap
  |some a=>cases h
 |nilFunc=>exact .nilFunc
 |nilIface=>exact .nilIface
 |func fn xs ys=>cases fn with
  |func f=>
   simp only[simple,YB,beq_iff_eq]at h;exact .func rfl rfl (fun i v _ hv _=>by simp[Array.getElem?_eq_none (by omega:xs.size<=i)]at hv) (fun i v _ hv _=>by simp[Array.getElem?_eq_none (by omega:ys.size<=i)]at hv)
  |_=>cases h
 |_=>cases h
theorem simple_eq{μ:Mu}{v v':Value}(h:simple v=true)(hr:VR μ v v'):v'=v:=by
 cases hr <;> first|rfl|(simp[simple,Q2]at h;done)|skip
 case func f xs xs' ys ys' h1 h2 h3 h4=>
  simp only[simple,YB,beq_iff_eq]at h;have e1:xs=#[]:=LO h.1;have e2:ys=#[]:=LO h.2;subst e1 e2;have e3:xs'=#[]:=LO h1.symm;have e4:ys'=#[]:=LO h2.symm;rw[e3,e4]
theorem kG{μ:Mu}{xs xs':Array Value}(h:xs.all simple=true)(h1:xs.size=xs'.size)(h2:∀(i:Nat) v v',xs[i]? =some v->xs'[i]? =some v'->VR μ v v'):xs'=xs:=by
 refine Array.ext h1.symm fun i hi hi'=> ?_
 have:=h2 i xs[i] xs'[i] (by simp[hi']) (by simp[hi]);exact simple_eq (Array.all_eq_true.1 h i hi') this
theorem Em{μ:Mu}{v:Value}(h:sa v=true):VR μ v v:=by
 cases v with
 |agg xs=>
  refine .agg rfl fun i v v' hv ZQ=> ?_
  rw[hv]at ZQ;cases ZQ;obtain⟨hi,rfl⟩:=Array.getElem?_eq_some_iff.1 hv;exact ZO (Array.all_eq_true.1 h i hi)
 |_=>exact ZO h
theorem PC{μ:Mu}{v:Value}(h:af v=true):VR μ v v:=by
 cases v with
 |agg xs=>exact Em h
 |tuple xs=>
  refine .tuple rfl fun i v v' hv ZQ=> ?_
  rw[hv]at ZQ;cases ZQ;obtain⟨hi,rfl⟩:=Array.getElem?_eq_some_iff.1 hv;exact Em (Array.all_eq_true.1 h i hi)
 |iface t v=>exact .iface (Em h)
 |_=>exact ZO h
theorem MM{μ:Mu}{v v':Value}(h:sa v=true)(hr:VR μ v v'):v'=v:=by
 cases hr with
 |agg h1 h2=>rw[kG (μ:=μ) h h1 h2]
 |YF=>cases h
 |rawSlice=>cases h
 |_=>first|rfl|exact simple_eq (μ:=μ) h (by constructor <;> assumption)
theorem Np{μ:Mu}{xs xs':Array Value}(h:xs.all sa=true)(h1:xs.size=xs'.size)(h2:∀(i:Nat) v v',xs[i]? =some v->xs'[i]? =some v'->VR μ v v'):xs'=xs:=by
 refine Array.ext h1.symm fun i hi hi'=> ?_
 have:=h2 i xs[i] xs'[i] (by simp[hi']) (by simp[hi]);exact MM (Array.all_eq_true.1 h i hi') this
theorem Tj{μ:Mu}{v v':Value}(h:af v=true)(hr:VR μ v v'):v'=v:=by
 cases hr with
 |agg h1 h2=>rw[kG (μ:=μ) h h1 h2]
 |tuple h1 h2=>rw[Np (μ:=μ) h h1 h2]
 |iface hv=>rw[MM (μ:=μ) h hv]
 |YF=>cases h
 |rawSlice=>cases h
 |_=>first|rfl|exact simple_eq (μ:=μ) h (by constructor <;> assumption)
theorem VR.undef{μ:Mu}:VR μ undef undef:=PC (by simp[Go.undef,af])

abbrev Qt:=List (Nat×Obj)
def Qw:Qt->Nat->Option Obj
 |[],_=>none
 |(k,o)::h,n=>bif Lf n k then some o else Qw h n
def VA:Qt->Nat->Obj->Qt
 |[],_,_=>[]
 |(k,o)::h,n,x=>bif Lf n k then(k,x)::h else(k,o)::VA h n x
theorem ae{n k:Nat}(h:n≠k):Lf n k=false:=by
 cases e:Lf n k with
 |false=>rfl
 |true=>exact absurd (YE e) h
theorem QV(k:Nat)(o:Obj)(h:Qt)(n:Nat):Qw ((k,o)::h) n=if n=k then some o else Qw h n:=by
 simp only[Qw];by_cases e:n=k
 ·subst e;simp
 ·have:Lf n k=false:=ae e;simp[this,e]
theorem cc(h:Qt)(n:Nat)(x:Obj)(m:Nat):Qw (VA h n x) m=if m=n/\(Qw h n).isSome then some x else Qw h m:=by
 induction h with
 |nil=>simp[VA,Qw]
 |cons p h ih=>
  obtain⟨k,o⟩:=p;simp only[VA];by_cases e:n=k
  ·subst e;simp only[show Lf n n=true by simp,cond_true,QV];by_cases e2:m=n <;> simp[e2]
  ·have hb:Lf n k=false:=ae e;simp only[hb,cond_false,QV,ih,e,if_false];by_cases e2:m=n
   ·subst e2;simp[e]
   ·simp[e2]
end Go.CE

namespace Go.CE
open Go Go.RowKit

def live:Obj->Prop
 | .pending _ _| .coro _=>False
 |_=>True
def X8:Obj:=.coro none
def Wa:Obj->Prop
 | .coro _=>True
 |_=>False
def OR(μ:Mu)(w:World)(im:c7):Obj->Prop
 | .cells cs t fz=>(fz=(0,0)/\im.rw=true/\im.off=0/\∃arr,w.heap[im.Zt]? =some (.cells arr t (0,0))/\cs.size<=arr.size/\arr.size=im.cap/\∀(i:Nat) v,cs[i]? =some v->∃v',arr[i]? =some v'/\VR μ v v')\/
  (fz≠(0,0)/\∀(i:Nat) v,cs[i]? =some v->∃v',w.cell? ⟨im.Zt,im.off+i,none⟩=some v'/\VR μ v v')
 | .map es RZ=>im.rw=true/\∃KA,w.heap[im.Zt]? =some (.map KA RZ)/\es.size=KA.size/\∀(i:Nat) e e',es[i]? =some e->KA[i]? =some e'->e'.key=e.key/\e'.born=e.born/\af e.key=true/\VR μ e.val e'.val
 | .loop l=>im.rw=true/\∃tm df,w.heap[im.Zt]? =some (.loop {l with tmps:=tm,defers:=df})/\VRs μ l.tmps tm
 | .deferred ds=>im.rw=true/\w.heap[im.Zt]? =some (.deferred ds)/\(ds=some []\/ds=none)
 | .pending _ _=>True
 |_=>False
structure Ok (B:Nat) (S:Nat->Prop) (μ:Mu) (G:Nat->Option Obj) (w:World):Prop where
 rel:∀i o,S i->G i=some o->live o->∃im,μ i=some im/\OR μ w im o
 low:∀i o im,S i->G i=some o->live o->μ i=some im->im.Zt<w.heap.size/\(im.rw=true->B<=im.Zt)/\(im.rw=false->im.Zt<B)
 inj:∀i j oi oj a b,S i->S j->i≠j->G i=some oi->G j=some oj->live oi->live oj->μ i=some a->μ j=some b->a.rw=true->b.rw=true->a.Zt≠b.Zt
 P1:∀i o,S i->G i=some o->Wa o->∃im,μ i=some im/\∀b x,im.fm b=some x->w.heap[b]? =some x
 sep:∀i j oi oj a b x,S i->S j->G i=some oi->G j=some oj->Wa oi->live oj->μ i=some a->μ j=some b->b.rw=true->a.fm b.Zt≠some x
theorem Ok.sub{B:Nat}{S S':Nat->Prop}{μ:Mu}{G:Nat->Option Obj}{w:World}(h:Ok B S μ G w)(hs:∀i,S' i->S i):Ok B S' μ G w:=
 ⟨fun i o a=>h.rel i o (hs i a),fun i o im a=>h.low i o im (hs i a),fun i j oi oj x y a b=>h.inj i j oi oj x y (hs i a) (hs j b),fun i o a=>h.P1 i o (hs i a),fun i j oi oj x y z a b=>h.sep i j oi oj x y z (hs i a) (hs j b)⟩
structure Post (B:Nat) (S:Nat->Prop) (n n':Nat) (W:List Nat) (μ μ':Mu) (H H':Qt) (w w':World):Prop where
 ok:Ok B (fun i=>S i\/n<=i/\i<n') μ' (Qw H') w'
 le:n<=n'
 ext:∀i,¬(n<=i/\i<n')->μ' i=μ i
 keep:∀i,i<n->i ∉ W->Qw H' i=Qw H i
 grow:w.heap.size<=w'.heap.size
 frame:∀b,b<w.heap.size->(∀i,i∈W->i<n->∀im,μ i=some im->im.Zt≠b)->w'.heap[b]? =w.heap[b]?
 wr:∀i,i∈W->i<n->S i/\(∃o,Qw H i=some o/\live o)/\∃im,μ i=some im/\im.rw=true
 fresh:∀i im o,n<=i->i<n'->Qw H' i=some o->live o->μ' i=some im->im.rw=true/\
  (w.heap.size<=im.Zt\/∃k,k∈W/\k<n/\(∃Z9,μ k=some Z9/\Z9.Zt=im.Zt)/\∀o,Qw H' k=some o->¬live o)
 rf:∀i im o,(n<=i/\i<n'\/i∈W/\i<n)->Qw H' i=some o->Wa o->μ' i=some im->∀b x,im.fm b=some x->
  w.heap.size<=b\/(∃k UT ko,S k/\k<n/\Qw H k=some ko/\Wa ko/\μ k=some UT/\UT.fm b=some x)\/∃k,k∈W/\k<n/\(∃Z9,μ k=some Z9/\Z9.Zt=b)/\∀o,Qw H' k=some o->¬live o
 os:w'.os=w.os
 tape:w'.tape=w.tape
 output:w'.output=w.output
def P0(μ:Mu)(n n':Nat):Prop:=∀i,n<=i->i<n'->μ i=none
theorem Post.mu{B:Nat}{S:Nat->Prop}{n n':Nat}{W:List Nat}{μ μ':Mu}{H H':Qt}{w w':World}(h:Post B S n n' W μ μ' H H' w w')(hf:P0 μ n n'):Ext μ μ':=by
 intro k im hk;rw[h.ext k (fun hr=>by rw[hf k hr.1 hr.2]at hk;cases hk)];exact hk
theorem Post.refl{B:Nat}{S:Nat->Prop}{n:Nat}{μ:Mu}{H:Qt}{w:World}(h:Ok B S μ (Qw H) w):Post B S n n [] μ μ H H w w:=
 ⟨h.sub fun i hi=>hi.elim id fun x=>absurd x.1 (by omega),LI _,fun _ _=>rfl,fun _ _ _=>rfl,LI _,fun _ _ _=>rfl,fun _ h=>by simp at h,fun i im o h1 h2=>absurd h1 (by omega),fun i im o h=>h.elim (fun h=>absurd h.1 (by omega)) (fun h=>by simp at h),rfl,rfl,rfl⟩
theorem Post.trans{B:Nat}{S:Nat->Prop}{n n1 n2:Nat}{W1 W2:List Nat}{μ μ1 μ2:Mu}{H H1 H2:Qt}{w w1 w2:World}(h1:Post B S n n1 W1 μ μ1 H H1 w w1)
 (h2:Post B (fun i=>S i\/n<=i/\i<n1) n1 n2 W2 μ1 μ2 H1 H2 w1 w2):Post B S n n2 (W1++W2) μ μ2 H H2 w w2:=by
 have le1:=h1.le;have le2:=h2.le;have dead:∀k,k∈W1->k<n->(∀o,Qw H1 k=some o->¬live o)->∀o,Qw H2 k=some o->¬live o:=by
  intro k hk hn hd o ho;by_cases hw:k∈W2
  ·obtain⟨_,⟨o',Kt,hl⟩,_⟩:=h2.wr k hw (by omega);exact absurd hl (hd o' Kt)
  ·rw[h2.keep k (by omega) hw]at ho;exact hd o ho
 refine⟨h2.ok.sub fun i hi=> ?_,by omega,fun i hi=> ?_,fun i hi hw=> ?_,Nat.le_trans h1.grow h2.grow,fun b hb hw=> ?_,fun i hi hn=> ?_,fun i im o hi hi2 ho hl hm=> ?_,fun i im o hi ho hr hm b x hb=> ?_,
  h2.os.trans h1.os,h2.tape.trans h1.tape,h2.output.trans h1.output⟩
 ·rcases hi with hi|hi
  ·exact .inl (.inl hi)
  ·by_cases hx:i<n1
   ·exact .inl (.inr ⟨hi.1,hx⟩)
   ·exact .inr ⟨by omega,hi.2⟩
 ·rw[h2.ext i (by omega),h1.ext i (by omega)]
 ·rw[h2.keep i (by omega) (fun h=>hw (Lw _ h)),h1.keep i hi (fun h=>hw (Ln _ h))]
 ·have e1:=h1.frame b hb fun i hi=>hw i (Ln _ hi)
  rw[<-e1];refine h2.frame b (Nat.lt_of_lt_of_le hb h1.grow) fun i hi Rw im QK=> ?_
  by_cases hx:i<n
  ·rw[h1.ext i (by omega)]at QK;exact hw i (Lw _ hi) hx im QK
  ·obtain⟨_,⟨o,ho,hl⟩,_⟩:=h2.wr i hi Rw;obtain⟨_,hf⟩:=h1.fresh i im o (by omega) Rw ho hl QK;rcases hf with hf|⟨k,hk,hkn,⟨Z9,QS,hb'⟩,_⟩
   ·omega
   ·rw[<-hb'];exact hw k (Ln _ hk) hkn Z9 QS
 ·rcases List.mem_append.1 hi with hi1|hi2
  ·exact h1.wr i hi1 hn
  ·obtain⟨hs,⟨o,ho,hl⟩,im,QK,hr⟩:=h2.wr i hi2 (by omega);refine⟨hs.elim id fun x=>absurd x.1 (by omega), ?_,im, ?_,hr⟩
   ·by_cases hw:i∈W1
    ·exact(h1.wr i hw hn).2.1
    ·rw[h1.keep i hn hw]at ho;exact⟨o,ho,hl⟩
   ·rw[<-h1.ext i (by omega)];exact QK
 ·by_cases hx:n1<=i
  ·obtain⟨hr,hf⟩:=h2.fresh i im o hx hi2 ho hl hm;refine⟨hr, ?_⟩;rcases hf with hf|⟨k,hk,hkn,⟨Z9,QS,hb'⟩,hd⟩
   ·exact .inl (Nat.le_trans h1.grow hf)
   ·by_cases hkx:k<n
    ·exact .inr ⟨k,Lw _ hk,hkx,⟨Z9,by rw[<-h1.ext k (by omega)];exact QS,hb'⟩,hd⟩
    ·obtain⟨_,⟨o',Kt,hl'⟩,_⟩:=h2.wr k hk hkn;obtain⟨_,hf'⟩:=h1.fresh k Z9 o' (by omega) hkn Kt hl' QS;rcases hf' with hf'|⟨k',hk',hkn',⟨im'',WK,hb''⟩,hd'⟩
     ·exact .inl (by omega)
     ·exact .inr ⟨k',Ln _ hk',hkn',⟨im'',WK,by omega⟩,dead k' hk' hkn' hd'⟩
  ·rw[h2.ext i (by omega)]at hm;have hlive:∃o',Qw H1 i=some o'/\live o':=by
    by_cases hw:i∈W2
    ·exact(h2.wr i hw (by omega)).2.1
    ·rw[h2.keep i (by omega) hw]at ho;exact⟨o,ho,hl⟩
   obtain⟨o',Kt,hl'⟩:=hlive;obtain⟨hr,hf⟩:=h1.fresh i im o' hi (by omega) Kt hl' hm;refine⟨hr, ?_⟩;rcases hf with hf|⟨k,hk,hkn,QS,hd⟩
   ·exact .inl hf
   ·exact .inr ⟨k,Ln _ hk,hkn,QS,dead k hk hkn hd⟩
 ·have mid:∀k UT ko,(n<=k/\k<n1\/k∈W1/\k<n)->Qw H1 k=some ko->Wa ko->μ1 k=some UT->UT.fm b=some x->
   w.heap.size<=b\/(∃k UT ko,S k/\k<n/\Qw H k=some ko/\Wa ko/\μ k=some UT/\UT.fm b=some x)\/∃k,k∈W1++W2/\k<n/\(∃Z9,μ k=some Z9/\Z9.Zt=b)/\∀o,Qw H2 k=some o->¬live o:=by
   intro k UT ko hk hko hkr hkm hkb;rcases h1.rf k UT ko hk hko hkr hkm b x hkb with h|h|⟨k',a,c,d,e⟩
   ·exact .inl h
   ·exact .inr (.inl h)
   ·exact .inr (.inr ⟨k',Ln _ a,c,d,dead k' a c e⟩)
  by_cases hA:n1<=i/\i<n2\/i∈W2/\i<n1
  ·rcases h2.rf i im o hA ho hr hm b x hb with h|⟨k,UT,ko,hS,hk,hko,hkr,hkm,hkb⟩|⟨k,hk,hkn,⟨Z9,QS,hb'⟩,hd⟩
   ·exact .inl (Nat.le_trans h1.grow h)
   ·by_cases hx:n<=k/\k<n1\/k∈W1/\k<n
    ·exact mid k UT ko hx hko hkr hkm hkb
    ·have hkn:k<n:=by omega
     have hkw:k ∉ W1:=fun e=>hx (.inr ⟨e,hkn⟩)
     rw[h1.keep k hkn hkw]at hko;rw[h1.ext k (by omega)]at hkm;exact .inr (.inl ⟨k,UT,ko,hS.elim id fun e=>absurd e.1 (by omega),hkn,hko,hkr,hkm,hkb⟩)
   ·by_cases hkx:k<n
    ·exact .inr (.inr ⟨k,Lw _ hk,hkx,⟨Z9,by rw[<-h1.ext k (by omega)];exact QS,hb'⟩,hd⟩)
    ·obtain⟨_,⟨o',Kt,hl'⟩,_⟩:=h2.wr k hk hkn;obtain⟨_,hf'⟩:=h1.fresh k Z9 o' (by omega) hkn Kt hl' QS;rcases hf' with hf'|⟨k',hk',hkn',⟨im'',WK,hb''⟩,hd'⟩
     ·exact .inl (by omega)
     ·exact .inr (.inr ⟨k',Ln _ hk',hkn',⟨im'',WK,by omega⟩,dead k' hk' hkn' hd'⟩)
  ·have hi1:i<n1:=by
    rcases hi with hi|hi
    ·exact Nat.lt_of_not_le fun e=>hA (.inl ⟨e,hi.2⟩)
    ·omega
   have hw2:i ∉ W2:=fun e=>hA (.inr ⟨e,hi1⟩)
   rw[h2.keep i hi1 hw2]at ho;rw[h2.ext i (by omega)]at hm;refine mid i im o ?_ ho hr hm hb;rcases hi with hi|hi
   ·exact .inl ⟨hi.1,hi1⟩
   ·exact .inr ⟨(List.mem_append.1 hi.1).elim id fun e=>absurd e hw2,hi.2⟩
theorem Post.lists{B n n':Nat}{S:Nat->Prop}{W W':List Nat}{μ μ':Mu}{H H':Qt}{w w':World}(h:Post B S n n' W μ μ' H H' w w')(hW:∀i,i<n->(i∈W'<->i∈W)):Post B S n n' W' μ μ' H H' w w':=
 ⟨h.ok,h.le,h.ext,fun i hi hw=>h.keep i hi fun e=>hw ((hW i hi).2 e),h.grow,fun b hb hw=>h.frame b hb fun i hi hl=>hw i ((hW i hl).2 hi) hl,fun i hi hl=>h.wr i ((hW i hl).1 hi) hl,fun i im o h1 h2 ho hl hm=>by
  obtain⟨hr,hf⟩:=h.fresh i im o h1 h2 ho hl hm;exact⟨hr,hf.imp id fun⟨k,a,b,d⟩=>⟨k,(hW k b).2 a,b,d⟩⟩,fun i im o h1 ho hr hm b x hx=>by
  rcases h.rf i im o (h1.imp id fun h1=>⟨(hW i h1.2).1 h1.1,h1.2⟩) ho hr hm b x hx with e|e|⟨k,a,c,d⟩
  ·exact .inl e
  ·exact .inr (.inl e)
  ·exact .inr (.inr ⟨k,(hW k c).2 a,c,d⟩),h.os,h.tape,h.output⟩
structure Lo where
 B:Nat
 inv:World->Prop
 still:∀w w',(∀b,b<B->w'.heap[b]? =w.heap[b]?)->inv w->inv w'
instance:Coe Lo Nat:=⟨Lo.B⟩
structure Lo.has (L:Lo) (w:World):Prop where
 le:L.B<=w.heap.size
 inv:L.inv w
theorem Lo.has.post{L:Lo}{S:Nat->Prop}{n n':Nat}{W:List Nat}{μ μ':Mu}{H H':Qt}{w w':World}(h:L.has w)(QE:Ok L.B S μ (Qw H) w)(hp:Post L.B S n n' W μ μ' H H' w w'):L.has w':=by
 refine⟨Nat.le_trans h.le hp.grow,L.still w w' (fun b hb=>hp.frame b (Nat.lt_of_lt_of_le hb h.le) fun i hi Xp im QK=> ?_) h.inv⟩;obtain⟨hs,⟨o,ho,hl⟩,Z9,QS,Ry⟩:=hp.wr i hi Xp;rw[QK]at QS;cases QS;have:=(QE.low i o im hs ho hl QK).2.1 Ry;omega
end Go.CE

namespace Go.CE
open Go Go.RowKit

theorem OR.keep{μ μ':Mu}{w w':World}{im:c7}{o:Obj}(h:OR μ w im o)(e:Ext μ μ')(hw:w'.heap[im.Zt]? =w.heap[im.Zt]?):OR μ' w' im o:=by
 cases o with
 |cells cs t fz=>
  rcases h with ⟨hz,hr,ho,arr,ha,h1,h2,h3⟩|⟨hz,h3⟩
  ·exact .inl ⟨hz,hr,ho,arr,by rw[hw];exact ha,h1,h2,fun i v hv=>let⟨v',a,b⟩:=h3 i v hv;⟨v',a,b.mono e⟩⟩
  ·refine .inr ⟨hz,fun i v hv=> ?_⟩;obtain⟨v',a,b⟩:=h3 i v hv;exact⟨v',by rw[<-a];exact World.cell?_of_block (w:=w) hw,b.mono e⟩
 |map es RZ=>
  obtain⟨hr,KA,ha,h1,h2⟩:=h;exact⟨hr,KA,by rw[hw];exact ha,h1,fun i x y hx hy=>let⟨a,b,c,d⟩:=h2 i x y hx hy;⟨a,b,c,d.mono e⟩⟩
 |loop l=>
  obtain⟨hr,tm,df,ha,h1⟩:=h;exact⟨hr,tm,df,by rw[hw];exact ha,h1.mono e⟩
 |deferred ds=>exact⟨h.1,by rw[hw];exact h.2.1,h.2.2⟩
 |pending=>trivial
 |_=>exact h.elim
def upd(μ:Mu)(n:Nat)(im:c7):Mu:=fun k=>if k=n then some im else μ k
theorem Yn{μ:Mu}{n:Nat}{im:c7}(h:μ n=none):Ext μ (upd μ n im):=by
 intro k Z9 hk;unfold upd;by_cases e:k=n
 ·subst e;rw[h]at hk;cases hk
 ·simp[e,hk]
theorem X3{μ:Mu}{n:Nat}{im:c7}:upd μ n im n=some im:=by simp[upd]
theorem heap_alloc(w:World)(o:Obj):(w.alloc o).heap[w.heap.size]? =some o:=heap_alloc_new w o
theorem Sn{w:World}{o:Obj}{b:Nat}(h:b<w.heap.size):(w.alloc o).heap[b]? =w.heap[b]? :=Below.heap_alloc _ _ _ h
theorem Yw{μ:Mu}{w:World}{im:c7}{o:Obj}(h:OR μ w im o)(hr:Wa o):False:=by
 cases o <;> first|exact hr|exact h
theorem PI{B:Nat}{S:Nat->Prop}{μ:Mu}{G:Nat->Option Obj}{w:World}(QE:Ok B S μ G w){i:Nat}{o x:Obj}{a:c7}{b:Nat}(hi:S i)(ho:G i=some o)(hr:Wa o)(ha:μ i=some a)(hx:a.fm b=some x):b<w.heap.size:=by
 obtain⟨im,QK,h⟩:=QE.P1 i o hi ho hr;rw[ha]at QK;cases QK;exact(Array.getElem?_eq_some_iff.1 (h b x hx)).1
theorem Post.alloc{B:Nat}{S:Nat->Prop}{n:Nat}{μ:Mu}{H:Qt}{w:World}(QE:Ok B S μ (Qw H) w)(hB:B<=w.heap.size)(hS:∀i,S i->i<n)(hf:μ n=none)(o o':Obj)(cap:Nat)
 (ZU:OR (upd μ n ⟨w.heap.size,0,cap,true,aj⟩) (w.alloc o') ⟨w.heap.size,0,cap,true,aj⟩ o):Post B S n (n+1) [] μ (upd μ n ⟨w.heap.size,0,cap,true,aj⟩) H ((n,o)::H) w (w.alloc o'):=by
 have JU:∀i,S i->i≠n:=fun i hi=>by have:=hS i hi;omega
 have Rv:∀i,S i->upd μ n ⟨w.heap.size,0,cap,true,aj⟩ i=μ i:=fun i hi=>by simp[upd,JU i hi]
 have hg:∀i,S i->Qw ((n,o)::H) i=Qw H i:=fun i hi=>by rw[QV,if_neg (JU i hi)]
 have Ku:Qw ((n,o)::H) n=some o:=by rw[QV,if_pos rfl]
 refine⟨⟨fun i x hi hx hl=> ?_,fun i x im hi hx hl hm=> ?_,fun i j x y a b hi hj TS hx hy hlx hly ha hb hra Ym=> ?_,fun i x hi hx hr=> ?_,fun i j x y a b u hi hj hx hy hrx hly ha hb Ym hu=> ?_⟩,by omega,fun i hi=> ?_,fun i hi _=> ?_,by simp,fun b hb _=>Sn hb,fun i hi=>by simp at hi,
  fun i im x h1 h2 hx hl hm=> ?_,fun i im x hi hx hr=> ?_,rfl,rfl,rfl⟩
 ·rcases hi with hi|hi
  ·rw[hg i hi]at hx;obtain⟨im,QK,hr⟩:=QE.rel i x hi hx hl;exact⟨im,by rw[Rv i hi];exact QK,hr.keep (Yn hf) (Sn (QE.low i x im hi hx hl QK).1)⟩
  ·obtain rfl:i=n:=by omega
   rw[Ku]at hx;cases hx;exact⟨_,X3,ZU⟩
 ·rcases hi with hi|hi
  ·rw[hg i hi]at hx;rw[Rv i hi]at hm;have:=QE.low i x im hi hx hl hm;exact⟨by simp;omega,this.2⟩
  ·obtain rfl:i=n:=by omega
   rw[X3]at hm;cases hm;exact⟨by simp,fun _=>hB,fun h=>by cases h⟩
 ·rcases hi with hi|hi <;> rcases hj with hj|hj
  ·rw[hg i hi]at hx;rw[hg j hj]at hy;rw[Rv i hi]at ha;rw[Rv j hj]at hb;exact QE.inj i j x y a b hi hj TS hx hy hlx hly ha hb hra Ym
  ·obtain rfl:j=n:=by omega
   rw[hg i hi]at hx;rw[Rv i hi]at ha;rw[X3]at hb;cases hb;have:=(QE.low i x a hi hx hlx ha).1;simp only;omega
  ·obtain rfl:i=n:=by omega
   rw[hg j hj]at hy;rw[Rv j hj]at hb;rw[X3]at ha;cases ha;have:=(QE.low j y b hj hy hly hb).1;simp only;omega
  ·omega
 ·rcases hi with hi|hi
  ·rw[hg i hi]at hx;obtain⟨im,QK,h⟩:=QE.P1 i x hi hx hr;exact⟨im,by rw[Rv i hi];exact QK,fun b u hu=>by rw[Sn (PI QE hi hx hr QK hu)];exact h b u hu⟩
  ·obtain rfl:i=n:=by omega
   rw[Ku]at hx;cases hx;exact(Yw ZU hr).elim
 ·rcases hi with hi|hi
  ·rw[hg i hi]at hx;rw[Rv i hi]at ha;rcases hj with hj|hj
   ·rw[hg j hj]at hy;rw[Rv j hj]at hb;exact QE.sep i j x y a b u hi hj hx hy hrx hly ha hb Ym hu
   ·obtain rfl:j=n:=by omega
    rw[X3]at hb;cases hb;have:=PI QE hi hx hrx ha hu;simp only at this;omega
  ·obtain rfl:i=n:=by omega
   rw[Ku]at hx;cases hx;exact Yw ZU hrx
 ·simp only[upd];rw[if_neg (by omega)]
 ·rw[QV,if_neg (by omega)]
 ·obtain rfl:i=n:=by omega
  rw[X3]at hm;cases hm;exact⟨rfl,.inl (LI _)⟩
 ·have Rw:n<=i/\i<n+1:=hi.elim id fun h=>by simp at h
  obtain rfl:i=n:=by omega
  rw[Ku]at hx;cases hx;exact(Yw ZU hr).elim
theorem Post.write{B:Nat}{S:Nat->Prop}{n:Nat}{μ:Mu}{H:Qt}{w w':World}(QE:Ok B S μ (Qw H) w)(hS:∀i,S i->i<n)(k:Nat)(o o2:Obj)(im:c7)(hk:S k)(hg:Qw H k=some o)(hl:live o)(QK:μ k=some im)(Ry:im.rw=true)
 (ZW:w'.heap.size=w.heap.size) (hother:∀b,b≠im.Zt->w'.heap[b]? =w.heap[b]?) (ZU:OR μ w' im o2) (hstr:w'.os=w.os/\w'.tape=w.tape/\w'.output=w.output):
 Post B S n n [k] μ μ H (VA H k o2) w w':=by
 have hgk:∀i,Qw (VA H k o2) i=if i=k then some o2 else Qw H i:=fun i=>by rw[cc,hg];simp
 refine⟨⟨fun i x hi hx hlx=> ?_,fun i x a hi hx hlx ha=> ?_,fun i j x y a b hi hj TS hx hy hlx hly ha hb hra Ym=> ?_,fun i x hi hx hr=> ?_,fun i j x y a b u hi hj hx hy hrx hly ha hb Ym hu=> ?_⟩,LI _,fun _ _=>rfl,fun i hi hw=> ?_,by omega,fun b hb hw=> ?_,fun i hi hn=> ?_,
  fun i a x h1 h2=>absurd h1 (by omega),fun i a x hi hx hr=> ?_,hstr.1,hstr.2.1,hstr.2.2⟩
 ·have hi:=hi.elim id fun h=>absurd h.1 (by omega)
  rw[hgk]at hx;by_cases e:i=k
  ·subst e;rw[if_pos rfl]at hx;cases hx;exact⟨im,QK,ZU⟩
  ·rw[if_neg e]at hx;obtain⟨a,ha,hr⟩:=QE.rel i x hi hx hlx;refine⟨a,ha,hr.keep (Ext.refl _) (hother _ ?_)⟩;by_cases hra:a.rw=true
   ·exact QE.inj i k x o a im hi hk e hx hg hlx hl ha QK hra Ry
   ·have h1:=(QE.low i x a hi hx hlx ha).2.2 (by simpa using hra);have h2:=(QE.low k o im hk hg hl QK).2.1 Ry;omega
 ·have hi:=hi.elim id fun h=>absurd h.1 (by omega)
  rw[hgk]at hx;rw[ZW];by_cases e:i=k
  ·subst e;exact QE.low i o a hi hg hl ha
  ·rw[if_neg e]at hx;exact QE.low i x a hi hx hlx ha
 ·have hi:=hi.elim id fun h=>absurd h.1 (by omega)
  have hj:=hj.elim id fun h=>absurd h.1 (by omega)
  rw[hgk]at hx hy;have live1:∀i x,(if i=k then some o2 else Qw H i)=some x->live x->∃x',Qw H i=some x'/\live x':=by
   intro i x h h';by_cases e:i=k
   ·subst e;exact⟨o,hg,hl⟩
   ·rw[if_neg e]at h;exact⟨x,h,h'⟩
  obtain⟨x',hx',hlx'⟩:=live1 i x hx hlx;obtain⟨y',hy',hly'⟩:=live1 j y hy hly;exact QE.inj i j x' y' a b hi hj TS hx' hy' hlx' hly' ha hb hra Ym
 ·have hi:=hi.elim id fun h=>absurd h.1 (by omega)
  rw[hgk]at hx;by_cases e:i=k
  ·rw[if_pos e]at hx;cases hx;exact(Yw ZU hr).elim
  ·rw[if_neg e]at hx;obtain⟨a,ha,h⟩:=QE.P1 i x hi hx hr;refine⟨a,ha,fun b u hu=> ?_⟩;rw[hother b fun e=>QE.sep i k x o a im u hi hk hx hg hr hl ha QK Ry (by rw[<-e];exact hu)];exact h b u hu
 ·have hi:=hi.elim id fun h=>absurd h.1 (by omega)
  have hj:=hj.elim id fun h=>absurd h.1 (by omega)
  rw[hgk]at hx hy;by_cases e:i=k
  ·rw[if_pos e]at hx;cases hx;exact Yw ZU hrx
  ·rw[if_neg e]at hx;by_cases e2:j=k
   ·rw[e2,QK]at hb;cases hb;exact QE.sep i k x o a im u hi hk hx hg hrx hl ha QK Ry hu
   ·rw[if_neg e2]at hy;exact QE.sep i j x y a b u hi hj hx hy hrx hly ha hb Ym hu
 ·rw[hgk,if_neg (fun e=>hw (by simp[e]))]
 ·exact hother b fun e=>hw k (by simp) (hS k hk) im QK e.symm
 ·simp only[List.mem_singleton]at hi;subst hi;exact⟨hk,⟨o,hg,hl⟩,im,QK,Ry⟩
 ·have Rw:i=k:=by
   rcases hi with hi|hi
   ·omega
   ·simpa using hi.1
  rw[hgk,if_pos Rw]at hx;cases hx;exact(Yw ZU hr).elim

theorem TRv.one{fm:Nat->Option Obj}{t v':Value}(h:TRv fm t v')(ht:WI t=true):v'.cells=#[v']/\v'.oneCell'=true:=by
 cases h with
 |simple _=>cases t <;> first|(cases ht;done)|exact⟨rfl,rfl⟩
 |agg _ _=>cases ht
 |tuple _ _=>cases ht
 |iface _=>cases ht
 |_=>exact⟨rfl,rfl⟩
theorem TRv.nobool{fm:Nat->Option Obj}{t v':Value}(h:TRv fm t v')(ht:WI t=true)(b:Bool):v'≠.bool b:=by
 cases h with
 |simple _=>cases t <;> first|(cases ht;done)|(intro e;cases e)
 |agg _ _=>cases ht
 |tuple _ _=>cases ht
 |iface _=>cases ht
 |_=>intro e;cases e
def ZB{α:Type}(P:Program):Sem α->Option α
 | .pure a=>some a
 | .program k=>ZB P (k P)
 |_=>none
theorem Uj{α:Type}{P:Program}{s:Sem α}{a:α}(h:ZB P s=some a)(w:World):s.run P w=.ok a w:=by
 induction s with
 |pure b=>simp only[ZB,YO]at h;subst h;rfl
 |program k ih=>exact ih P h
 |_=>cases h

theorem VR.cells{μ:Mu}{v v':Value}(h:VR μ v v'):VRs μ v.cells v'.cells:=by
 have one:∀{a b:Value},VR μ a b->VRs μ #[a] #[b]:=by
  intro a b h;refine⟨rfl,fun i x y hx hy=> ?_⟩;have:i=0:=by
   rcases i with _|i
   ·rfl
   ·simp at hx
  subst this;simp at hx hy;subst hx hy;exact h
 cases h with
 |agg h1 h2=>exact⟨h1,h2⟩
 |bool b=>exact one (.bool b)
 |int k n=>exact one (.int k n)
 |string s=>exact one (.string s)
 |nilPtr=>exact one .nilPtr
 |ptr h=>exact one (.ptr h)
 |Rm n c=>exact one (.Rm n c)
 |slice a b c d=>exact one (.slice a b c d)
 |nilMap=>exact one .nilMap
 |map h=>exact one (.map h)
 |func a b c d=>exact one (.func a b c d)
 |yield h=>exact one (.yield h)
 |nilFunc=>exact one .nilFunc
 |nilIface=>exact one .nilIface
 |iface h=>exact one (.iface h)
 |tuple a b=>exact one (.tuple a b)
 |YF b o k=>exact one (.YF b o k)
 |rawSlice b o k n c=>exact one (.rawSlice b o k n c)
 |top a b c=>rw[(c.one a).1];exact one (.top a b c)
 |Yz a b c=>rw[b];exact one (.Yz a b c)
 |noCap=>exact one .noCap
theorem VR.one{μ:Mu}{v v':Value}(h:VR μ v v'):v'.oneCell'=v.oneCell':=by
 cases h with
 |Yz a b c=>rw[c];rfl
 |top a b c=>rw[(c.one a).2];rfl
 |_=>rfl
def ones(cs:Array Value):Bool:=cs.all (·.oneCell')
theorem VRs.ones{μ:Mu}{xs xs':Array Value}(h:VRs μ xs xs')(h1:ones xs=true):∀v∈xs'.toList,v.oneCell'=true:=by
 intro v hv;obtain⟨i,hi⟩:=List.getElem?_of_mem hv;have hi':xs'[i]? =some v:=by simpa using hi
 have Xp:i<xs.size:=h.1 ▸ (Array.getElem?_eq_some_iff.1 hi').1;have:=h.2 i xs[i] v (by simp[Xp]) hi';rw[this.one];exact Array.all_eq_true.1 h1 i Xp
end Go.CE

namespace Go.CE
open Go Go.RowKit

inductive CN where
 |val (v:Value)
 |enter (f:FuncId) (args:Array Value)
 |round (l:Nat) (fn:FuncId) (tmps:Array Value) (assign body:Code)
structure CR where
 nx:CN
 H:Qt
 n:Nat
 R:List Nat
 W:List Nat
inductive NR (μ:Mu):CN->Next->Prop
 |val {v v'}:VR μ v v'->NR μ (.val v) (.value v')
 |skip:NR μ (.val undef) .skip
 |enter {f xs xs'}:VRs μ xs xs'->NR μ (.enter f xs) (.enter f xs')
 |round {l im fn xs xs' a b}:μ l=some im->VRs μ xs xs'->NR μ (.round l fn xs a b) (.round im.Zt fn xs' a b)
def Nc(P:Program)(B:Nat)(o:Oper)(ev:Operand->Option Value)(H:Qt)(n:Nat)(r:CR):Prop:=
 ∀(S:Nat->Prop) (μ:Mu) (ρ:Operand->Value) (w:World),Ok B S μ (Qw H) w->B<=w.heap.size->(∀i,S i->i<n)->P0 μ n r.n->
  (∀x∈o.op.operands,∀v,ev x=some v->VR μ v (ρ x))->(∀i∈r.R,S i)->
  ∃nx w' μ',(execOp ρ o).run P w=.ok nx w'/\Post B S n r.n r.W μ μ' H r.H w w'/\NR μ' r.nx nx

def sq(P:Program)(ev:Operand->Option Value)(o:Oper):Option Value:=
 match o.op with
 | .select .. =>none
 |_=>bif o.op.operands.all (fun x=>match ev x with|some v=>af v|none=>false)then
   match ZB P (execOp (fun x=>(ev x).getD undef) o)with
   |some (.value v)=>bif af v then some v else none
   |_=>none
  else none
theorem AH{P:Program}{B:Nat}{o:Oper}{ev:Operand->Option Value}{H:Qt}{n:Nat}{v:Value}(h:sq P ev o=some v):Nc P B o ev H n ⟨.val v,H,n,[],[]⟩:=by
 intro S μ ρ w QE hB hS hf XP hR;have Pp:∀cs b,o.op≠.select cs b:=by
  intro cs b e;simp[sq,e]at h
 have h1:(bif o.op.operands.all (fun x=>match ev x with|some v=>af v|none=>false)then
  match ZB P (execOp (fun x=>(ev x).getD undef) o)with
  |some (.value v)=>bif af v then some v else none
  |_=>none
  else none)=some v:=by
  unfold sq at h;split at h
  ·cases h
  ·exact h
 cases Y6:o.op.operands.all (fun x=>match ev x with|some v=>af v|none=>false)with
 |false=>rw[Y6]at h1;cases h1
 |true=>
  rw[Y6]at h1;simp only[cond_true]at h1;have he:execOp ρ o=execOp (fun x=>(ev x).getD undef) o:=by
   refine execOp_congr o Pp fun x hx=> ?_
   have:=Array.all_eq_true_iff_forall_mem.1 Y6 x hx;cases hv:ev x with
   |none=>rw[hv]at this;cases this
   |some u=>
    rw[hv]at this;exact Tj this (XP x hx u hv)
  cases hp:ZB P (execOp (fun x=>(ev x).getD undef) o)with
  |none=>rw[hp]at h1;cases h1
  |some nx=>
   rw[hp]at h1;cases nx with
   |value u=>
    simp only at h1;cases hu:af u with
    |false=>rw[hu]at h1;cases h1
    |true=>
     rw[hu]at h1;simp only[cond_true,YO]at h1;subst h1;exact⟨_,w,μ,by rw[he];exact Uj hp w,Post.refl QE,.val (PC hu)⟩
   |_=>cases h1

def su(P:Program)(ev:Operand->Option Value)(o:Oper):Option Value:=match o.op with
 | .binOp .eql t x y _=>match ev x,ev y,P.underlying t with
   |some (.slice (some ⟨_,_,none⟩) _ _),some (.slice none 0 0),some (.slice _)=>some (.bool false)
   |_,_,_=>none
 | .binOp .neq t x y _=>match ev x,ev y,P.underlying t with
   |some (.slice (some ⟨_,_,none⟩) _ _),some (.slice none 0 0),some (.slice _)=>some (.bool true)
   |_,_,_=>none
 |_=>none
theorem xU{P:Program}{B:Nat}{o:Oper}{ev:Operand->Option Value}{H:Qt}{n:Nat}{v:Value}(h:su P ev o=some v):Nc P B o ev H n ⟨.val v,H,n,[],[]⟩:=by
 intro S μ ρ w QE hB hS hf XP hR;unfold su at h;split at h
 ·rename_i t x y yt ho;split at h
  ·rename_i b off m s e hx hy hu;simp only[YO]at h;subst h;have h1:=XP x (by simp[ho,Op.operands]) _ hx;have h2:=XP y (by simp[ho,Op.operands]) _ hy;generalize hxx:ρ x=a at h1;generalize hyy:ρ y=c at h2;have e1:∃p k q,a=.slice (some p) k q:=by cases h1;exact⟨_,_,_,rfl⟩
   have e2:c=.slice none 0 0:=by cases h2;rfl
   obtain⟨p,k,q,rfl⟩:=e1;subst e2;have he:(Op.equal t (.slice (some p) k q) (.slice none 0 0)).run P w=.ok false w:=by
    show(Op.equalIn (9999+1) t (.slice (some p) k q) (.slice none 0 0)).run P w=.ok false w;unfold Op.equalIn;simp[Sem.run_bind,run_underlying hu,Sem.run_pure]
   refine⟨.value (.bool false),w,μ, ?_,Post.refl QE,.val (.bool _)⟩;simp only[execOp,ho,hxx,hyy];simp[eqGuard,binOp,Sem.run_bind,Sem.run_pure,he]
  ·cases h
 ·rename_i t x y yt ho;split at h
  ·rename_i b off m s e hx hy hu;simp only[YO]at h;subst h;have h1:=XP x (by simp[ho,Op.operands]) _ hx;have h2:=XP y (by simp[ho,Op.operands]) _ hy;generalize hxx:ρ x=a at h1;generalize hyy:ρ y=c at h2;have e1:∃p k q,a=.slice (some p) k q:=by cases h1;exact⟨_,_,_,rfl⟩
   have e2:c=.slice none 0 0:=by cases h2;rfl
   obtain⟨p,k,q,rfl⟩:=e1;subst e2;have he:(Op.equal t (.slice (some p) k q) (.slice none 0 0)).run P w=.ok false w:=by
    show(Op.equalIn (9999+1) t (.slice (some p) k q) (.slice none 0 0)).run P w=.ok false w;unfold Op.equalIn;simp[Sem.run_bind,run_underlying hu,Sem.run_pure]
   refine⟨.value (.bool true),w,μ, ?_,Post.refl QE,.val (.bool _)⟩;simp only[execOp,ho,hxx,hyy];simp[eqGuard,binOp,Sem.run_bind,Sem.run_pure,he]
  ·cases h
 ·cases h
def UN(P:Program)(ev:Operand->Option Value)(o:Oper):Option Value:=match su P ev o with
 |some v=>some v
 |none=>sq P ev o
theorem DZ{P:Program}{B:Nat}{o:Oper}{ev:Operand->Option Value}{H:Qt}{n:Nat}{v:Value}(h:UN P ev o=some v):Nc P B o ev H n ⟨.val v,H,n,[],[]⟩:=by
 unfold UN at h;split at h
 ·rename_i u hu;simp only[YO]at h;subst h;exact xU hu
 ·exact AH h

def nth{α:Type}:List α->Nat->Option α
 |[],_=>none
 |a::_,0=>some a
 |_::l,k+1=>nth l k
theorem ba{α:Type}:∀(l:List α) (i:Nat),nth l i=l[i]?
 |[],i=>by cases i <;> rfl
 |a::l,0=>rfl
 |a::l,i+1=>by simpa[nth]using ba l i
def inf(P:Program)(t:TypeId):Option TypeInfo:=
 match nth P.types.toList t with
 |some i=>some i
 |none=>P.info? t
theorem JZ(P:Program)(t:TypeId):inf P t=P.info? t:=by
 unfold inf;rw[ba,Lq];by_cases h:t<P.types.size
 ·simp[Tables.info?,h]
 ·rw[Array.getElem?_eq_none (Nat.le_of_not_lt h)]
def R5(P:Program)(t:TypeId):Option TypeDesc:=
 match inf P t with
 |some i=>match i.desc with
  | .named _ u=>match inf P u with
    |some j=>some j.desc
    |none=>none
  |d=>some d
 |none=>none
theorem Zx(P:Program)(t:TypeId):R5 P t=P.underlying t:=by
 unfold R5 Program.underlying;simp only[JZ];cases hi:P.info? t with
 |none=>rfl
 |some i=>
  obtain⟨d,_⟩:=i;cases d <;> try rfl
  simp only;cases P.info? _ <;> rfl
def Wz(P:Program)(t:TypeId):Option Nat:=match inf P t with|some i=>some i.size|none=>none
def o6(P:Program)(t:TypeId):Option Bool:=match R5 P t with|some (.struct _)|some (.array _ _)=>some true|some _=>some false|none=>none
theorem Zp{P:Program}{t:TypeId}{s:Nat}(h:Wz P t=some s)(w:World):(sizeOf t).run P w=.ok s w:=by
 unfold Wz at h;rw[JZ]at h;cases hi:P.info? t with
 |none=>rw[hi]at h;cases h
 |some i=>rw[hi]at h;simp only[YO]at h;subst h;simp[sizeOf,typeInfo,hi]
theorem Ko{P:Program}{t:TypeId}{b:Bool}(h:o6 P t=some b)(w:World):(isAgg t).run P w=.ok b w:=by
 unfold o6 at h;rw[Zx]at h;cases hu:P.underlying t with
 |none=>rw[hu]at h;cases h
 |some d=>rw[hu]at h;simp only[isAgg,Sem.run_bind,run_underlying hu,Result.andThen_ok];cases d <;> simp_all

def Y4(P:Program)(t:TypeId)(cs:Array Value)(off:Nat):Option Value:=
 match o6 P t with
 |some true=>match Wz P t with
  |some s=>bif LR (off+s) cs.size then some (.agg (cs.extract off (off+s)))else none
  |none=>none
 |some false=>cs[off]?
 |none=>none
theorem VRs.extract{μ:Mu}{xs xs':Array Value}(h:VRs μ xs xs')(a b:Nat):VRs μ (xs.extract a b) (xs'.extract a b):=by
 refine⟨by simp[h.1],fun i v v' hv ZQ=> ?_⟩;rw[LX]at hv ZQ;rw[<-h.1]at ZQ;split at hv
 ·rename_i Xp;rw[if_pos Xp]at ZQ;exact h.2 _ v v' hv ZQ
 ·cases hv
theorem ql{P:Program}{μ:Mu}{t:TypeId}{cs cs':Array Value}{off:Nat}{v:Value}(h:Y4 P t cs off=some v)(hr:VRs μ cs cs')(w:World):∃v',(part t cs' off).run P w=.ok v' w/\VR μ v v':=by
 unfold Y4 at h;cases ha:o6 P t with
 |none=>rw[ha]at h;cases h
 |some b=>
  rw[ha]at h;cases b with
  |true=>
   cases hs:Wz P t with
   |none=>rw[hs]at h;cases h
   |some s=>
    rw[hs]at h;dsimp only at h;cases hb:LR (off+s) cs.size with
    |false=>rw[hb]at h;cases h
    |true=>
     rw[hb]at h;simp only[cond_true,YO]at h;subst h;refine⟨.agg (cs'.extract off (off+s)), ?_,.agg (hr.extract _ _).1 (hr.extract _ _).2⟩;simp only[part,Sem.run_bind,Ko ha,Result.andThen_ok,if_true,Zp hs,Sem.run_pure]
  |false=>
   obtain⟨v',ZQ,VY⟩:=hr.get h;refine⟨v', ?_,VY⟩;simp only[part,Sem.run_bind,Ko ha,Result.andThen_ok,ZQ];rfl

theorem OR.cell{μ:Mu}{w:World}{im:c7}{cs:Array Value}{t:TypeId}{fz:Nat×Nat}(h:OR μ w im (.cells cs t fz)){i:Nat}{v:Value}(hv:cs[i]? =some v):∃v',w.cell? ⟨im.Zt,im.off+i,none⟩=some v'/\VR μ v v':=by
 rcases h with ⟨_,_,ho,arr,ha,_,_,h3⟩|⟨_,h3⟩
 ·obtain⟨v',a,b⟩:=h3 i v hv;exact⟨v',by rw[ho,LD];simp[World.cell?,ha,a],b⟩
 ·exact h3 i v hv
theorem Wx(b o n:Nat):(⟨b,o,none⟩:Addr).add n=⟨b,o+n,none⟩:=by unfold Addr.add;split <;> simp_all
theorem OR.cells{P:Program}{μ:Mu}{w:World}{im:c7}{cs:Array Value}{t:TypeId}{fz:Nat×Nat}(h:OR μ w im (.cells cs t fz)){off s:Nat}(hle:off+s<=cs.size):
 ∃xs,(loadCells ⟨im.Zt,im.off+off,none⟩ s).run P w=.ok xs w/\VRs μ (cs.extract off (off+s)) xs:=by
 let f:Nat->Value:=fun j=>(w.cell? ⟨im.Zt,im.off+(off+j),none⟩).getD undef
 have hf:∀j,j<s->∃v,cs[off+j]? =some v/\w.cell? ⟨im.Zt,im.off+(off+j),none⟩=some (f j)/\VR μ v (f j):=by
  intro j hj;have Xp:off+j<cs.size:=by omega
  obtain⟨v',a,b⟩:=h.cell (i:=off+j) (v:=cs[off+j]) (by simp[Xp]);exact⟨cs[off+j],by simp[Xp],by simp[f,a],by simpa[f,a]using b⟩
 have hr:=run_loadCells (P:=P) w ⟨im.Zt,im.off+off,none⟩ s f (fun j hj=>by
  obtain⟨_,_,hc,_⟩:=hf j hj;rw[Wx,Nat.add_assoc];exact hc)
 refine⟨_,hr,⟨by simp;omega,fun i v v' hv ZQ=> ?_⟩⟩;rw[LX]at hv;split at hv
 ·rename_i Xp;obtain⟨u,hu,_,VY⟩:=hf i (by omega);rw[hu]at hv;cases hv;have hi:i<s:=by omega
  simp[hi]at ZQ;rw[<-ZQ];exact VY
 ·cases hv
def Th(P:Program)(t:TypeId)(H:Qt):Value->Option (Value×Nat)
 | .pointer (some ⟨b,off,none⟩)=>match Qw H b with
   |some (.cells cs _ _)=>match Y4 P t cs off with
    |some v=>some (v,b)
    |none=>none
   |_=>none
 |_=>none
theorem qo{P:Program}{B:Nat}{S:Nat->Prop}{μ:Mu}{H:Qt}{w:World}{t:TypeId}{p p' v:Value}{b:Nat}(h:Th P t H p=some (v,b))(QE:Ok B S μ (Qw H) w)(hp:VR μ p p')(hb:S b):
 ∃v',(Instr.loadAt t p').run P w=.ok v' w/\VR μ v v':=by
 unfold Th at h;split at h
 ·rename_i b0 off;cases hg:Qw H b0 with
  |none=>rw[hg]at h;cases h
  |some o=>
   rw[hg]at h;cases o with
   |cells cs te fz=>
    simp only at h;cases hc:Y4 P t cs off with
    |none=>rw[hc]at h;cases h
    |some u=>
     rw[hc]at h;simp only[YO,YR]at h;obtain⟨rfl,rfl⟩:=h;obtain⟨im,QK,ZU⟩:=QE.rel b0 _ hb hg trivial;cases hp with
     |ptr har=>
      obtain⟨Z9,QS,_,rfl⟩:=har;simp only at QS;rw[QK]at QS;cases QS;unfold Y4 at hc;cases ha:o6 P t with
      |none=>rw[ha]at hc;cases hc
      |some bb=>
       rw[ha]at hc;cases bb with
       |true=>
        cases hs:Wz P t with
        |none=>rw[hs]at hc;cases hc
        |some s=>
         rw[hs]at hc;dsimp only at hc;cases hble:LR (off+s) cs.size with
         |false=>rw[hble]at hc;cases hc
         |true=>
          rw[hble]at hc;simp only[cond_true,YO]at hc;subst hc;obtain⟨xs,hx,VY⟩:=ZU.cells (P:=P) (off:=off) (s:=s) (YL hble);refine⟨.agg xs, ?_,.agg VY.1 VY.2⟩;simp only[Instr.loadAt,Instr.sureAddr,Sem.run_bind,Sem.run_pure,Result.andThen_ok,loadVar,Ko ha,if_true,Zp hs,hx]
       |false=>
        obtain⟨v',ZQ,VY⟩:=ZU.cell hc;refine⟨v', ?_,VY⟩;simp only[Instr.loadAt,Instr.sureAddr,Sem.run_bind,Sem.run_pure,Result.andThen_ok,loadVar,Ko ha,Bool.false_eq_true,if_false,run_load,ZQ]
   |_=>cases h
 ·cases h

def splice(cs:Array Value)(off:Nat)(xs:Array Value):Array Value:=(cs.toList.take off++xs.toList++cs.toList.drop (off+xs.toList.length)).toArray
theorem K0{cs xs:Array Value}{off i:Nat}(h:off+xs.size<=cs.size):(splice cs off xs)[i]? =if off<=i/\i<off+xs.size then xs[i-off]? else cs[i]? :=by
 unfold splice;simp only[List.getElem?_toArray,Array.length_toList];have hl:(List.take off cs.toList).length=off:=by simp;omega
 by_cases h1:i<off
 ·rw[LY,Lx (by rw[hl];exact h1),if_neg (by omega),L0 h1];simp
 ·by_cases h2:i<off+xs.size
  ·rw[LY,Lm (by omega),hl,Lx (by simp;omega),if_pos ⟨by omega,h2⟩];simp
  ·rw[LY,Lm (by omega),hl,Lm (by simp;omega),if_neg (by omega),List.getElem?_drop];simp only[Array.length_toList,Lq];congr 1;omega
theorem WA{cs xs:Array Value}{off:Nat}(h:off+xs.size<=cs.size):(splice cs off xs).size=cs.size:=by
 simp[splice];omega
theorem VRs.splice{μ:Mu}{cs xs:Array Value}{arr xs':Array Value}{off:Nat}(h:off+xs.size<=cs.size)(hle:cs.size<=arr.size)(hc:∀(i:Nat) v,cs[i]? =some v->∃v',arr[i]? =some v'/\VR μ v v')(hx:VRs μ xs xs'):
 ∀(i:Nat) v,(splice cs off xs)[i]? =some v->∃v',(CE.splice arr off xs')[i]? =some v'/\VR μ v v':=by
 intro i v hv;rw[K0 h]at hv;rw[K0 (by rw[<-hx.1];omega),<-hx.1];split at hv
 ·rename_i hi;rw[if_pos hi];exact hx.get hv
 ·rename_i hi;rw[if_neg hi];exact hc i v hv
def Su(P:Program)(t:TypeId)(H:Qt)(v:Value):Value->Option (Qt×Nat)
 | .pointer (some ⟨b,off,none⟩)=>match Qw H b with
   |some (.cells cs te (0,0))=>match Wz P t with
    |some s=>bif Lf v.cells.size s && ones v.cells && LR (off+s) cs.size then some (VA H b (.cells (splice cs off v.cells) te (0,0)),b)else none
    |none=>none
   |_=>none
 |_=>none
theorem AF{P:Program}{B n:Nat}{S:Nat->Prop}{μ:Mu}{H H':Qt}{w:World}{t:TypeId}{p p' v v':Value}{b:Nat}(h:Su P t H v p=some (H',b))(QE:Ok B S μ (Qw H) w)(hS:∀i,S i->i<n)(hp:VR μ p p')(hv:VR μ v v')(hb:S b):
 ∃w',(Instr.storeAt t p' v').run P w=.ok () w'/\Post B S n n [b] μ μ H H' w w':=by
 unfold Su at h;split at h
 ·rename_i b0 off;split at h
  ·rename_i cs te hg;cases hs:Wz P t with
   |none=>rw[hs]at h;cases h
   |some s=>
    rw[hs]at h;simp only at h;cases hcond:(Lf v.cells.size s && ones v.cells && LR (off+s) cs.size)with
    |false=>rw[hcond]at h;cases h
    |true=>
     rw[hcond]at h;simp only[cond_true,YO,YR]at h;obtain⟨rfl,rfl⟩:=h;simp only[YB]at hcond;obtain⟨⟨h1,h2⟩,h3⟩:=hcond;have h1:=YE h1;have h3:=YL h3;obtain⟨im,QK,ZU⟩:=QE.rel b0 _ hb hg trivial;have hcs:=hv.cells;cases hp with
     |ptr har=>
      obtain⟨Z9,QS,_,rfl⟩:=har;simp only at QS;rw[QK]at QS;cases QS;rcases ZU with ⟨_,hr,ho,arr,ha,hle,hcap,hc⟩|⟨hz,_⟩
      ·have Zh:=run_storeCells_at (P:=P) im.Zt off te v'.cells.toList 0 arr w ha (by simp[<-hcs.1];omega) (hcs.ones h2);simp only[Nat.add_zero]at Zh;refine⟨_, ?_,Post.write QE hS b0 _ (.cells (CE.splice cs off v.cells) te (0,0)) im hb hg trivial QK hr (w':=w.setRow im.Zt (CE.splice arr off v'.cells)) ?_ ?_ ?_ ⟨rfl,rfl,rfl⟩⟩
       ·simp only[Instr.storeAt,Instr.sureAddr,Sem.run_bind,Sem.run_pure,Result.andThen_ok,storeVar,Zp hs,ho,LD,<-hcs.1,h1,ne_eq,not_true_eq_false,if_false,Zh];rfl
       ·simp[World.setRow]
       ·intro x hx;exact setRow_other w im.Zt x _ hx
       ·refine .inl ⟨rfl,hr,ho,CE.splice arr off v'.cells,setRow_heap w im.Zt arr _ te _ ha, ?_, ?_, ?_⟩
        ·rw[WA (by omega),WA (by rw[<-hcs.1];omega)];exact hle
        ·rw[WA (by rw[<-hcs.1];omega)];exact hcap
        ·exact VRs.splice (by omega) hle hc hcs
      ·exact absurd rfl hz
  ·cases h
 ·cases h
end Go.CE

namespace Go.CE
open Go Go.RowKit

theorem OR.ofCells{μ:Mu}{w:World}{b cap:Nat}{cs arr:Array Value}{t:TypeId}(ha:w.heap[b]? =some (.cells arr t (0,0)))(hle:cs.size<=arr.size)(hcap:arr.size=cap)
 (hc:∀(i:Nat) v,cs[i]? =some v->∃v',arr[i]? =some v'/\VR μ v v'):OR μ w ⟨b,0,cap,true,aj⟩ (.cells cs t (0,0)):=.inl ⟨rfl,rfl,rfl,arr,ha,hle,hcap,hc⟩
theorem VRs.all{μ:Mu}{xs xs':Array Value}(h:VRs μ xs xs'):∀(i:Nat) v,xs[i]? =some v->∃v',xs'[i]? =some v'/\VR μ v v':=fun _ _ hv=>h.get hv
def zW(n:Nat):Value:=.pointer (some ⟨n,0,none⟩)
theorem Bb{μ:Mu}{n:Nat}{im:c7}(h:μ n=some im)(ho:im.off=0):VR μ (zW n) (.pointer (some ⟨im.Zt,0,none⟩)):=.ptr ⟨im,h,rfl,by simp[ho]⟩
theorem jK{B n:Nat}{S:Nat->Prop}{μ:Mu}{H:Qt}{w:World}(QE:Ok B S μ (Qw H) w)(hB:B<=w.heap.size)(hS:∀i,S i->i<n)(hf:μ n=none)(cs arr:Array Value)(t:TypeId)(hle:cs.size<=arr.size)
 (hc:∀(i:Nat) v,cs[i]? =some v->∃v',arr[i]? =some v'/\VR μ v v'):
 Post B S n (n+1) [] μ (upd μ n ⟨w.heap.size,0,arr.size,true,aj⟩) H ((n,.cells cs t (0,0))::H) w (w.alloc (.cells arr t (0,0))):=
 Post.alloc QE hB hS hf _ _ _ (.ofCells (heap_alloc _ _) hle rfl fun i v hv=>let⟨v',a,b⟩:=hc i v hv;⟨v',a,b.mono (Yn hf)⟩)
def zeroOf(P:Program)(t:TypeId):Option Value:=match inf P t with|some i=>i.zero|none=>none
theorem c8{P:Program}{t:TypeId}{z:Value}(h:zeroOf P t=some z)(w:World):(zeroValue t).run P w=.ok z w:=by
 unfold zeroOf at h;rw[JZ]at h;cases hi:P.info? t with
 |none=>rw[hi]at h;cases h
 |some i=>rw[hi]at h;simp[zeroValue,typeInfo,hi,h]
theorem AP{P:Program}{B:Nat}{o:Oper}{ev:Operand->Option Value}{H:Qt}{n:Nat}{t:TypeId}{z:Value}(ho:o.op=.alloc t)(hz:zeroOf P t=some z)(ha:af z=true):
 Nc P B o ev H n ⟨.val (zW n),(n,.cells z.cells t (0,0))::H,n+1,[],[]⟩:=by
 intro S μ ρ w QE hB hS hf XP hR;have hfn:=hf n (LI _) (by simp);refine⟨_,_,_, ?_,jK QE hB hS hfn z.cells z.cells t (LI _) (PC (μ:=μ) ha).cells.all,.val (Bb X3 rfl)⟩;simp only[execOp,ho,Instr.alloc,Sem.run_bind,c8 hz,Result.andThen_ok,newVar,newRow,run_newObj,Sem.run_pure];rfl
theorem HM{P:Program}{B:Nat}{o:Oper}{ev:Operand->Option Value}{H:Qt}{n:Nat}{t:TypeId}{x:Operand}{v:Value}(ho:o.op=.box t x)(hx:ev x=some v):
 Nc P B o ev H n ⟨.val (zW n),(n,.cells v.cells t (0,0))::H,n+1,[],[]⟩:=by
 intro S μ ρ w QE hB hS hf XP hR;have hfn:=hf n (LI _) (by simp);have hv:=XP x (by simp[ho,Op.operands]) v hx;refine⟨_,_,_, ?_,jK QE hB hS hfn v.cells (ρ x).cells t (by rw[hv.cells.1];exact LI _) hv.cells.all,.val (Bb X3 rfl)⟩;simp only[execOp,ho,Instr.box,Sem.run_bind,Result.andThen_ok,newVar,newRow,run_newObj,Sem.run_pure];rfl

def Wd(P:Program)(s:TypeId)(f:Nat):Value->Option Value
 | .pointer (some ⟨b,off,none⟩)=>match R5 P s with
   |some (.struct fields)=>match fields[f]? with
    |some fd=>match Wz P fd.type with
     |some (_+1)=>some (.pointer (some ⟨b,off+fd.offset,none⟩))
     |_=>none
    |none=>none
   |_=>none
 |_=>none
theorem o3{P:Program}{μ:Mu}{s:TypeId}{f:Nat}{p p' v:Value}(h:Wd P s f p=some v)(hp:VR μ p p')(w:World):∃v',(Instr.fieldAt s p' f).run P w=.ok v' w/\VR μ v v':=by
 unfold Wd at h;simp only[Zx]at h;split at h
 ·rename_i b off;split at h
  ·rename_i fields hu;cases hfd:fields[f]? with
   |none=>rw[hfd]at h;cases h
   |some fd=>
    rw[hfd]at h;dsimp only at h;split at h
    ·rename_i z hz;simp only[YO]at h;subst h;cases hp with
     |ptr har=>
      obtain⟨im,QK,_,rfl⟩:=har;refine⟨.pointer (some ⟨im.Zt,im.off+(off+fd.offset),none⟩), ?_,.ptr ⟨im,QK,rfl,rfl⟩⟩;simp only[Instr.fieldAt,Sem.run_bind,run_underlying hu,Result.andThen_ok,hfd,Instr.sureAddr,Sem.run_pure,fieldPlace,Zp hz,Wx,Nat.add_assoc];simp
    ·cases h
  ·cases h
 ·cases h
def Jd(P:Program)(t:TypeId):Value->Value->Option Value
 | .slice (some ⟨b,off,none⟩) len _,.int _ i=>match R5 P t with
   |some (.slice e)=>match Wz P e with
    |some s=>bif decide (0<=i) && decide (i<len)then some (.pointer (some ⟨b,off+i.toNat*s,none⟩))else none
    |none=>none
   |_=>none
 | .pointer (some ⟨b,off,none⟩),.int _ i=>match R5 P t with
   |some (.array len e)=>match Wz P e with
    |some s=>bif decide (0<=i) && decide (i<len)then some (.pointer (some ⟨b,off+i.toNat*s,none⟩))else none
    |none=>none
   |_=>none
 |_,_=>none
theorem oz{P:Program}{μ:Mu}{t:TypeId}{x x' i i' v:Value}(h:Jd P t x i=some v)(hx:VR μ x x')(hi:VR μ i i')(w:World):∃v',(Instr.indexAt t x' i').run P w=.ok v' w/\VR μ v v':=by
 unfold Jd at h;simp only[Zx]at h;split at h
 ·rename_i b off len c k q;split at h
  ·rename_i e hu;cases hs:Wz P e with
   |none=>rw[hs]at h;cases h
   |some s=>
    rw[hs]at h;dsimp only at h;cases hc:(decide (0<=q) && decide (q<len))with
    |false=>rw[hc]at h;cases h
    |true=>
     rw[hc]at h;simp only[cond_true,YO]at h;subst h;simp only[YB,decide_eq_true_eq]at hc;cases hi;cases hx with
     |slice har h1 h2 h3=>
      obtain⟨im,QK,_,rfl⟩:=har;refine⟨.pointer (some ⟨im.Zt,im.off+(off+q.toNat*s),none⟩), ?_,.ptr ⟨im,QK,rfl,rfl⟩⟩;simp only[Instr.indexAt,Sem.run_bind,asIntOf,Sem.run_pure,Result.andThen_ok,run_underlying hu,hc,and_self,if_true,Zp hs,Wx,Nat.add_assoc]
  ·cases h
 ·rename_i b off k q;split at h
  ·rename_i len e hu;cases hs:Wz P e with
   |none=>rw[hs]at h;cases h
   |some s=>
    rw[hs]at h;dsimp only at h;cases hc:(decide (0<=q) && decide (q<len))with
    |false=>rw[hc]at h;cases h
    |true=>
     rw[hc]at h;simp only[cond_true,YO]at h;subst h;simp only[YB,decide_eq_true_eq]at hc;cases hi;cases hx with
     |ptr har=>
      obtain⟨im,QK,_,rfl⟩:=har;refine⟨.pointer (some ⟨im.Zt,im.off+(off+q.toNat*s),none⟩), ?_,.ptr ⟨im,QK,rfl,rfl⟩⟩;simp only[Instr.indexAt,Sem.run_bind,asIntOf,Sem.run_pure,Result.andThen_ok,run_underlying hu,Instr.sureAddr,hc,and_self,if_true,Zp hs,Wx,Nat.add_assoc]
  ·cases h
 ·cases h

def gY(P:Program)(t:TypeId)(f:Nat):Value->Option Value
 | .agg cs=>match R5 P t with
   |some (.struct fields)=>match fields[f]? with
    |some fd=>Y4 P fd.type cs fd.offset
    |none=>none
   |_=>none
 |_=>none
theorem AK{P:Program}{μ:Mu}{t:TypeId}{f:Nat}{x x' v:Value}(h:gY P t f x=some v)(hx:VR μ x x')(w:World):∃v',(Instr.field t x' f).run P w=.ok v' w/\VR μ v v':=by
 unfold gY at h;simp only[Zx]at h;split at h
 ·split at h
  ·rename_i fields hu;cases hfd:fields[f]? with
   |none=>rw[hfd]at h;cases h
   |some fd=>
    rw[hfd]at h;cases hx with
    |agg h1 h2=>
     obtain⟨v',hv,hr⟩:=ql h ⟨h1,h2⟩ w;refine⟨v', ?_,hr⟩;simp only[Instr.field,Sem.run_bind,run_underlying hu,Result.andThen_ok,hfd,asAgg,Sem.run_pure,hv]
  ·cases h
 ·cases h
def sx(P:Program)(t:TypeId):Value->Value->Option Value
 | .agg cs,.int _ i=>match R5 P t with
   |some (.array len e)=>match Wz P e with
    |some s=>bif decide (0<=i) && decide (i<len)then Y4 P e cs (i.toNat*s)else none
    |none=>none
   |_=>none
 |_,_=>none
theorem AJ{P:Program}{μ:Mu}{t:TypeId}{x x' i i' v:Value}(h:sx P t x i=some v)(hx:VR μ x x')(hi:VR μ i i')(w:World):∃v',(Instr.index t x' i').run P w=.ok v' w/\VR μ v v':=by
 unfold sx at h;simp only[Zx]at h;split at h
 ·rename_i cs k q;split at h
  ·rename_i len e hu;cases hs:Wz P e with
   |none=>rw[hs]at h;cases h
   |some s=>
    rw[hs]at h;dsimp only at h;cases hc:(decide (0<=q) && decide (q<len))with
    |false=>rw[hc]at h;cases h
    |true=>
     rw[hc]at h;simp only[cond_true]at h;simp only[YB,decide_eq_true_eq]at hc;cases hi;cases hx with
     |agg h1 h2=>
      obtain⟨v',hv,hr⟩:=ql h ⟨h1,h2⟩ w;refine⟨v', ?_,hr⟩;simp only[Instr.index,Sem.run_bind,asIntOf,Sem.run_pure,Result.andThen_ok,run_underlying hu,hc,and_self,if_true,Zp hs,hv]
  ·cases h
 ·cases h
def Ti(i:Nat):Value->Option Value
 | .tuple vs=>vs[i]?
 |_=>none
theorem sy{P:Program}{μ:Mu}{i:Nat}{x x' v:Value}(h:Ti i x=some v)(hx:VR μ x x')(w:World):∃v',(Instr.extract x' i).run P w=.ok v' w/\VR μ v v':=by
 unfold Ti at h;split at h
 ·cases hx with
  |tuple h1 h2=>
   obtain⟨v',hv,hr⟩:=VRs.get ⟨h1,h2⟩ h;exact⟨v',by simp only[Instr.extract,hv];rfl,hr⟩
 ·cases h

theorem VRs.set{μ:Mu}{xs xs':Array Value}{v v':Value}(h:VRs μ xs xs')(hv:VR μ v v')(i:Nat):VRs μ (xs.setIfInBounds i v) (xs'.setIfInBounds i v'):=by
 refine⟨by simp[h.1],fun j a b ha hb=> ?_⟩;rw[Array.getElem?_setIfInBounds]at ha hb;by_cases e:i=j
 ·subst e;rw[if_pos rfl]at ha hb;split at ha
  ·rename_i Xp;rw[if_pos (by rw[<-h.1];exact Xp)]at hb;cases ha;cases hb;exact hv
  ·cases ha
 ·rw[if_neg e]at ha hb;exact h.2 j a b ha hb
theorem BA{μ:Mu}(off:Nat):∀(l l':List Value) (k:Nat) (xs xs':Array Value),l.length=l'.length->(∀(i:Nat) v v',l[i]? =some v->l'[i]? =some v'->VR μ v v')->VRs μ xs xs'->
 VRs μ ((l.zipIdx k).foldl (fun cs (x:Value×Nat)=>cs.setIfInBounds (off+x.2) x.1) xs) ((l'.zipIdx k).foldl (fun cs (x:Value×Nat)=>cs.setIfInBounds (off+x.2) x.1) xs')
 |[],[],_,_,_,_,_,h=>h
 |a::l,b::l',k,xs,xs',hl,hv,h=>by
  simp only[List.zipIdx_cons,List.foldl_cons];exact BA off l l' (k+1) _ _ (by simpa using hl) (fun i v v' x y=>hv (i+1) v v' (by simpa using x) (by simpa using y)) (h.set (hv 0 a b rfl rfl) _)
 |[],_::_,_,_,_,hl,_,_=>by simp at hl
 |_::_,[],_,_,_,hl,_,_=>by simp at hl
theorem jS{μ:Mu}{place:Nat->Option (Nat×Nat)}:∀(ps ps':List (Nat×Value)) (cells cells' cs:Array Value),ps.length=ps'.length->(∀(i:Nat) p p',ps[i]? =some p->ps'[i]? =some p'->p'.1=p.1/\VR μ p.2 p'.2)->
 VRs μ cells cells'->Instr.fill place cells ps=some cs->∃cs',Instr.fill place cells' ps'=some cs'/\VRs μ cs cs'
 |[],[],cells,cells',cs,_,_,h,hf=>by
  simp only[Instr.fill,YO]at hf;subst hf;exact⟨cells',rfl,h⟩
 |p::ps,p'::ps',cells,cells',cs,hl,hp,h,hf=>by
  obtain⟨i,v⟩:=p;obtain⟨i',v'⟩:=p';obtain⟨h1,h2⟩:=hp 0 (i,v) (i',v') rfl rfl;simp only at h1 h2;subst h1;simp only[Instr.fill]at hf ⊢;cases Vv:place i' with
  |none=>rw[Vv]at hf;cases hf
  |some os=>
   obtain⟨off,size⟩:=os;rw[Vv]at hf;dsimp only at hf ⊢;split at hf
   ·cases hf
   ·rename_i hn;rw[if_neg (by rw[<-h2.cells.1,<-h.1];exact hn)];have hz:=BA off v.cells.toList v'.cells.toList 0 cells cells' (by simpa using h2.cells.1) (fun j a b x y=>h2.cells.2 j a b (by simpa using x) (by simpa using y)) h;have e1:∀(c:Array Value) (x:Array Value),(c.zipIdx.foldl (fun cs (y:Value×Nat)=>cs.setIfInBounds (off+y.2) y.1) x)=((c.toList.zipIdx 0).foldl (fun cs (y:Value×Nat)=>cs.setIfInBounds (off+y.2) y.1) x):=by
     intro c x;rw[<-Array.foldl_toList,Array.toList_zipIdx]
    refine jS ps ps' _ _ cs (by simpa using hl) (fun j a b x y=>hp (j+1) a b (by simpa using x) (by simpa using y)) ?_ hf;have:=hz;rw[<-e1,<-e1]at this;exact this
 |[],_::_,_,_,_,hl,_,_,_=>by simp at hl
 |_::_,[],_,_,_,hl,_,_,_=>by simp at hl
end Go.CE

namespace Go.CE
open Go Go.RowKit

def Tg(P:Program)(t:TypeId):Value->Value->Option (TypeId×Array Value×Nat×Nat)
 | .int _ l,.int _ c=>match R5 P t with
   |some (.slice e)=>match inf P e with
    |some i=>match i.zero with
     |some z=>bif decide (0<=l) && decide (l<=c) && decide ((i.bytes:Int)*c<=281474976710656) && decide (c<=9223372036854775807) && (madeCells z.cells (l.toNat*i.size)).all simple then
      some (e,madeCells z.cells (l.toNat*i.size),l.toNat,i.size)else none
     |none=>none
    |none=>none
   |_=>none
 |_,_=>none
theorem Hc{z:Array Value}{n m i:Nat}(h:n<=m)(hi:i<n):(madeCells z m)[i]? =(madeCells z n)[i]? :=by
 simp only[madeCells,Array.getElem?_map];rw[Array.getElem?_range,Array.getElem?_range,if_pos hi,if_pos (by omega)]
theorem Ea{P:Program}{B n:Nat}{S:Nat->Prop}{μ:Mu}{H:Qt}{w:World}{t e:TypeId}{x y x' y':Value}{cs:Array Value}{l s:Nat}(h:Tg P t x y=some (e,cs,l,s))(QE:Ok B S μ (Qw H) w)(hB:B<=w.heap.size)(hS:∀i,S i->i<n)
 (hf:μ n=none) (hx:VR μ x x') (hy:VR μ y y'):
 ∃v' w' μ',(Instr.makeSlice t x' y').run P w=.ok v' w'/\Post B S n (n+1) [] μ μ' H ((n,.cells cs e (0,0))::H) w w'/\VR μ' (.slice (some ⟨n,0,none⟩) l s) v':=by
 unfold Tg at h;simp only[Zx,JZ]at h;split at h
 ·rename_i kl l0 kc c0;split at h
  ·rename_i e0 hu;split at h
   ·rename_i i hi;split at h
    ·rename_i z hz;cases hc:(decide (0<=l0) && decide (l0<=c0) && decide ((i.bytes:Int)*c0<=281474976710656) && decide (c0<=9223372036854775807) && (madeCells z.cells (l0.toNat*i.size)).all simple)with
     |false=>rw[hc]at h;cases h
     |true=>
      rw[hc]at h;simp only[cond_true,YO,YR]at h;obtain⟨rfl,rfl,rfl,rfl⟩:=h;simp only[YB,decide_eq_true_eq]at hc;obtain⟨⟨⟨⟨h0,h1⟩,h2⟩,h3⟩,h4⟩:=hc;cases hx;cases hy;have hr:=run_make (P:=P) w t e0 i z hu hi hz kl kc l0 c0 h0 h1 h2 h3;have hle:l0.toNat*i.size<=c0.toNat*i.size:=Nat.mul_le_mul_right _ (by omega);refine⟨_,_,_,hr,jK QE hB hS hf _ _ _ (by simp only[size_madeCells];exact hle) (fun j v hv=> ?_), ?_⟩
      ·have hj:j<l0.toNat*i.size:=by have:=(Array.getElem?_eq_some_iff.1 hv).1;simpa[size_madeCells]using this
       refine⟨v,by rw[Hc hle hj];exact hv,ZO ?_⟩;obtain⟨Xp,rfl⟩:=Array.getElem?_eq_some_iff.1 hv;exact Array.all_eq_true.1 h4 j Xp
      ·refine .slice ⟨_,X3,rfl,rfl⟩ (by omega) (by unfold maxLen;omega) (fun _ im QK _ _=> ?_);rw[show upd μ n ⟨w.heap.size,0,(madeCells z.cells (c0.toNat*i.size)).size,true,aj⟩ n=some _ from X3]at QK;cases QK;simp[size_madeCells]
    ·cases h
   ·cases h
  ·cases h
 ·cases h

def Ej(d top:Nat):Option Value->Option Nat
 |none=>some d
 |some (.int _ i)=>bif decide (0<=i) && decide (i<=top)then some i.toNat else none
 |_=>none
theorem s7{P:Program}{μ:Mu}{top top':Nat}{v v':Value}{k:Nat}{code:BoundsCode}(h:Ej 0 top (some v)=some k)(hv:VR μ v v')(ht:top<=top')(w:World):(Instr.sliceBound v' top' code).run P w=.ok k w/\k<=top:=by
 unfold Ej at h;split at h
 ·cases ‹_=none›
 ·rename_i k0 i heq;cases heq;cases hc:(decide (0<=i) && decide (i<=top))with
  |false=>rw[hc]at h;cases h
  |true=>
   rw[hc]at h;simp only[cond_true,YO]at h;subst h;simp only[YB,decide_eq_true_eq]at hc;cases hv;refine⟨?_,by omega⟩;simp only[Instr.sliceBound,Sem.run_bind,asIntOf,Sem.run_pure,Result.andThen_ok];rw[if_pos ⟨hc.1,by omega⟩];rfl
 ·cases h
def Eg(n:Nat)(lo hi:Option Value):Option (Nat×Nat):=
 match Ej n n hi with
 |some h=>match Ej 0 h lo with
  |some l=>some (l,h)
  |none=>none
 |none=>none
def Om(μ:Mu):Option Value->Option Value->Prop
 |none,none=>True
 |some v,some v'=>VR μ v v'
 |_,_=>False
theorem o4{P:Program}{μ:Mu}{n c l h:Nat}{lo hi lo' hi':Option Value}{sl:Bool}(hb:Eg n lo hi=some (l,h))(hlo:Om μ lo lo')(hhi:Om μ hi hi')(hc:n<=c)(w:World):
 (Instr.sliceBounds sl n c lo' hi' none).run P w=.ok (l,h,c) w/\l<=h/\h<=n:=by
 unfold Eg at hb;cases h1:Ej n n hi with
 |none=>rw[h1]at hb;cases hb
 |some h0=>
  rw[h1]at hb;dsimp only at hb;cases h2:Ej 0 h0 lo with
  |none=>rw[h2]at hb;cases hb
  |some l0=>
   rw[h2]at hb;simp only[YO,YR]at hb;obtain⟨rfl,rfl⟩:=hb;cases hi with
   |none=>
    cases hi' with
    |some _=>exact hhi.elim
    |none=>
     simp only[Ej,YO]at h1;subst h1;cases lo with
     |none=>
      cases lo' with
      |some _=>exact hlo.elim
      |none=>
       simp only[Ej,YO]at h2;subst h2;exact⟨by simp[Instr.sliceBounds],by omega,by omega⟩
     |some v=>
      cases lo' with
      |none=>exact hlo.elim
      |some v'=>
       have hr:=fun code=>s7 (P:=P) (code:=code) h2 hlo (LI _) w
       exact⟨by simp[Instr.sliceBounds,(hr _).1],(hr .index).2,by omega⟩
   |some u=>
    cases hi' with
    |none=>exact hhi.elim
    |some u'=>
     have h1':Ej 0 n (some u)=some h0:=by cases u <;> first|exact h1|(simp[Ej]at h1)
     have hru:=fun code=>s7 (P:=P) (code:=code) h1' hhi hc w
     cases lo with
     |none=>
      cases lo' with
      |some _=>exact hlo.elim
      |none=>
       simp only[Ej,YO]at h2;subst h2;exact⟨by simp[Instr.sliceBounds,(hru _).1],by omega,(hru .index).2⟩
     |some v=>
      cases lo' with
      |none=>exact hlo.elim
      |some v'=>
       have hr:=fun code=>s7 (P:=P) (code:=code) h2 hlo (LI _) w
       exact⟨by simp[Instr.sliceBounds,(hr _).1,(hru _).1],(hr .index).2,(hru .index).2⟩
def gW(P:Program)(t:TypeId)(x:Value)(lo hi:Option Value):Option Value:=
 match x,R5 P t with
 | .slice (some ⟨b,off,none⟩) n s,some (.slice e)=>match Wz P e with
   |some (z+1)=>match Eg n lo hi with
    |some (l,h)=>bif Lf l 0 then some (.slice (some ⟨b,off,none⟩) h s)else bif Lr l n then some (.slice (some ⟨b,off+l*(z+1),none⟩) (h-l) 0)else none
    |none=>none
   |_=>none
 | .pointer (some ⟨b,off,none⟩),some (.array n e)=>match Wz P e with
   |some z=>match Eg n lo hi with
    |some (l,h)=>bif LR n maxLen then some (.slice (some ⟨b,bif Lf n l then off else off+l*z,none⟩) (h-l) 0)else none
    |none=>none
   |none=>none
 |_,_=>none
theorem ov{P:Program}{μ:Mu}{t:TypeId}{x x' v:Value}{lo hi lo' hi':Option Value}(h:gW P t x lo hi=some v)(hx:VR μ x x')(hlo:Om μ lo lo')(hhi:Om μ hi hi')(w:World):
 ∃v',(Instr.sliceAt t x' lo' hi' none).run P w=.ok v' w/\VR μ v v':=by
 unfold gW at h;simp only[Zx]at h;split at h
 ·rename_i b off n s e hu;split at h
  ·rename_i z hz;split at h
   ·rename_i l hh hb;cases hx with
    |slice har h1 h2 h3=>
     rename_i a' c';obtain⟨im,QK,_,rfl⟩:=har;obtain⟨hr,hl1,hl2⟩:=o4 (P:=P) (sl:=true) hb hlo hhi h1 w;have VU:(Instr.sliceAt t (.slice (some ⟨im.Zt,im.off+off,none⟩) n c') lo' hi' none).run P w=.ok (.slice (if c'=l then some ⟨im.Zt,im.off+off,none⟩else some ⟨im.Zt,im.off+off+l*(z+1),none⟩) (hh-l) (c'-l)) w:=by
      simp only[Instr.sliceAt,Instr.slice,Sem.run_bind,run_underlying hu,Result.andThen_ok,hr,Zp hz,Sem.run_pure,LL,Wx]
     cases hl0:Lf l 0 with
     |true=>
      have e0:=YE hl0;subst e0;rw[hl0]at h;simp only[cond_true,YO]at h;subst h;refine⟨_,VU, ?_⟩;simp only[Nat.zero_mul,Nat.add_zero,ite_self,Nat.sub_zero];exact .slice ⟨im,QK,rfl,rfl⟩ (by omega) h2 h3
     |false=>
      rw[hl0]at h;simp only[cond_false]at h;cases hln:Lr l n with
      |false=>rw[hln]at h;cases h
      |true=>
       rw[hln]at h;simp only[cond_true,YO]at h;subst h;have Xp:l<n:=YL hln;refine⟨_,VU, ?_⟩;rw[if_neg (by omega)];exact .slice ⟨im,QK,rfl,by simp[Nat.add_assoc]⟩ (by omega) (by omega) (fun hs=>absurd rfl hs)
   ·cases h
  ·cases h
 ·rename_i b off n e hu;split at h
  ·rename_i z hz;split at h
   ·rename_i l hh hb;cases hm:LR n maxLen with
    |false=>rw[hm]at h;cases h
    |true=>
     rw[hm]at h;simp only[cond_true,YO]at h;subst h;have hm:=YL hm;cases hx with
     |ptr har=>
      obtain⟨im,QK,_,rfl⟩:=har;obtain⟨hr,hl1,hl2⟩:=o4 (P:=P) (sl:=false) hb hlo hhi (LI n) w;refine⟨.slice (some (if n=l then⟨im.Zt,im.off+off,none⟩else⟨im.Zt,im.off+off+l*z,none⟩)) (hh-l) (n-l), ?_, ?_⟩
      ·simp only[Instr.sliceAt,Instr.sureAddr,Sem.run_bind,run_underlying hu,Result.andThen_ok,Sem.run_pure,hr,Zp hz,Wx]
      ·by_cases e0:n=l
       ·have:Lf n l=true:=by simp[e0]
        simp only[this,cond_true,if_pos e0];exact .slice ⟨im,QK,rfl,rfl⟩ (by omega) (by omega) (fun hs=>absurd rfl hs)
       ·have:Lf n l=false:=ae e0;simp only[this,cond_false,if_neg e0];exact .slice ⟨im,QK,rfl,by simp[Nat.add_assoc]⟩ (by omega) (by omega) (fun hs=>absurd rfl hs)
   ·cases h
  ·cases h
 ·cases h
def lo0:Option Value->Bool
 |none=>true
 |some (.int _ (.ofNat 0))=>true
 |_=>false
def ck(P:Program)(t:TypeId)(x:Option Value)(lo:Option (Option Value))(hi mx:Option Value):Bool:=match x,R5 P t,lo,hi,mx with
 |some (.slice (some _) _ _),some (.slice e),some l,some (.int _ (.ofNat 0)),some (.int _ (.ofNat 0))=>(Wz P e).isSome && lo0 l
 |_,_,_,_,_=>false
theorem iT{P:Program}{μ:Mu}{t:TypeId}{x:Option Value}{lo:Option (Option Value)}{hi mx:Option Value}(h:ck P t x lo hi mx=true):
 ∃xv l hv mv,x=some xv/\lo=some l/\hi=some hv/\mx=some mv/\∀{x':Value} {lo':Option Value} {hi' mx':Value},VR μ xv x'->Om μ l lo'->VR μ hv hi'->VR μ mv mx'->∀w,∃v',(Instr.sliceAt t x' lo' (some hi') (some mx')).run P w=.ok v' w/\VR μ bc v':=by
 unfold ck at h;simp only[Zx]at h;split at h
 ·rename_i a m s e l k1 k2 hu;simp only[YB]at h;obtain⟨h1,h2⟩:=h;cases hz:Wz P e with
  |none=>rw[hz]at h1;cases h1
  |some z=>
   refine⟨_,_,_,_,rfl,rfl,rfl,rfl,fun {x' lo' hi' mx'} hx hlo hhi hmx w=> ?_⟩;have hsl:∃a' n' c',x'=.slice a' n' c':=by cases hx <;> exact⟨_,_,_,rfl⟩
   obtain⟨a',n',c',rfl⟩:=hsl;cases hhi;cases hmx;have hl0:lo'=none\/∃k,lo'=some (.int k 0):=by
    unfold lo0 at h2;split at h2
    ·cases lo' with
     |none=>exact .inl rfl
     |some _=>exact hlo.elim
    ·cases lo' with
     |none=>exact hlo.elim
     |some u=>cases hlo;exact .inr ⟨_,rfl⟩
    ·cases h2
   refine⟨.slice (if 0=0 then a' else a'.map (·.add (0*z))) (0-0) (0-0), ?_,.noCap⟩;rcases hl0 with rfl|⟨k,rfl⟩ <;>
    simp[Instr.sliceAt,Instr.slice,Instr.sliceBounds,Instr.sliceBound,asIntOf,Sem.run_bind,run_underlying hu,Result.andThen_ok,Zp hz,Sem.run_pure]
 ·cases h
end Go.CE

namespace Go.CE
open Go Go.RowKit

def ah(H:Qt):Option Nat->Qt
 |none=>H
 |some k=>VA H k (.pending #[] 0)
theorem UJ(H:Qt)(ko:Option Nat)(i:Nat):Qw (ah H ko) i=if(∃k,ko=some k/\i=k)/\(Qw H i).isSome then some (.pending #[] 0)else Qw H i:=by
 cases ko with
 |none=>simp[ah]
 |some k=>
  simp only[ah,cc];by_cases e:i=k
  ·subst e;simp
  ·simp[e]
theorem UI{H:Qt}{ko:Option Nat}{i:Nat}{o:Obj}(h:Qw (ah H ko) i=some o)(hl:live o):Qw H i=some o/\∀k,ko=some k->i≠k:=by
 rw[UJ]at h;split at h
 ·cases h;exact hl.elim
 ·rename_i hn;refine⟨h,fun k hk e=>hn ⟨⟨k,hk,e⟩,by rw[h];rfl⟩⟩
theorem gA{B:Nat}{S:Nat->Prop}{n:Nat}{μ:Mu}{H:Qt}{w w':World}(QE:Ok B S μ (Qw H) w)(hS:∀i,S i->i<n)(hf:μ n=none)(ko:Option Nat)
 (hk:∀k,ko=some k->S k/\(∃o,Qw H k=some o/\live o)/\∃im,μ k=some im/\im.rw=true) (g cap:Nat) (o2:Obj) (hB:B<=g) (Xp:g<w'.heap.size)
 (hg:w.heap.size<=g\/∃k im,ko=some k/\μ k=some im/\im.Zt=g) (hgrow:w.heap.size<=w'.heap.size)
 (hother:∀b,b<w.heap.size->(∀k im,ko=some k->μ k=some im->im.Zt≠b)->w'.heap[b]? =w.heap[b]?) (ZU:OR (upd μ n ⟨g,0,cap,true,aj⟩) w' ⟨g,0,cap,true,aj⟩ o2)
 (hstr:w'.os=w.os/\w'.tape=w.tape/\w'.output=w.output):Post B S n (n+1) ko.toList μ (upd μ n ⟨g,0,cap,true,aj⟩) H ((n,o2)::ah H ko) w w':=by
 have JU:∀i,S i->i≠n:=fun i hi=>by have:=hS i hi;omega
 have Rv:∀i,S i->upd μ n ⟨g,0,cap,true,aj⟩ i=μ i:=fun i hi=>by simp[upd,JU i hi]
 have hgt:∀i,S i->Qw ((n,o2)::ah H ko) i=Qw (ah H ko) i:=fun i hi=>by rw[QV,if_neg (JU i hi)]
 have Ku:Qw ((n,o2)::ah H ko) n=some o2:=by rw[QV,if_pos rfl]
 have apart:∀i x a,S i->Qw H i=some x->live x->μ i=some a->(∀k,ko=some k->i≠k)->a.Zt≠g/\∀k im,ko=some k->μ k=some im->im.Zt≠a.Zt:=by
  intro i x a hi hx hl ha hik;have hlow:=QE.low i x a hi hx hl ha;have hko:∀k im,ko=some k->μ k=some im->im.Zt≠a.Zt:=by
   intro k im e QK;obtain⟨hSk,⟨ok,hok',hlk⟩,Z9,QS,hr⟩:=hk k e;rw[QK]at QS;cases QS;by_cases hra:a.rw=true
   ·exact QE.inj k i ok x im a hSk hi (Ne.symm (hik k e)) hok' hx hlk hl QK ha hr hra
   ·have h1:=hlow.2.2 (by simpa using hra);have h2:=(QE.low k ok im hSk hok' hlk QK).2.1 hr;omega
  refine⟨?_,hko⟩;rcases hg with hg|⟨k,im,e,QK,hb⟩
  ·have:=hlow.1;omega
  ·have:=hko k im e QK;omega
 refine⟨⟨fun i x hi hx hl=> ?_,fun i x im hi hx hl hm=> ?_,fun i j x y a b hi hj TS hx hy hlx hly ha hb hra Ym=> ?_,fun i x hi hx hr=> ?_,fun i j x y a b u hi hj hx hy hrx hly ha hb Ym hu=> ?_⟩,by omega,fun i hi=> ?_,fun i hi hw=> ?_,hgrow,fun b hb hw=> ?_,fun i hi hn=> ?_,
  fun i im x h1 h2 hx hl hm=> ?_,fun i im x hi hx hr=> ?_,hstr.1,hstr.2.1,hstr.2.2⟩
 ·rcases hi with hi|hi
  ·rw[hgt i hi]at hx;obtain⟨hx,hik⟩:=UI hx hl;obtain⟨im,QK,hr⟩:=QE.rel i x hi hx hl;exact⟨im,by rw[Rv i hi];exact QK,hr.keep (Yn hf) (hother _ (QE.low i x im hi hx hl QK).1 (apart i x im hi hx hl QK hik).2)⟩
  ·obtain rfl:i=n:=by omega
   rw[Ku]at hx;cases hx;exact⟨_,X3,ZU⟩
 ·rcases hi with hi|hi
  ·rw[hgt i hi]at hx;obtain⟨hx,hik⟩:=UI hx hl;rw[Rv i hi]at hm;have:=QE.low i x im hi hx hl hm;exact⟨by omega,this.2⟩
  ·obtain rfl:i=n:=by omega
   rw[X3]at hm;cases hm;exact⟨Xp,fun _=>hB,fun h=>by cases h⟩
 ·rcases hi with hi|hi <;> rcases hj with hj|hj
  ·rw[hgt i hi]at hx;rw[hgt j hj]at hy;rw[Rv i hi]at ha;rw[Rv j hj]at hb;exact QE.inj i j x y a b hi hj TS (UI hx hlx).1 (UI hy hly).1 hlx hly ha hb hra Ym
  ·obtain rfl:j=n:=by omega
   rw[hgt i hi]at hx;obtain⟨hx,hik⟩:=UI hx hlx;rw[Rv i hi]at ha;rw[X3]at hb;cases hb;exact(apart i x a hi hx hlx ha hik).1
  ·obtain rfl:i=n:=by omega
   rw[hgt j hj]at hy;obtain⟨hy,hjk⟩:=UI hy hly;rw[Rv j hj]at hb;rw[X3]at ha;cases ha;exact Ne.symm (apart j y b hj hy hly hb hjk).1
  ·omega
 ·rcases hi with hi|hi
  ·rw[hgt i hi,UJ]at hx;split at hx
   ·cases hx;exact hr.elim
   ·obtain⟨im,QK,h⟩:=QE.P1 i x hi hx hr;refine⟨im,by rw[Rv i hi];exact QK,fun b u hu=> ?_⟩;rw[hother b (PI QE hi hx hr QK hu) fun k Z9 e QS hb=> ?_]
    ·exact h b u hu
    ·obtain⟨hSk,⟨ok,hok',hlk⟩,im'',WK,hrk⟩:=hk k e;rw[QS]at WK;cases WK;exact QE.sep i k x ok im Z9 u hi hSk hx hok' hr hlk QK QS hrk (by rw[hb];exact hu)
  ·obtain rfl:i=n:=by omega
   rw[Ku]at hx;cases hx;exact(Yw ZU hr).elim
 ·rcases hi with hi|hi
  ·rw[hgt i hi,UJ]at hx;rw[Rv i hi]at ha;split at hx
   ·cases hx;exact hrx.elim
   ·rcases hj with hj|hj
    ·rw[hgt j hj]at hy;obtain⟨hy,_⟩:=UI hy hly;rw[Rv j hj]at hb;exact QE.sep i j x y a b u hi hj hx hy hrx hly ha hb Ym hu
    ·obtain rfl:j=n:=by omega
     rw[X3]at hb;cases hb;simp only at hu;rcases hg with hg|⟨k,Z9,e,QS,hb'⟩
     ·have:=PI QE hi hx hrx ha hu;omega
     ·obtain⟨hSk,⟨ok,hok',hlk⟩,im'',WK,hrk⟩:=hk k e;rw[QS]at WK;cases WK;exact QE.sep i k x ok a Z9 u hi hSk hx hok' hrx hlk ha QS hrk (by rw[hb'];exact hu)
  ·obtain rfl:i=n:=by omega
   rw[Ku]at hx;cases hx;exact Yw ZU hrx
 ·simp only[upd];rw[if_neg (by omega)]
 ·rw[QV,if_neg (by omega),UJ,if_neg];rintro⟨⟨k,rfl,rfl⟩,_⟩;exact hw (by simp)
 ·refine hother b hb fun k im e QK=> ?_
  have:=hk k e;exact hw k (by simp[e]) (hS k this.1) im QK
 ·have e:ko=some i:=by cases ko <;> simp_all
  exact hk i e
 ·obtain rfl:i=n:=by omega
  rw[X3]at hm;cases hm;refine⟨rfl, ?_⟩;rcases hg with hg|⟨k,Z9,e,QK,hb⟩
  ·exact .inl hg
  ·refine .inr ⟨k,by simp[e],hS k (hk k e).1,⟨Z9,QK,hb⟩,fun o ho hlo=> ?_⟩;rw[QV,if_neg (JU k (hk k e).1)]at ho;exact(UI ho hlo).2 k e rfl
 ·rcases hi with hi|hi
  ·obtain rfl:i=n:=by omega
   rw[Ku]at hx;cases hx;exact(Yw ZU hr).elim
  ·have e:ko=some i:=by cases ko <;> simp_all
   rw[QV,if_neg (by omega),UJ]at hx;split at hx
   ·cases hx;exact hr.elim
   ·rename_i hn;exact absurd ⟨⟨i,e,rfl⟩,by rw[hx];rfl⟩ hn

def Sp(H:Qt)(e:TypeId)(z:Nat):Value->Option (Array Value×Nat×Option Nat)
 | .slice none 0 0=>some (#[],0,none)
 | .slice (some ⟨b,0,none⟩) n s=>match Qw H b with
   |some (.cells cs te (0,0))=>bif Lf te e && Lf s z && Lf cs.size (n*z)then some (cs,n,some b)else
    bif Lf te e && Lf s z && LR (n*z) cs.size then some (cs.extract 0 (n*z),n,some b)else none
   |_=>none
 |_=>none
def m8(H:Qt)(z:Nat):Value->Option (Array Value×Nat×Nat)
 | .slice (some ⟨b,off,none⟩) m _=>match Qw H b with
   |some (.cells cs _ _)=>bif LR (off+m*z) cs.size then some (cs.extract off (off+m*z),m,b)else none
   |_=>none
 |_=>none
def VZ(P:Program)(t:TypeId)(H:Qt)(n:Nat)(s x:Value):Option CR:=
 match R5 P t with
 |some (.slice e)=>match inf P e with
  |some i=>match i.zero,i.size with
   |some zv,z+1=>match Sp H e (z+1) s,m8 H (z+1) x with
    |some (cs,k,ko),some (ns,m,b)=>
     bif ones ns && Lf zv.cells.size (z+1) && LR (k+m) maxLen && LR ((k+m)*i.bytes) 140737488355328 && Lr 0 m then
      some ⟨.val (.slice (some ⟨n,0,none⟩) (k+m) (z+1)),(n,.cells (cs++ns) e (0,0))::ah H ko,n+1,b::ko.toList,ko.toList⟩else none
    |_,_=>none
   |_,_=>none
  |none=>none
 |_=>none
theorem OR.cellsAt{μ:Mu}{w:World}{im:c7}{cs:Array Value}{t:TypeId}{fz:Nat×Nat}(h:OR μ w im (.cells cs t fz)){off s:Nat}(hle:off+s<=cs.size):
 ∃xs:List Value,xs.length=s/\(∀(j:Nat) u,xs[j]? =some u->w.cell? ((⟨im.Zt,im.off+off,none⟩:Addr).add j)=some u)/\VRs μ (cs.extract off (off+s)) xs.toArray:=by
 let f:Nat->Value:=fun j=>(w.cell? ⟨im.Zt,im.off+(off+j),none⟩).getD undef
 have hf:∀j,j<s->∃v,cs[off+j]? =some v/\w.cell? ⟨im.Zt,im.off+(off+j),none⟩=some (f j)/\VR μ v (f j):=by
  intro j hj;have Xp:off+j<cs.size:=by omega
  obtain⟨v',a,b⟩:=h.cell (i:=off+j) (v:=cs[off+j]) (by simp[Xp]);exact⟨cs[off+j],by simp[Xp],by simp[f,a],by simpa[f,a]using b⟩
 refine⟨(Ll s).map f,by simp,fun j u hu=> ?_,by simp;omega,fun i v v' hv ZQ=> ?_⟩
 ·rw[LF]at hu;by_cases hj:j<s
  ·obtain⟨_,_,hc,_⟩:=hf j hj;rw[List.getElem?_range hj]at hu;simp only[LL,YO]at hu;rw[Wx,Nat.add_assoc,hc,hu]
  ·rw[LG (by simp;omega)]at hu;cases hu
 ·rw[LX]at hv;split at hv
  ·rename_i Xp;obtain⟨u,hu,_,VY⟩:=hf i (by omega);rw[hu]at hv;cases hv;have hi:i<s:=by omega
   simp[hi]at ZQ;rw[<-ZQ];exact VY
  ·cases hv
theorem nT{H:Qt}{e:TypeId}{z b n s0:Nat}{cs0:Array Value}{te:TypeId}{cs:Array Value}{k:Nat}{ko:Option Nat}(hg:Qw H b=some (.cells cs0 te (0,0)))(h:Sp H e z (.slice (some ⟨b,0,none⟩) n s0)=some (cs,k,ko)):
 te=e/\s0=z/\n*z<=cs0.size/\cs=cs0.extract 0 (n*z)/\k=n/\ko=some b:=by
 simp only[Sp,hg]at h;cases h1:(Lf te e && Lf s0 z && Lf cs0.size (n*z))with
 |true=>
  rw[h1]at h;simp only[cond_true,YO,YR]at h;simp only[YB]at h1;have e3:=YE h1.2;exact⟨YE h1.1.1,YE h1.1.2,by omega,by rw[<-h.1,<-e3];simp,h.2.1.symm,h.2.2.symm⟩
 |false=>
  rw[h1]at h;simp only[cond_false]at h;cases h2:(Lf te e && Lf s0 z && LR (n*z) cs0.size)with
  |false=>rw[h2]at h;cases h
  |true=>
   rw[h2]at h;simp only[cond_true,YO,YR]at h;simp only[YB]at h2;exact⟨YE h2.1.1,YE h2.1.2,YL h2.2,h.1.symm,h.2.1.symm,h.2.2.symm⟩
theorem Az{B:Nat}{S:Nat->Prop}{μ:Mu}{H:Qt}{w:World}{e:TypeId}{z:Nat}{s s':Value}{cs:Array Value}{k:Nat}{ko:Option Nat}(h:Sp H e (z+1) s=some (cs,k,ko))(QE:Ok B S μ (Qw H) w)(hs:VR μ s s')(hko:∀b∈ko.toList,S b):
 ∃xs:List Value,w.ownsRow B e (z+1) s' k xs/\VRs μ cs xs.toArray/\(∀b,ko=some b->S b/\(∃o,Qw H b=some o/\live o)/\∃im,μ b=some im/\im.rw=true/\s'.ownBlock=some im.Zt)/\(ko=none->s'.ownBlock=none):=by
 have h':=h;unfold Sp at h';split at h'
 ·simp only[YO,YR]at h';obtain⟨rfl,rfl,rfl⟩:=h';cases hs;exact⟨[],⟨by simp,.inl ⟨rfl,rfl⟩⟩,⟨rfl,fun i v v' hv _=>by simp at hv⟩,fun b hb=>by simp at hb,fun _=>rfl⟩
 ·rename_i b n s0;split at h'
  ·rename_i cs0 te hg;obtain⟨rfl,rfl,e3,rfl,rfl,rfl⟩:=nT hg h;have hb:S b:=hko b (by simp);obtain⟨im,QK,ZU⟩:=QE.rel b _ hb hg trivial;cases hs with
   |slice har h1 h2 h3=>
    rename_i c';obtain⟨Z9,QS,_,rfl⟩:=har;simp only at QS;rw[QK]at QS;cases QS;rcases ZU with ⟨_,hr,ho,arr,ha,hle,hcap,hcc⟩|⟨hz,_⟩
    ·have hce:=h3 (by omega) im QK hr rfl;refine⟨arr.toList.take (k*(z+1)),⟨by simp;omega,.inr ⟨im.Zt,c',arr,by simp[ho],(QE.low b _ im hb hg trivial QK).2.1 hr,ha,h1,h2,by omega,rfl⟩⟩,⟨by simp;omega,fun i v v' hv ZQ=> ?_⟩,fun b' hb'=> ?_,fun h=>by cases h⟩
     ·rw[LX]at hv;split at hv
      ·rename_i hi;rw[LD]at hv;obtain⟨u,hu,VY⟩:=hcc i v hv;simp only[List.getElem?_toArray]at ZQ;rw[L0 (by omega)]at ZQ;simp only[Lq]at ZQ;rw[hu]at ZQ;cases ZQ;exact VY
      ·cases hv
     ·cases hb';exact⟨hb,⟨_,hg,trivial⟩,im,QK,hr,rfl⟩
    ·exact absurd rfl hz
  ·cases h'
 ·cases h'
theorem iU{P:Program}{B n:Nat}{S:Nat->Prop}{μ:Mu}{H:Qt}{w:World}{t ty:TypeId}{s x s' x':Value}{r:CR}(h:VZ P t H n s x=some r)(QE:Ok B S μ (Qw H) w)(hB:B<=w.heap.size)(hS:∀i,S i->i<n)
 (hf:μ n=none) (hs:VR μ s s') (hx:VR μ x x') (hR:∀i∈r.R,S i):
 ∃v v' w' μ',(Builtin.append_ #[t,t] ty #[s',x']).run P w=.ok v' w'/\Post B S n r.n r.W μ μ' H r.H w w'/\r.nx=.val v/\VR μ' v v'/\r.n=n+1:=by
 unfold VZ at h;simp only[Zx,JZ]at h;split at h
 ·rename_i e hu;split at h
  ·rename_i i hi;split at h
   ·rename_i zv z hz ZW;split at h
    ·rename_i cs k ko ns m b hh hn;cases hc:(ones ns && Lf zv.cells.size (z+1) && LR (k+m) maxLen && LR ((k+m)*i.bytes) 140737488355328 && Lr 0 m)with
     |false=>rw[hc]at h;cases h
     |true=>
      rw[hc]at h;simp only[cond_true,YO]at h;subst h;simp only[YB]at hc;obtain⟨⟨⟨⟨c1,c2⟩,c3⟩,c4⟩,c5⟩:=hc;have c2:=YE c2;have c3:=YL c3;have c4:=YL c4;have c5:0<m:=YL c5;obtain⟨xs,hown,hxs,hk1,hk2⟩:=Az hh QE hs (fun b hb=>hR b (by simp[hb]));unfold m8 at hn;split at hn
      ·rename_i b2 off m0 s2;split at hn
       ·rename_i cs2 te2 fz2 hg2;cases hle:LR (off+m0*(z+1)) cs2.size with
        |false=>rw[hle]at hn;cases hn
        |true=>
         rw[hle]at hn;simp only[cond_true,YO,YR]at hn;obtain⟨rfl,rfl,rfl⟩:=hn;have hle:=YL hle;have hb2:S b2:=hR b2 (by simp);obtain⟨im2,WS,hor2⟩:=QE.rel b2 _ hb2 hg2 trivial;cases hx with
         |slice har h1 h2 h3=>
          obtain⟨Z9,QS,_,rfl⟩:=har;simp only at QS;rw[WS]at QS;cases QS;obtain⟨news,hnl,hnc,hnv⟩:=hor2.cellsAt hle;obtain⟨v',w',VU,hown',hgr,_,hob⟩:=run_append_own_at (P:=P) w B t ty e i zv (z+1) i.bytes hu hi hz ZW rfl c2 (by omega) s' k xs hown _ m0 _ news hnl hnc (hnv.ones c1) c3 c4 hB;have hxl:xs.length=k*(z+1):=hown.1;rcases hown'.2 with ⟨_,hh0⟩|⟨g,cap,cur,rfl,hBg,hgc,hcap1,hcap2,hcs,htk⟩
          ·omega
          ·have hgl:g<w'.heap.size:=(Array.getElem?_eq_some_iff.1 hgc).1;have hob:some g=s'.ownBlock\/some g=some w.heap.size:=hob;have hcsz:cs.size=xs.length:=by have:=hxs.1;simpa using this
           have hnsz:(cs2.extract off (off+m0*(z+1))).size=news.length:=by have:=hnv.1;simpa using this
           refine⟨_,_,_,_,VU,gA QE hS hf ko (fun b hb=>let⟨a,c,im,d,f,_⟩:=hk1 b hb;⟨a,c,im,d,f⟩) g cur.size _ hBg hgl ?_ hgr.size ?_ (.ofCells hgc ?_ rfl fun j v hv=> ?_) ⟨hgr.os,hgr.tape,hgr.output⟩,rfl, ?_,rfl⟩
           ·cases ko with
            |none=>
             rw[hk2 rfl]at hob;rcases hob with hob|hob
             ·cases hob
             ·simp only[YO]at hob;exact .inl (by omega)
            |some b=>
             obtain⟨_,_,im,d,_,f⟩:=hk1 b rfl;rw[f]at hob;rcases hob with hob|hob
             ·simp only[YO]at hob;exact .inr ⟨b,im,rfl,d,hob.symm⟩
             ·simp only[YO]at hob;exact .inl (by omega)
           ·intro q hq JU;refine hgr.block q hq fun e0=> ?_
            cases ko with
            |none=>rw[hk2 rfl]at e0;cases e0
            |some b=>
             obtain⟨_,_,im,d,_,f⟩:=hk1 b rfl;rw[f]at e0;simp only[YO]at e0;exact JU b im rfl d e0.symm
           ·rw[Array.size_append,hcsz,hnsz,hxl,hnl,<-Nat.add_mul,hcs];exact Nat.mul_le_mul_right _ hcap1
           ·have hj:j<(k+m0)*(z+1):=by
             have:=(Array.getElem?_eq_some_iff.1 hv).1;rw[Array.size_append,hcsz,hnsz,hxl,hnl,<-Nat.add_mul]at this;exact this
            have hcur:cur[j]? =(xs++news)[j]? :=by
             rw[<-htk,L0 hj];simp
            rw[hcur];rw[Array.getElem?_append]at hv;split at hv
            ·rename_i Xp;obtain⟨u,hu',VY⟩:=hxs.get hv;rw[Lx (by omega)];exact⟨u,by simpa using hu',VY.mono (Yn hf)⟩
            ·rename_i Xp;obtain⟨u,hu',VY⟩:=hnv.get hv;rw[Lm (by omega)];exact⟨u,by rw[<-hcsz];simpa using hu',VY.mono (Yn hf)⟩
           ·refine .slice ⟨_,X3,rfl,rfl⟩ hcap1 hcap2 (fun _ im QK _ _=> ?_);rw[show upd μ n ⟨g,0,cur.size,true,aj⟩ n=some _ from X3]at QK;cases QK;exact hcs.symm
       ·cases hn
      ·cases hn
    ·cases h
   ·cases h
  ·cases h
 ·cases h

def bare:Value->Value
 | .chan (some 0)=>.slice none 0 0
 |v=>v
theorem iX{P:Program}{t e ty:TypeId}{i:TypeInfo}{z:Value}(hu:P.underlying t=some (.slice e))(hi:P.info? e=some i)(hz:i.zero=some z)(w:World)(b a:Addr)(m c:Nat)(news:List Value)(hl:news.length=m*i.size)(hn:∀j u,news[j]? =some u->w.cell? (a.add j)=some u)
 (h0:0<m) (h1:m<=maxLen) (h2:m*i.bytes<=140737488355328):
 (Builtin.append_ #[t,t] ty #[.slice (some b) 0 0,.slice (some a) m c]).run P w=(Builtin.append_ #[t,t] ty #[.slice none 0 0,.slice (some a) m c]).run P w:=by
 have hsm:(m:Int)<=9223372036854775807:=by simp only[maxLen]at h1;omega
 rw[run_append_nil (P:=P) w t ty e i z hu hi hz a m c news hl hn h0 hsm (by omega),
  run_append_grow (P:=P) w t ty e i z hu hi hz b 0 0 [] (by simp) (fun j v h=>by simp at h) a m c news hl hn (by omega) (by omega) (growslice_fits (by omega) (by rw[LD];exact h2))]
 simp
theorem s6{P:Program}{B n:Nat}{S:Nat->Prop}{μ:Mu}{H:Qt}{w:World}{t ty:TypeId}{s x s' x':Value}{r:CR}(h:VZ P t H n (bare s) x=some r)(QE:Ok B S μ (Qw H) w)(hB:B<=w.heap.size)(hS:∀i,S i->i<n)
 (hf:μ n=none) (hs:VR μ s s') (hx:VR μ x x') (hR:∀i∈r.R,S i):
 ∃v v' w' μ',(Builtin.append_ #[t,t] ty #[s',x']).run P w=.ok v' w'/\Post B S n r.n r.W μ μ' H r.H w w'/\r.nx=.val v/\VR μ' v v'/\r.n=n+1:=by
 by_cases hb:s=bc
 ·subst hb;cases hs;rename_i a;have hh:VZ P t H n (.slice none 0 0) x=some r:=h;obtain⟨v,v',w',μ',hr,k⟩:=iU (ty:=ty) hh QE hB hS hf (.Rm 0 0) hx hR;refine⟨v,v',w',μ', ?_,k⟩;cases a with
  |none=>exact hr
  |some a=>
   rw[<-hr];unfold VZ at hh;simp only[Zx,JZ]at hh;split at hh
   ·rename_i e hu;split at hh
    ·rename_i i hi;split at hh
     ·rename_i zv z hz ZW;split at hh
      ·rename_i cs k0 ko ns m b hhd hn;simp only[Sp,YO,YR]at hhd;obtain⟨rfl,rfl,rfl⟩:=hhd;cases hc:(ones ns && Lf zv.cells.size (z+1) && LR (0+m) maxLen && LR ((0+m)*i.bytes) 140737488355328 && Lr 0 m)with
       |false=>rw[hc]at hh;cases hh
       |true=>
        rw[hc]at hh;simp only[cond_true,YO]at hh;subst hh;simp only[YB]at hc;obtain⟨⟨⟨⟨c1,c2⟩,c3⟩,c4⟩,c5⟩:=hc;have c3:=YL c3;have c4:=YL c4;have c5:0<m:=YL c5;rw[LD]at c3 c4;unfold m8 at hn;split at hn
        ·rename_i b2 off m0 s2;split at hn
         ·rename_i cs2 te2 fz2 hg2;cases hle:LR (off+m0*(z+1)) cs2.size with
          |false=>rw[hle]at hn;cases hn
          |true=>
           rw[hle]at hn;simp only[cond_true,YO,YR]at hn;obtain⟨rfl,rfl,rfl⟩:=hn;have hle:=YL hle;have hb2:S b2:=hR b2 (by simp);obtain⟨im2,WS,hor2⟩:=QE.rel b2 _ hb2 hg2 trivial;cases hx with
           |slice har h1 h2 h3=>
            obtain⟨Z9,QS,_,rfl⟩:=har;simp only at QS;rw[WS]at QS;cases QS;obtain⟨news,hnl,hnc,hnv⟩:=hor2.cellsAt hle;exact iX hu hi hz w a _ m0 _ news (by rw[hnl,ZW]) hnc c5 c3 c4
         ·cases hn
        ·cases hn
      ·cases hh
     ·cases hh
    ·cases hh
   ·cases hh
 ·have e:bare s=s:=by
   unfold bare;split
   ·exact absurd rfl hb
   ·rfl
  rw[e]at h;exact iU h QE hB hS hf hs hx hR
def Ms:Value->Bool
 | .slice none 0 0| .slice (some ⟨_,_,none⟩) 0 _| .chan (some 0)=>true
 |_=>false
def Mr:Value->Bool
 | .slice none 0 0| .slice (some ⟨_,_,none⟩) _ _| .chan (some 0)=>true
 |_=>false
def BG(P:Program)(t:TypeId)(H:Qt)(n:Nat)(s x:Value):Option CR:=match R5 P t with
 |some (.slice e)=>match Wz P e with
  |some _=>bif Ms x && Mr s then some ⟨.val s,H,n,[],[]⟩else none
  |none=>none
 |_=>none
theorem Hm{μ:Mu}{x x':Value}(h:Ms x=true)(hx:VR μ x x'):∃a c,x'=.slice a 0 c:=by
 unfold Ms at h;split at h
 ·cases hx;exact⟨_,_,rfl⟩
 ·cases hx;exact⟨_,_,rfl⟩
 ·cases hx;exact⟨_,_,rfl⟩
 ·cases h
theorem Hl{μ:Mu}{x x':Value}(h:Mr x=true)(hx:VR μ x x'):∃a k c,x'=.slice a k c/\k<=c:=by
 unfold Mr at h;split at h
 ·cases hx;exact⟨_,_,_,rfl,LI _⟩
 ·cases hx with|slice _ h1=>exact⟨_,_,_,rfl,h1⟩
 ·cases hx;exact⟨_,_,_,rfl,LI _⟩
 ·cases h
theorem iY{P:Program}{t e ty:TypeId}{z:Nat}(hu:P.underlying t=some (.slice e))(hz:Wz P e=some z)(w:World)(a b:Option Addr)(k c d:Nat)(hk:k<=c):
 (Builtin.append_ #[t,t] ty #[.slice a k c,.slice b 0 d]).run P w=.ok (.slice a k c) w:=by
 cases a <;> cases b <;> simp[Builtin.append_,Sem.run_bind,run_underlying hu,Result.andThen_ok,Zp hz,Builtin.lenOf,Builtin.firstCells,Sem.run_pure,hk,storeCells,loadCells,loadCellsFrom]
theorem Ef{P:Program}{μ:Mu}{H:Qt}{n:Nat}{w:World}{t ty:TypeId}{s x s' x':Value}{r:CR}(h:BG P t H n s x=some r)(hs:VR μ s s')(hx:VR μ x x'):
 (Builtin.append_ #[t,t] ty #[s',x']).run P w=.ok s' w/\r=⟨.val s,H,n,[],[]⟩:=by
 unfold BG at h;simp only[Zx]at h;split at h
 ·rename_i e hu;split at h
  ·rename_i z hz;cases hc:(Ms x && Mr s)with
   |false=>rw[hc]at h;cases h
   |true=>
    rw[hc]at h;simp only[cond_true,YO]at h;simp only[YB]at hc;obtain⟨b,d,rfl⟩:=Hm hc.1 hx;obtain⟨a,k,c,rfl,hk⟩:=Hl hc.2 hs;exact⟨iY hu hz w a b k c d hk,h.symm⟩
  ·cases h
 ·cases h
def qt(P:Program)(t t':TypeId)(H:Qt)(n:Nat)(s x:Value):Option CR:=match R5 P t,R5 P t',s,x with
 |some (.slice e),some (.int _),.slice none 0 0,.int _ l=>match inf P e with
  |some i=>match i.zero,i.size with
   |some zv,z+1=>bif decide (0<l) && decide (l<=9223372036854775807) && LR (l.toNat*i.bytes) 140737488355328 && Lf zv.cells.size (z+1) && (Builtin.zeroCells zv.cells l.toNat).all simple then
    some ⟨.val (.slice (some ⟨n,0,none⟩) l.toNat (z+1)),(n,.cells (Builtin.zeroCells zv.cells l.toNat) e (0,0))::H,n+1,[],[]⟩else none
   |_,_=>none
  |none=>none
 |_,_,_,_=>none
theorem Ee{P:Program}{B n:Nat}{S:Nat->Prop}{μ:Mu}{H:Qt}{w:World}{t t' ty:TypeId}{s x s' x':Value}{r:CR}(h:qt P t t' H n s x=some r)(QE:Ok B S μ (Qw H) w)(hB:B<=w.heap.size)(hS:∀i,S i->i<n)
 (hf:μ n=none) (hs:VR μ s s') (hx:VR μ x x'):
 ∃v v' w' μ',(Builtin.append_ #[t,t'] ty #[s',x']).run P w=.ok v' w'/\Post B S n r.n r.W μ μ' H r.H w w'/\r.nx=.val v/\VR μ' v v'/\r.n=n+1:=by
 unfold qt at h;simp only[Zx,JZ]at h;split at h
 ·rename_i e kn k l hu hu';split at h
  ·rename_i i hi;split at h
   ·rename_i zv z hz ZW;cases hc:(decide (0<l) && decide (l<=9223372036854775807) && LR (l.toNat*i.bytes) 140737488355328 && Lf zv.cells.size (z+1) && (Builtin.zeroCells zv.cells l.toNat).all simple)with
    |false=>rw[hc]at h;cases h
    |true=>
     rw[hc]at h;simp only[cond_true,YO]at h;subst h;simp only[YB,decide_eq_true_eq]at hc;obtain⟨⟨⟨⟨c1,c2⟩,c3⟩,c4⟩,c5⟩:=hc;have c3:=YL c3;have c4:=YE c4;cases hs;cases hx;obtain⟨m,rfl⟩:∃m:Nat,l=m:=⟨l.toNat,by omega⟩
     rw[Int.toNat_natCast]at c3 c5 ⊢;have hr:=Lib.run_append_nil_zeros (P:=P) w t t' ty e i zv k kn hu hu' hi hz m (by omega) (by omega) c2 (by omega);have hge:=grownCap_ge w m 0 e;have hcm:=grownCap_le_maxLen w m 0 e (by unfold maxLen;omega);have hsz0:(Builtin.zeroCells zv.cells m).size=m*(z+1):=by rw[size_zeroCells,c4]
     have harr:(Builtin.zeroCells zv.cells m++Builtin.zeroCells zv.cells (grownCap w m 0 e-m)).size=grownCap w m 0 e*(z+1):=by
      rw[Array.size_append,size_zeroCells,size_zeroCells,c4,<-Nat.add_mul];congr 1;omega
     refine⟨_,_,_,_,hr,gA QE hS hf none (fun _ h=>by cases h) w.heap.size (Builtin.zeroCells zv.cells m++Builtin.zeroCells zv.cells (grownCap w m 0 e-m)).size _ hB (by simp) (.inl (LI _)) (by simp) (fun b hb _=>heap_alloc_old w.drew _ b hb) (.ofCells (heap_alloc_new w.drew _) ?_ rfl fun j v hv=> ?_) ⟨rfl,rfl,rfl⟩,rfl, ?_,rfl⟩
     ·rw[Array.size_append];omega
     ·have hj:=(Array.getElem?_eq_some_iff.1 hv).1;refine⟨v,by rw[Array.getElem?_append_left hj];exact hv,ZO ?_⟩;obtain⟨Xp,rfl⟩:=Array.getElem?_eq_some_iff.1 hv;exact Array.all_eq_true.1 c5 j Xp
     ·refine .slice ⟨_,X3,rfl,rfl⟩ hge hcm (fun _ im QK _ _=> ?_);rw[X3]at QK;cases QK;exact harr.symm
   ·cases h
  ·cases h
 ·cases h
def xY(P:Program)(t t':TypeId)(H:Qt)(n:Nat)(s x:Value):Option CR:=
 bif Lf t t' then
  match VZ P t H n (bare s) x with
  |some r=>some r
  |none=>BG P t H n s x
 else qt P t t' H n s x

def partsOf(ev:Operand->Option Value):List (Nat×Operand)->Option (List (Nat×Value))
 |[]=>some []
 |(i,x)::l=>match ev x with
  |some v=>match partsOf ev l with
   |some r=>some ((i,v)::r)
   |none=>none
  |none=>none
theorem TH{μ:Mu}{ev:Operand->Option Value}{ρ:Operand->Value}:∀(l:List (Nat×Operand)) (ps:List (Nat×Value)),partsOf ev l=some ps->(∀p∈l,∀v,ev p.2=some v->VR μ v (ρ p.2))->
 ps.length=(l.map fun p=>(p.1,ρ p.2)).length/\∀(i:Nat) p p',ps[i]? =some p->(l.map fun p=>(p.1,ρ p.2))[i]? =some p'->p'.1=p.1/\VR μ p.2 p'.2
 |[],ps,h,_=>by
  simp only[partsOf,YO]at h;subst h;exact⟨rfl,fun i p p' hp _=>by simp at hp⟩
 |(i,x)::l,ps,h,hv=>by
  simp only[partsOf]at h;cases hx:ev x with
  |none=>rw[hx]at h;cases h
  |some v=>
   rw[hx]at h;cases hr:partsOf ev l with
   |none=>rw[hr]at h;cases h
   |some r=>
    rw[hr]at h;simp only[YO]at h;subst h;obtain⟨h1,h2⟩:=TH l r hr (fun p hp=>hv p (Lt _ hp));refine⟨by simpa using h1,fun j p p' hp hp'=> ?_⟩;cases j with
    |zero=>
     simp only[Lu,List.map_cons,YO]at hp hp';subst hp hp';exact⟨rfl,hv (i,x) (by simp) v hx⟩
    |succ j=>exact h2 j p p' (by simpa using hp) (by simpa using hp')
def built(P:Program)(t:TypeId)(parts:List (Nat×Value)):Option (Array Value):=
 match inf P t,R5 P t with
 |some it,some (.array _ e)=>
  match it.zero,inf P e with
  |some z,some ie=>Instr.fill (fun i=>some (i*ie.size,ie.size)) z.cells parts
  |_,_=>none
 |some it,some (.struct fields)=>
  match it.zero,fields.toList.mapM (fun f=>(inf P f.type).map fun i=>(f.offset,i.size))with
  |some z,some Qb=>Instr.fill (nth Qb) z.cells parts
  |_,_=>none
 |_,_=>none
theorem HO(P:Program)(t:TypeId)(ps:List (Nat×Value)):built P t ps=P.built t ps:=by
 have e:∀l:List (Nat×Nat),nth l=(l.toArray[·]?):=fun l=>funext fun i=>by rw[ba];simp
 unfold built Program.built;simp only[JZ,Zx,e];rfl
def s5(P:Program)(t:TypeId)(ps:List (Nat×Value)):Option Value:=
 match built P t ps with
 |some cs=>bif (match zeroOf P t with|some z=>af z|none=>false)then some (.agg cs)else none
 |none=>none
theorem AM{P:Program}{μ:Mu}{t:TypeId}{ps:List (Nat×Value)}{ps':Array (Nat×Value)}{v:Value}(h:s5 P t ps=some v)(hl:ps.length=ps'.toList.length)(hp:∀(i:Nat) p p',ps[i]? =some p->ps'.toList[i]? =some p'->p'.1=p.1/\VR μ p.2 p'.2)(w:World):
 ∃v',(Instr.build t ps').run P w=.ok v' w/\VR μ v v':=by
 unfold s5 at h;rw[HO]at h;cases hb:P.built t ps with
 |none=>rw[hb]at h;cases h
 |some cs=>
  rw[hb]at h;dsimp only at h;cases hz:zeroOf P t with
  |none=>rw[hz]at h;cases h
  |some z=>
   rw[hz]at h;dsimp only at h;cases ha:af z with
   |false=>rw[ha]at h;cases h
   |true=>
    rw[ha]at h;simp only[cond_true,YO]at h;subst h;have hzz:VRs μ z.cells z.cells:=(PC (μ:=μ) ha).cells;have key:∃cs',P.built t ps'.toList=some cs'/\VRs μ cs cs':=by
     unfold zeroOf at hz;rw[JZ]at hz;unfold Program.built at hb ⊢;cases hi:P.info? t with
     |none=>rw[hi]at hz;cases hz
     |some it=>
      rw[hi]at hz hb;dsimp only at hz;cases hu:P.underlying t with
      |none=>rw[hu]at hb;cases hb
      |some d=>
       rw[hu]at hb;cases d <;> simp only[hz]at hb ⊢ <;> first|(cases hb;done)|skip
       case array n e=>
        cases he:P.info? e with
        |none=>rw[he]at hb;cases hb
        |some ie=>
         rw[he]at hb;exact jS ps ps'.toList _ _ cs hl hp hzz hb
       case struct fields=>
        cases he:fields.toList.mapM (fun f=>(P.info? f.type).map fun i=>(f.offset,i.size))with
        |none=>rw[he]at hb;cases hb
        |some Qb=>
         rw[he]at hb;exact jS ps ps'.toList _ _ cs hl hp hzz hb
    obtain⟨cs',h1,h2⟩:=key;exact⟨.agg cs',run_build w t ps' cs' h1,.agg h2.1 h2.2⟩
end Go.CE

namespace Go.CE
open Go Go.RowKit

def Sb(P:Program)(t:TypeId)(len:Nat)(ps:List (Nat×Value)):Option (TypeId×Array Value×Nat):=
 match R5 P t with
 |some (.slice e)=>match inf P e with
  |some i=>match i.zero with
   |some z=>bif decide (len*i.size<=2 ^ 24) && Lr 0 (len*i.size) && ((Array.range (len*i.size)).map (z.cells[· % z.cells.size]!)).all simple && LR len maxLen then
    match Instr.fill (fun j=>some (j*i.size,i.size)) ((Array.range (len*i.size)).map (z.cells[· % z.cells.size]!)) ps with
    |some cs=>bif Lf cs.size (len*i.size)then some (e,cs,i.size)else none
    |none=>none
     else none
   |none=>none
  |none=>none
 |_=>none
theorem j5{P:Program}{B n:Nat}{S:Nat->Prop}{μ:Mu}{H:Qt}{w:World}{t e:TypeId}{len s:Nat}{ps:List (Nat×Value)}{ps':Array (Nat×Value)}{cs:Array Value}(h:Sb P t len ps=some (e,cs,s))(QE:Ok B S μ (Qw H) w)(hB:B<=w.heap.size)
 (hS:∀i,S i->i<n) (hf:μ n=none) (hl:ps.length=ps'.toList.length) (hp:∀(i:Nat) p p',ps[i]? =some p->ps'.toList[i]? =some p'->p'.1=p.1/\VR μ p.2 p'.2):
 ∃v' w' μ',(Instr.buildSlice t len ps').run P w=.ok v' w'/\Post B S n (n+1) [] μ μ' H ((n,.cells cs e (0,0))::H) w w'/\VR μ' (.slice (some ⟨n,0,none⟩) len s) v':=by
 unfold Sb at h;simp only[Zx,JZ]at h;split at h
 ·rename_i e0 hu;split at h
  ·rename_i i hi;split at h
   ·rename_i z hz;cases hc:(decide (len*i.size<=2 ^ 24) && Lr 0 (len*i.size) && ((Array.range (len*i.size)).map (z.cells[· % z.cells.size]!)).all simple && LR len maxLen)with
    |false=>rw[hc]at h;cases h
    |true=>
     rw[hc]at h;simp only[cond_true]at h;simp only[YB,decide_eq_true_eq]at hc;obtain⟨⟨⟨c1,c2⟩,c3⟩,c4⟩:=hc;have c2:0<len*i.size:=YL c2;have c4:=YL c4;split at h
     ·rename_i cs0 hfill;cases hcs:Lf cs0.size (len*i.size)with
      |false=>rw[hcs]at h;cases h
      |true=>
       rw[hcs]at h;simp only[cond_true,YO,YR]at h;obtain⟨rfl,rfl,rfl⟩:=h;have hcs:=YE hcs;have hbase:VRs μ ((Array.range (len*i.size)).map (z.cells[· % z.cells.size]!)) ((Array.range (len*i.size)).map (z.cells[· % z.cells.size]!)):=⟨rfl,fun j v v' hv ZQ=>by
        rw[hv]at ZQ;cases ZQ;obtain⟨Xp,rfl⟩:=Array.getElem?_eq_some_iff.1 hv;exact ZO (Array.all_eq_true.1 c3 j Xp)⟩
       obtain⟨cs',h1,h2⟩:=jS ps ps'.toList _ _ cs0 hl hp hbase hfill;refine⟨_,_,_,run_buildSlice (P:=P) w t e0 len ps' cs' i z hu hi hz (by omega) (by omega) h1,jK QE hB hS hf cs0 cs' e0 (by rw[h2.1];exact LI _) h2.all, ?_⟩;refine .slice ⟨_,X3,rfl,rfl⟩ (LI _) c4 (fun _ im QK _ _=> ?_);rw[show upd μ n ⟨w.heap.size,0,cs'.size,true,aj⟩ n=some _ from X3]at QK;cases QK;simp only;rw[<-h2.1,hcs]
     ·cases h
   ·cases h
  ·cases h
 ·cases h

def Rt(ev:Operand->Option Value):List Operand->Option (List Value)
 |[]=>some []
 |x::l=>match ev x with
  |some v=>match Rt ev l with
   |some r=>some (v::r)
   |none=>none
  |none=>none
theorem cl{μ:Mu}{ev:Operand->Option Value}{ρ:Operand->Value}:∀(l:List Operand) (vs:List Value),Rt ev l=some vs->(∀x∈l,∀v,ev x=some v->VR μ v (ρ x))->VRs μ vs.toArray (l.map ρ).toArray
 |[],vs,h,_=>by
  simp only[Rt,YO]at h;subst h;exact⟨rfl,fun i p p' hp _=>by simp at hp⟩
 |x::l,vs,h,hv=>by
  simp only[Rt]at h;cases hx:ev x with
  |none=>rw[hx]at h;cases h
  |some v=>
   rw[hx]at h;cases hr:Rt ev l with
   |none=>rw[hr]at h;cases h
   |some r=>
    rw[hr]at h;simp only[YO]at h;subst h;obtain⟨h1,h2⟩:=cl l r hr (fun p hp=>hv p (Lt _ hp));refine⟨by simpa using h1,fun j p p' hp hp'=> ?_⟩;cases j with
    |zero=>
     simp only[List.getElem?_toArray,Lu,List.map_cons,YO]at hp hp';subst hp hp';exact hv x (by simp) v hx
    |succ j=>exact h2 j p p' (by simpa using hp) (by simpa using hp')
theorem VRs.append{μ:Mu}{xs xs' ys ys':Array Value}(h:VRs μ xs xs')(k:VRs μ ys ys'):VRs μ (xs++ys) (xs'++ys'):=by
 refine⟨by simp[h.1,k.1],fun i v v' hv ZQ=> ?_⟩;rw[Array.getElem?_append]at hv ZQ;rw[<-h.1]at ZQ;split at hv
 ·rename_i Xp;rw[if_pos Xp]at ZQ;exact h.2 i v v' hv ZQ
 ·rename_i Xp;rw[if_neg Xp]at ZQ;exact k.2 _ v v' hv ZQ

def Q6(P:Program)(f:FuncId):Bool:=
 match P.funcs[f]? with
 |some fn=>fn.body.isSome && !(fn.name== "runtime.NumGoroutine")
 |none=>false
theorem fX{P:Program}{f:FuncId}(h:Q6 P f=true)(args:Array Value)(w:World):(callFunc f args).run P w=.ok (.enter f args) w:=by
 unfold Q6 at h;cases hf:P.funcs[f]? with
 |none=>rw[hf]at h;cases h
 |some fn=>
  rw[hf]at h;simp only[YB,Bool.not_eq_true']at h;have hn:¬fn.name= "runtime.NumGoroutine":=by simpa using h.2
  have hb:¬fn.body=none:=fun e=>by rw[e]at h;simp at h
  simp[callFunc,hf,hn,hb]
theorem VRs.fold{μ:Mu}:∀(l:List (Nat×Value)) (l':List (Nat×Value)) (xs xs':Array Value),l.length=l'.length->(∀(i:Nat) p p',l[i]? =some p->l'[i]? =some p'->p'.1=p.1/\VR μ p.2 p'.2)->VRs μ xs xs'->
 VRs μ (l.foldl (fun tm (x:Nat×Value)=>tm.setIfInBounds x.1 x.2) xs) (l'.foldl (fun tm (x:Nat×Value)=>tm.setIfInBounds x.1 x.2) xs')
 |[],[],_,_,_,_,h=>h
 |(i,v)::l,(i',v')::l',xs,xs',hl,hp,h=>by
  obtain⟨h1,h2⟩:=hp 0 (i,v) (i',v') rfl rfl;simp only at h1 h2;subst h1;simp only[List.foldl_cons];exact VRs.fold l l' _ _ (by simpa using hl) (fun j a b x y=>hp (j+1) a b (by simpa using x) (by simpa using y)) (h.set h2 _)
 |[],_::_,_,_,hl,_,_=>by simp at hl
 |_::_,[],_,_,hl,_,_=>by simp at hl
def Sa(F:FuncId->Bool)(H:Qt)(f:Value)(args:Array Value):Option (CN×List Nat):=
 match f with
 | .func (.func g) xs ys=>bif F g then some (.enter g (xs++args++ys),[])else none
 | .func (.yield l) xs ys=>match Qw H l with
   |some (.loop r)=>bif Lf args.size r.params.size && Lf xs.size 0 && Lf ys.size 0 then some (.round l r.fn ((r.params.zip args).toList.foldl (fun tm (x:Nat×Value)=>tm.setIfInBounds x.1 x.2) r.tmps) r.assign r.body,[l])else none
   |_=>none
 |_=>none
theorem qp{P:Program}{F:FuncId->Bool}(hF:∀g,F g=true->Q6 P g=true){B:Nat}{S:Nat->Prop}{μ:Mu}{H:Qt}{w:World}{f f':Value}{args args':Array Value}{nx:CN}{R:List Nat}(h:Sa F H f args=some (nx,R))(QE:Ok B S μ (Qw H) w)(hf:VR μ f f')
 (ha:VRs μ args args') (hR:∀i∈R,S i):∃nx',(do let d <-Deferred.ofValue f' args';invoke d.target d.args:Sem Next).run P w=.ok nx' w/\NR μ nx nx':=by
 unfold Sa at h;split at h
 ·rename_i g xs ys;cases hg:F g with
  |false=>rw[hg]at h;cases h
  |true=>
   rw[hg]at h;simp only[cond_true,YO,YR]at h;obtain⟨rfl,_⟩:=h;cases hf with
   |func h1 h2 h3 h4=>
    refine⟨_, ?_,.enter ((VRs.append (VRs.append ⟨h1,h3⟩ ha) ⟨h2,h4⟩))⟩;simp only[Deferred.ofValue,Sem.run_bind,Sem.run_pure,Result.andThen_ok,invoke,fX (hF g hg)]
 ·rename_i l xs ys;split at h
  ·rename_i r hl;cases hs:(Lf args.size r.params.size && Lf xs.size 0 && Lf ys.size 0)with
   |false=>rw[hs]at h;cases h
   |true=>
    rw[hs]at h;simp only[cond_true,YO,YR]at h;obtain⟨rfl,rfl⟩:=h;simp only[YB]at hs;have ZW:=YE hs.1.1;obtain⟨im,QK,ZU⟩:=QE.rel l _ (hR l (by simp)) hl trivial;obtain⟨_,tm,df,hw,htm⟩:=ZU;cases hf with
    |yield hy=>
     rw[QK]at hy;cases hy;refine⟨_, ?_,.round QK (xs':=(r.params.zip args').toList.foldl (fun tm (x:Nat×Value)=>tm.setIfInBounds x.1 x.2) tm) ?_⟩
     ·have SZ:(getObj im.Zt).run P w=.ok (.loop {r with tmps:=tm,defers:=df}) w:=by simp[getObj,Sem.run,hw]
      have JU:¬args'.size≠r.params.size:=by rw[<-ha.1];simp[ZW]
      simp only[Deferred.ofValue,Sem.run_bind,Sem.run_pure,Result.andThen_ok,invoke,Instr.yield,Instr.getLoop,SZ,Array.empty_append,JU,if_false,<-Array.foldl_toList]
     ·refine VRs.fold _ _ _ _ (by simp[ha.1]) (fun i p p' hp hp'=> ?_) htm;simp only[Array.toList_zip,List.getElem?_zip_eq_some,Lq]at hp hp';have:=hp.1;rw[hp'.1]at this;exact⟨by simpa using this,ha.2 i _ _ hp.2 hp'.2⟩
  ·cases h
 ·cases h
end Go.CE
