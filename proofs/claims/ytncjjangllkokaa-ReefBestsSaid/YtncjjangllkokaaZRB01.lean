/- CE: canonical memory, and what it has to do with a world. Nothing of any program stands here. -/
import Derived.Calls
import Derived.Below
import Derived.Laws.AppendOwn
import Derived.Laws.OwnMore
import Derived.Maps.AppendAt
import Derived.Lib.AppendZeros
import Derived.Orders
import Derived.Laws.CopyRow
import Derived.Laws.Rows
import Derived.Laws.Tables
import Derived.Great.BuildSlice
import Derived.Laws.MakeOwn
set_option linter.all false
open Nat renaming ble->LI,beq->Lf,le_refl->Lw,zero_add->Lv,blt->Ll
open Array renaming getElem?_eq_none->L5,eq_empty_of_size_eq_zero->LK,getElem?_toList->Lm,getElem?_extract->LX
open List renaming mem_append_right->Lt,mem_append_left->Lg,getElem?_toArray->LU,getElem?_append_left->Lz,getElem?_take_of_lt->L6,getElem?_append_right->Lp,range->Le,getElem?_map->Lx,getElem?_eq_none->LA,mem_cons_of_mem->Lj,getElem?_cons_zero->Lq
open Option renaming map_some->LG
open Int renaming toNat_natCast->LR
namespace Go.CE
theorem YO{α:Type _}{a b:α}:(some a=some b)=(a=b):=Option.some.injEq a b
theorem YR{α:Type _}{β:Type _}(a:α)(b:β)(c:α)(d:β):((a,b)=(c,d))=(a=c/\b=d):=Prod.mk.injEq a b c d
theorem YB(a b:Bool):((a&&b)=true)=(a=true/\b=true):=Bool.and_eq_true a b
theorem YL{n m:Nat}(h:LI n m=true):n<=m:=Nat.le_of_ble_eq_true h
theorem YE{n m:Nat}(h:Lf n m=true):n=m:=Nat.eq_of_beq_eq_true h
end Go.CE
namespace Go.CE
abbrev YI(n:Int):Go.Value:=Go.Value.int .i64 n
end Go.CE
namespace Go.CE
open Go Go.RowKit

structure c7 where
 Zq:Nat
 off:Nat
 cap:Nat
 rw:Bool
 fm:Nat->Option Obj
def TN:Nat->Option Obj:=fun _=>none
abbrev Mu:=Nat->Option c7
def AR(μ:Mu)(a a':Addr):Prop:=∃im,μ a.block=some im/\a.spot=none/\a'=⟨im.Zq,im.off+a.off,none⟩

def simple:Value->Bool
 | .bool _| .int _ _| .string _| .pointer none| .slice none _ _| .map none| .nilFunc| .nilIface=>true
 | .func (.func _) xs ys=>xs.size==0 && ys.size==0
 |_=>false
def Xo(n:Nat)(cs:Array Value):Value:=.func (.via n #[] 0 false) #[] cs
def ZU(off:Nat)(cs:Array Value):Value:=.func (.via off #[] 1 true) #[] cs
inductive TRv (fm:Nat->Option Obj):Value->Value->Prop
 |simple {v}:simple v=true->TRv fm v v
 |agg {xs xs'}:xs.size=xs'.size->(∀(i:Nat) v v',xs[i]? =some v->xs'[i]? =some v'->TRv fm v v')->TRv fm (.agg xs) (.agg xs')
 |tuple {xs xs'}:xs.size=xs'.size->(∀(i:Nat) v v',xs[i]? =some v->xs'[i]? =some v'->TRv fm v v')->TRv fm (.tuple xs) (.tuple xs')
 |iface {t v v'}:TRv fm v v'->TRv fm (.iface t v) (.iface t v')
 |func {f xs xs' ys ys'}:xs.size=xs'.size->ys.size=ys'.size->(∀(i:Nat) v v',xs[i]? =some v->xs'[i]? =some v'->TRv fm v v')->(∀(i:Nat) v v',ys[i]? =some v->ys'[i]? =some v'->TRv fm v v')->
  TRv fm (.func (.func f) xs ys) (.func (.func f) xs' ys')
 |slice {n cs b o c' arr t fl}:n<=c'->c'<=maxLen->fm b=some (.cells arr t fl)->(∀i,i<cs.size->o+i<arr.size)->(∀(i:Nat) v v',cs[i]? =some v->arr[o+i]? =some v'->TRv fm v v')->TRv fm (Xo n cs) (.slice (some ⟨b,o,none⟩) n c')
 |nil:TRv fm (Xo 0 #[]) (.slice none 0 0)
 |empty {a c'}:c'<=maxLen->TRv fm (Xo 0 #[]) (.slice (some a) 0 c')
 |ptr {off cs b o arr t fl}:fm b=some (.cells arr t fl)->(∀i,i<cs.size->o+i<arr.size)->(∀(i:Nat) v v',cs[i]? =some v->arr[o+i]? =some v'->TRv fm v v')->TRv fm (ZU off cs) (.pointer (some ⟨b,o+off,none⟩))
def Qk(r:Nat)(t:Value):Value:=.func (.via r #[] 0 true) #[t] #[]
def WE:Value->Bool
 | .func _ _ _=>true
 |_=>false
def kH:Nat->Option Nat
 |0=>none
 |k+1=>some k
abbrev aP:Value:=.chan (some 0)
inductive VR (μ:Mu):Value->Value->Prop
 |bool (b):VR μ (.bool b) (.bool b)
 |int (k n):VR μ (.int k n) (.int k n)
 |string (s):VR μ (.string s) (.string s)
 |nilPtr:VR μ (.pointer none) (.pointer none)
 |ptr {a a'}:AR μ a a'->VR μ (.pointer (some a)) (.pointer (some a'))
 |P9 (n c):VR μ (.slice none n c) (.slice none n c)
 |slice {a a' n s c'}:AR μ a a'->n<=c'->c'<=maxLen->(s≠0->∀im,μ a.block=some im->im.rw=true->a.off=0->c'*s=im.cap)->VR μ (.slice (some a) n s) (.slice (some a') n c')
 |nilMap:VR μ (.map none) (.map none)
 |map {r im}:μ r=some im->VR μ (.map (some r)) (.map (some im.Zq))
 |func {f xs xs' ys ys'}:xs.size=xs'.size->ys.size=ys'.size->(∀(i:Nat) v v',xs[i]? =some v->xs'[i]? =some v'->VR μ v v')->(∀(i:Nat) v v',ys[i]? =some v->ys'[i]? =some v'->VR μ v v')->
  VR μ (.func (.func f) xs ys) (.func (.func f) xs' ys')
 |yield {l im}:μ l=some im->VR μ (.func (.yield l) #[] #[]) (.func (.yield im.Zq) #[] #[])
 |nilFunc:VR μ .nilFunc .nilFunc
 |nilIface:VR μ .nilIface .nilIface
 |iface {t v v'}:VR μ v v'->VR μ (.iface t v) (.iface t v')
 |agg {xs xs'}:xs.size=xs'.size->(∀(i:Nat) v v',xs[i]? =some v->xs'[i]? =some v'->VR μ v v')->VR μ (.agg xs) (.agg xs')
 |tuple {xs xs'}:xs.size=xs'.size->(∀(i:Nat) v v',xs[i]? =some v->xs'[i]? =some v'->VR μ v v')->VR μ (.tuple xs) (.tuple xs')
 |Yt (b o k):VR μ (.pointer (some ⟨b,o,some k⟩)) (.pointer (some ⟨b,o,kH k⟩))
 |rawSlice (b o k n c):VR μ (.slice (some ⟨b,o,some k⟩) n c) (.slice (some ⟨b,o,kH k⟩) n c)
 |top {r t v' im}:WE t=true->μ r=some im->TRv im.fm t v'->VR μ (Qk r t) v'
 |Yi {v'}:(∀b,v'≠.bool b)->v'.cells=#[v']->v'.oneCell'=true->VR μ (.chan none) v'
 |noCap {a}:VR μ aP (.slice a 0 0)
def VRs(μ:Mu)(xs xs':Array Value):Prop:=xs.size=xs'.size/\∀(i:Nat) v v',xs[i]? =some v->xs'[i]? =some v'->VR μ v v'

def Ext(μ μ':Mu):Prop:=∀k im,μ k=some im->μ' k=some im
theorem Ext.refl(μ:Mu):Ext μ μ:=fun _ _ h=>h
theorem Ext.trans{a b c:Mu}(h:Ext a b)(k:Ext b c):Ext a c:=fun _ _ x=>k _ _ (h _ _ x)
theorem AR.mono{μ μ':Mu}(e:Ext μ μ'){a a':Addr}(h:AR μ a a'):AR μ' a a':=let⟨im,h1,h2⟩:=h;⟨im,e _ _ h1,h2⟩
theorem VR.mono{μ μ':Mu}(e:Ext μ μ'){v v':Value}(h:VR μ v v'):VR μ' v v':=by
 induction h with
 |bool b=>exact .bool b
 |int k n=>exact .int k n
 |string s=>exact .string s
 |nilPtr=>exact .nilPtr
 |ptr h=>exact .ptr (h.mono e)
 |P9 n c=>exact .P9 n c
 |slice h h1 h2 h3=>
  refine .slice (h.mono e) h1 h2 ?_;intro hs im QD;obtain⟨Z4,hi,_⟩:=h;rw[e _ _ hi]at QD;cases QD;exact h3 hs _ hi
 |nilMap=>exact .nilMap
 |map h=>exact .map (e _ _ h)
 |func h1 h2 _ _ h3 h4=>exact .func h1 h2 h3 h4
 |yield h=>exact .yield (e _ _ h)
 |nilFunc=>exact .nilFunc
 |nilIface=>exact .nilIface
 |iface _ h=>exact .iface h
 |agg h1 _ h=>exact .agg h1 h
 |tuple h1 _ h=>exact .tuple h1 h
 |Yt b o k=>exact .Yt b o k
 |rawSlice b o k n c=>exact .rawSlice b o k n c
 |top h h1 h2=>exact .top h (e _ _ h1) h2
 |Yi h h1 h2=>exact .Yi h h1 h2
 |noCap=>exact .noCap
theorem VRs.mono{μ μ':Mu}(e:Ext μ μ'){v v':Array Value}(h:VRs μ v v'):VRs μ' v v':=⟨h.1,fun i a b x y=>(h.2 i a b x y).mono e⟩
theorem VRs.get{μ:Mu}{xs xs':Array Value}(h:VRs μ xs xs'){i:Nat}{v:Value}(hi:xs[i]? =some v):∃v',xs'[i]? =some v'/\VR μ v v':=by
 have Xi:i<xs.size:=(Array.getElem?_eq_some_iff.1 hi).1;have hlt':i<xs'.size:=h.1 ▸ Xi;exact⟨xs'[i],by simp[hlt'],h.2 i v _ hi (by simp[hlt'])⟩

def sa:Value->Bool
 | .agg xs=>xs.all simple
 |v=>simple v
def af:Value->Bool
 | .agg xs=>xs.all simple
 | .tuple xs=>xs.all sa
 | .iface _ v=>sa v
 |v=>simple v
theorem ZR{μ:Mu}{v:Value}(h:simple v=true):VR μ v v:=by
 cases v with
 |bool b=>exact .bool b
 |int k n=>exact .int k n
 |string s=>exact .string s
 |pointer a=>cases a with
  |none=>exact .nilPtr
  |some a=>cases h
 |slice a n c=>cases a with
  |none=>exact .P9 n c
  |some a=>cases h
 |map r=>cases r with
  |none=>exact .nilMap
  |some a=>cases h
 |nilFunc=>exact .nilFunc
 |nilIface=>exact .nilIface
 |func fn xs ys=>cases fn with
  |func f=>
   simp only[simple,YB,beq_iff_eq]at h;exact .func rfl rfl (fun i v _ hv _=>by simp[L5 (by omega:xs.size<=i)]at hv) (fun i v _ hv _=>by simp[L5 (by omega:ys.size<=i)]at hv)
  |_=>cases h
 |_=>cases h
theorem simple_eq{μ:Mu}{v v':Value}(h:simple v=true)(hr:VR μ v v'):v'=v:=by
 cases hr <;> first|rfl|(simp[simple,Qk]at h;done)|skip
 case func f xs xs' ys ys' h1 h2 h3 h4=>
  simp only[simple,YB,beq_iff_eq]at h;have e1:xs=#[]:=LK h.1;have e2:ys=#[]:=LK h.2;subst e1 e2;have e3:xs'=#[]:=LK h1.symm;have e4:ys'=#[]:=LK h2.symm;rw[e3,e4]
theorem kP{μ:Mu}{xs xs':Array Value}(h:xs.all simple=true)(h1:xs.size=xs'.size)(h2:∀(i:Nat) v v',xs[i]? =some v->xs'[i]? =some v'->VR μ v v'):xs'=xs:=by
 refine Array.ext h1.symm fun i hi hi'=> ?_
 have:=h2 i xs[i] xs'[i] (by simp[hi']) (by simp[hi]);exact simple_eq (Array.all_eq_true.1 h i hi') this
theorem E5{μ:Mu}{v:Value}(h:sa v=true):VR μ v v:=by
 cases v with
 |agg xs=>
  refine .agg rfl fun i v v' hv ZW=> ?_
  rw[hv]at ZW;cases ZW;obtain⟨hi,rfl⟩:=Array.getElem?_eq_some_iff.1 hv;exact ZR (Array.all_eq_true.1 h i hi)
 |_=>exact ZR h
theorem Pc{μ:Mu}{v:Value}(h:af v=true):VR μ v v:=by
 cases v with
 |agg xs=>exact E5 h
 |tuple xs=>
  refine .tuple rfl fun i v v' hv ZW=> ?_
  rw[hv]at ZW;cases ZW;obtain⟨hi,rfl⟩:=Array.getElem?_eq_some_iff.1 hv;exact E5 (Array.all_eq_true.1 h i hi)
 |iface t v=>exact .iface (E5 h)
 |_=>exact ZR h
theorem OH{μ:Mu}{v v':Value}(h:sa v=true)(hr:VR μ v v'):v'=v:=by
 cases hr with
 |agg h1 h2=>rw[kP (μ:=μ) h h1 h2]
 |Yt=>cases h
 |rawSlice=>cases h
 |_=>first|rfl|exact simple_eq (μ:=μ) h (by constructor <;> assumption)
theorem Qap{μ:Mu}{xs xs':Array Value}(h:xs.all sa=true)(h1:xs.size=xs'.size)(h2:∀(i:Nat) v v',xs[i]? =some v->xs'[i]? =some v'->VR μ v v'):xs'=xs:=by
 refine Array.ext h1.symm fun i hi hi'=> ?_
 have:=h2 i xs[i] xs'[i] (by simp[hi']) (by simp[hi]);exact OH (Array.all_eq_true.1 h i hi') this
theorem SM{μ:Mu}{v v':Value}(h:af v=true)(hr:VR μ v v'):v'=v:=by
 cases hr with
 |agg h1 h2=>rw[kP (μ:=μ) h h1 h2]
 |tuple h1 h2=>rw[Qap (μ:=μ) h h1 h2]
 |iface hv=>rw[OH (μ:=μ) h hv]
 |Yt=>cases h
 |rawSlice=>cases h
 |_=>first|rfl|exact simple_eq (μ:=μ) h (by constructor <;> assumption)
theorem VR.undef{μ:Mu}:VR μ undef undef:=Pc (by simp[Go.undef,af])

abbrev Qm:=List (Nat×Obj)
def Qq:Qm->Nat->Option Obj
 |[],_=>none
 |(k,o)::h,n=>bif Lf n k then some o else Qq h n
def VE:Qm->Nat->Obj->Qm
 |[],_,_=>[]
 |(k,o)::h,n,x=>bif Lf n k then(k,x)::h else(k,o)::VE h n x
theorem TE{n k:Nat}(h:n≠k):Lf n k=false:=by
 cases e:Lf n k with
 |false=>rfl
 |true=>exact absurd (YE e) h
theorem QU(k:Nat)(o:Obj)(h:Qm)(n:Nat):Qq ((k,o)::h) n=if n=k then some o else Qq h n:=by
 simp only[Qq];by_cases e:n=k
 ·subst e;simp
 ·have:Lf n k=false:=TE e;simp[this,e]
theorem cg(h:Qm)(n:Nat)(x:Obj)(m:Nat):Qq (VE h n x) m=if m=n/\(Qq h n).isSome then some x else Qq h m:=by
 induction h with
 |nil=>simp[VE,Qq]
 |cons p h ih=>
  obtain⟨k,o⟩:=p;simp only[VE];by_cases e:n=k
  ·subst e;simp only[show Lf n n=true by simp,cond_true,QU];by_cases e2:m=n <;> simp[e2]
  ·have hb:Lf n k=false:=TE e;simp only[hb,cond_false,QU,ih,e,if_false];by_cases e2:m=n
   ·subst e2;simp[e]
   ·simp[e2]
end Go.CE

namespace Go.CE
open Go Go.RowKit

def live:Obj->Prop
 | .pending _ _| .coro _=>False
 |_=>True
def QV:Obj:=.coro none
def Wm:Obj->Prop
 | .coro _=>True
 |_=>False
def OR(μ:Mu)(w:World)(im:c7):Obj->Prop
 | .cells cs t fz=>(fz=(0,0)/\im.rw=true/\im.off=0/\∃arr,w.heap[im.Zq]? =some (.cells arr t (0,0))/\cs.size<=arr.size/\arr.size=im.cap/\∀(i:Nat) v,cs[i]? =some v->∃v',arr[i]? =some v'/\VR μ v v')\/
  (fz≠(0,0)/\∀(i:Nat) v,cs[i]? =some v->∃v',w.cell? ⟨im.Zq,im.off+i,none⟩=some v'/\VR μ v v')
 | .map es PT=>im.rw=true/\∃K0,w.heap[im.Zq]? =some (.map K0 PT)/\es.size=K0.size/\∀(i:Nat) e e',es[i]? =some e->K0[i]? =some e'->e'.key=e.key/\e'.born=e.born/\af e.key=true/\VR μ e.val e'.val
 | .loop l=>im.rw=true/\∃tm df,w.heap[im.Zq]? =some (.loop {l with tmps:=tm,defers:=df})/\VRs μ l.tmps tm
 | .deferred ds=>im.rw=true/\w.heap[im.Zq]? =some (.deferred ds)/\(ds=some []\/ds=none)
 | .pending _ _=>True
 |_=>False
structure Ok (B:Nat) (S:Nat->Prop) (μ:Mu) (G:Nat->Option Obj) (w:World):Prop where
 rel:∀i o,S i->G i=some o->live o->∃im,μ i=some im/\OR μ w im o
 low:∀i o im,S i->G i=some o->live o->μ i=some im->im.Zq<w.heap.size/\(im.rw=true->B<=im.Zq)/\(im.rw=false->im.Zq<B)
 inj:∀i j oi oj a b,S i->S j->i≠j->G i=some oi->G j=some oj->live oi->live oj->μ i=some a->μ j=some b->a.rw=true->b.rw=true->a.Zq≠b.Zq
 Jv:∀i o,S i->G i=some o->Wm o->∃im,μ i=some im/\∀b x,im.fm b=some x->w.heap[b]? =some x
 sep:∀i j oi oj a b x,S i->S j->G i=some oi->G j=some oj->Wm oi->live oj->μ i=some a->μ j=some b->b.rw=true->a.fm b.Zq≠some x
theorem Ok.sub{B:Nat}{S S':Nat->Prop}{μ:Mu}{G:Nat->Option Obj}{w:World}(h:Ok B S μ G w)(hs:∀i,S' i->S i):Ok B S' μ G w:=
 ⟨fun i o a=>h.rel i o (hs i a),fun i o im a=>h.low i o im (hs i a),fun i j oi oj x y a b=>h.inj i j oi oj x y (hs i a) (hs j b),fun i o a=>h.Jv i o (hs i a),fun i j oi oj x y z a b=>h.sep i j oi oj x y z (hs i a) (hs j b)⟩
structure Post (B:Nat) (S:Nat->Prop) (n n':Nat) (W:List Nat) (μ μ':Mu) (H H':Qm) (w w':World):Prop where
 ok:Ok B (fun i=>S i\/n<=i/\i<n') μ' (Qq H') w'
 le:n<=n'
 ext:∀i,¬(n<=i/\i<n')->μ' i=μ i
 keep:∀i,i<n->i ∉ W->Qq H' i=Qq H i
 grow:w.heap.size<=w'.heap.size
 frame:∀b,b<w.heap.size->(∀i,i∈W->i<n->∀im,μ i=some im->im.Zq≠b)->w'.heap[b]? =w.heap[b]?
 wr:∀i,i∈W->i<n->S i/\(∃o,Qq H i=some o/\live o)/\∃im,μ i=some im/\im.rw=true
 fresh:∀i im o,n<=i->i<n'->Qq H' i=some o->live o->μ' i=some im->im.rw=true/\
  (w.heap.size<=im.Zq\/∃k,k∈W/\k<n/\(∃Z4,μ k=some Z4/\Z4.Zq=im.Zq)/\∀o,Qq H' k=some o->¬live o)
 rf:∀i im o,(n<=i/\i<n'\/i∈W/\i<n)->Qq H' i=some o->Wm o->μ' i=some im->∀b x,im.fm b=some x->
  w.heap.size<=b\/(∃k Ui ko,S k/\k<n/\Qq H k=some ko/\Wm ko/\μ k=some Ui/\Ui.fm b=some x)\/∃k,k∈W/\k<n/\(∃Z4,μ k=some Z4/\Z4.Zq=b)/\∀o,Qq H' k=some o->¬live o
 os:w'.os=w.os
 tape:w'.tape=w.tape
 output:w'.output=w.output
def JL(μ:Mu)(n n':Nat):Prop:=∀i,n<=i->i<n'->μ i=none
theorem Post.mu{B:Nat}{S:Nat->Prop}{n n':Nat}{W:List Nat}{μ μ':Mu}{H H':Qm}{w w':World}(h:Post B S n n' W μ μ' H H' w w')(hf:JL μ n n'):Ext μ μ':=by
 intro k im hk;rw[h.ext k (fun hr=>by rw[hf k hr.1 hr.2]at hk;cases hk)];exact hk
theorem Post.refl{B:Nat}{S:Nat->Prop}{n:Nat}{μ:Mu}{H:Qm}{w:World}(h:Ok B S μ (Qq H) w):Post B S n n [] μ μ H H w w:=
 ⟨h.sub fun i hi=>hi.elim id fun x=>absurd x.1 (by omega),Lw _,fun _ _=>rfl,fun _ _ _=>rfl,Lw _,fun _ _ _=>rfl,fun _ h=>by simp at h,fun i im o h1 h2=>absurd h1 (by omega),fun i im o h=>h.elim (fun h=>absurd h.1 (by omega)) (fun h=>by simp at h),rfl,rfl,rfl⟩
theorem Post.trans{B:Nat}{S:Nat->Prop}{n n1 n2:Nat}{W1 W2:List Nat}{μ μ1 μ2:Mu}{H H1 H2:Qm}{w w1 w2:World}(h1:Post B S n n1 W1 μ μ1 H H1 w w1)
 (h2:Post B (fun i=>S i\/n<=i/\i<n1) n1 n2 W2 μ1 μ2 H1 H2 w1 w2):Post B S n n2 (W1++W2) μ μ2 H H2 w w2:=by
 have le1:=h1.le;have le2:=h2.le;have dead:∀k,k∈W1->k<n->(∀o,Qq H1 k=some o->¬live o)->∀o,Qq H2 k=some o->¬live o:=by
  intro k hk hn hd o ho;by_cases hw:k∈W2
  ·obtain⟨_,⟨o',Ko,hl⟩,_⟩:=h2.wr k hw (by omega);exact absurd hl (hd o' Ko)
  ·rw[h2.keep k (by omega) hw]at ho;exact hd o ho
 refine⟨h2.ok.sub fun i hi=> ?_,by omega,fun i hi=> ?_,fun i hi hw=> ?_,Nat.le_trans h1.grow h2.grow,fun b hb hw=> ?_,fun i hi hn=> ?_,fun i im o hi hi2 ho hl hm=> ?_,fun i im o hi ho hr hm b x hb=> ?_,
  h2.os.trans h1.os,h2.tape.trans h1.tape,h2.output.trans h1.output⟩
 ·rcases hi with hi|hi
  ·exact .inl (.inl hi)
  ·by_cases hx:i<n1
   ·exact .inl (.inr ⟨hi.1,hx⟩)
   ·exact .inr ⟨by omega,hi.2⟩
 ·rw[h2.ext i (by omega),h1.ext i (by omega)]
 ·rw[h2.keep i (by omega) (fun h=>hw (Lt _ h)),h1.keep i hi (fun h=>hw (Lg _ h))]
 ·have e1:=h1.frame b hb fun i hi=>hw i (Lg _ hi)
  rw[<-e1];refine h2.frame b (Nat.lt_of_lt_of_le hb h1.grow) fun i hi J4 im QD=> ?_
  by_cases hx:i<n
  ·rw[h1.ext i (by omega)]at QD;exact hw i (Lt _ hi) hx im QD
  ·obtain⟨_,⟨o,ho,hl⟩,_⟩:=h2.wr i hi J4;obtain⟨_,hf⟩:=h1.fresh i im o (by omega) J4 ho hl QD;rcases hf with hf|⟨k,hk,hkn,⟨Z4,QO,hb'⟩,_⟩
   ·omega
   ·rw[<-hb'];exact hw k (Lg _ hk) hkn Z4 QO
 ·rcases List.mem_append.1 hi with hi1|hi2
  ·exact h1.wr i hi1 hn
  ·obtain⟨hs,⟨o,ho,hl⟩,im,QD,hr⟩:=h2.wr i hi2 (by omega);refine⟨hs.elim id fun x=>absurd x.1 (by omega), ?_,im, ?_,hr⟩
   ·by_cases hw:i∈W1
    ·exact(h1.wr i hw hn).2.1
    ·rw[h1.keep i hn hw]at ho;exact⟨o,ho,hl⟩
   ·rw[<-h1.ext i (by omega)];exact QD
 ·by_cases hx:n1<=i
  ·obtain⟨hr,hf⟩:=h2.fresh i im o hx hi2 ho hl hm;refine⟨hr, ?_⟩;rcases hf with hf|⟨k,hk,hkn,⟨Z4,QO,hb'⟩,hd⟩
   ·exact .inl (Nat.le_trans h1.grow hf)
   ·by_cases hkx:k<n
    ·exact .inr ⟨k,Lt _ hk,hkx,⟨Z4,by rw[<-h1.ext k (by omega)];exact QO,hb'⟩,hd⟩
    ·obtain⟨_,⟨o',Ko,hl'⟩,_⟩:=h2.wr k hk hkn;obtain⟨_,hf'⟩:=h1.fresh k Z4 o' (by omega) hkn Ko hl' QO;rcases hf' with hf'|⟨k',hk',hkn',⟨im'',WY,hb''⟩,hd'⟩
     ·exact .inl (by omega)
     ·exact .inr ⟨k',Lg _ hk',hkn',⟨im'',WY,by omega⟩,dead k' hk' hkn' hd'⟩
  ·rw[h2.ext i (by omega)]at hm;have hlive:∃o',Qq H1 i=some o'/\live o':=by
    by_cases hw:i∈W2
    ·exact(h2.wr i hw (by omega)).2.1
    ·rw[h2.keep i (by omega) hw]at ho;exact⟨o,ho,hl⟩
   obtain⟨o',Ko,hl'⟩:=hlive;obtain⟨hr,hf⟩:=h1.fresh i im o' hi (by omega) Ko hl' hm;refine⟨hr, ?_⟩;rcases hf with hf|⟨k,hk,hkn,QO,hd⟩
   ·exact .inl hf
   ·exact .inr ⟨k,Lg _ hk,hkn,QO,dead k hk hkn hd⟩
 ·have mid:∀k Ui ko,(n<=k/\k<n1\/k∈W1/\k<n)->Qq H1 k=some ko->Wm ko->μ1 k=some Ui->Ui.fm b=some x->
   w.heap.size<=b\/(∃k Ui ko,S k/\k<n/\Qq H k=some ko/\Wm ko/\μ k=some Ui/\Ui.fm b=some x)\/∃k,k∈W1++W2/\k<n/\(∃Z4,μ k=some Z4/\Z4.Zq=b)/\∀o,Qq H2 k=some o->¬live o:=by
   intro k Ui ko hk hko hkr T6 hkb;rcases h1.rf k Ui ko hk hko hkr T6 b x hkb with h|h|⟨k',a,c,d,e⟩
   ·exact .inl h
   ·exact .inr (.inl h)
   ·exact .inr (.inr ⟨k',Lg _ a,c,d,dead k' a c e⟩)
  by_cases hA:n1<=i/\i<n2\/i∈W2/\i<n1
  ·rcases h2.rf i im o hA ho hr hm b x hb with h|⟨k,Ui,ko,hS,hk,hko,hkr,T6,hkb⟩|⟨k,hk,hkn,⟨Z4,QO,hb'⟩,hd⟩
   ·exact .inl (Nat.le_trans h1.grow h)
   ·by_cases hx:n<=k/\k<n1\/k∈W1/\k<n
    ·exact mid k Ui ko hx hko hkr T6 hkb
    ·have hkn:k<n:=by omega
     have hkw:k ∉ W1:=fun e=>hx (.inr ⟨e,hkn⟩)
     rw[h1.keep k hkn hkw]at hko;rw[h1.ext k (by omega)]at T6;exact .inr (.inl ⟨k,Ui,ko,hS.elim id fun e=>absurd e.1 (by omega),hkn,hko,hkr,T6,hkb⟩)
   ·by_cases hkx:k<n
    ·exact .inr (.inr ⟨k,Lt _ hk,hkx,⟨Z4,by rw[<-h1.ext k (by omega)];exact QO,hb'⟩,hd⟩)
    ·obtain⟨_,⟨o',Ko,hl'⟩,_⟩:=h2.wr k hk hkn;obtain⟨_,hf'⟩:=h1.fresh k Z4 o' (by omega) hkn Ko hl' QO;rcases hf' with hf'|⟨k',hk',hkn',⟨im'',WY,hb''⟩,hd'⟩
     ·exact .inl (by omega)
     ·exact .inr (.inr ⟨k',Lg _ hk',hkn',⟨im'',WY,by omega⟩,dead k' hk' hkn' hd'⟩)
  ·have hi1:i<n1:=by
    rcases hi with hi|hi
    ·exact Nat.lt_of_not_le fun e=>hA (.inl ⟨e,hi.2⟩)
    ·omega
   have hw2:i ∉ W2:=fun e=>hA (.inr ⟨e,hi1⟩)
   rw[h2.keep i hi1 hw2]at ho;rw[h2.ext i (by omega)]at hm;refine mid i im o ?_ ho hr hm hb;rcases hi with hi|hi
   ·exact .inl ⟨hi.1,hi1⟩
   ·exact .inr ⟨(List.mem_append.1 hi.1).elim id fun e=>absurd e hw2,hi.2⟩
theorem Post.lists{B n n':Nat}{S:Nat->Prop}{W W':List Nat}{μ μ':Mu}{H H':Qm}{w w':World}(h:Post B S n n' W μ μ' H H' w w')(hW:∀i,i<n->(i∈W'<->i∈W)):Post B S n n' W' μ μ' H H' w w':=
 ⟨h.ok,h.le,h.ext,fun i hi hw=>h.keep i hi fun e=>hw ((hW i hi).2 e),h.grow,fun b hb hw=>h.frame b hb fun i hi hl=>hw i ((hW i hl).2 hi) hl,fun i hi hl=>h.wr i ((hW i hl).1 hi) hl,fun i im o h1 h2 ho hl hm=>by
  obtain⟨hr,hf⟩:=h.fresh i im o h1 h2 ho hl hm;exact⟨hr,hf.imp id fun⟨k,a,b,d⟩=>⟨k,(hW k b).2 a,b,d⟩⟩,fun i im o h1 ho hr hm b x hx=>by
  rcases h.rf i im o (h1.imp id fun h1=>⟨(hW i h1.2).1 h1.1,h1.2⟩) ho hr hm b x hx with e|e|⟨k,a,c,d⟩
  ·exact .inl e
  ·exact .inr (.inl e)
  ·exact .inr (.inr ⟨k,(hW k c).2 a,c,d⟩),h.os,h.tape,h.output⟩
structure Lo where
 B:Nat
 inv:World->Prop
 still:∀w w',(∀b,b<B->w'.heap[b]? =w.heap[b]?)->inv w->inv w'
instance:Coe Lo Nat:=⟨Lo.B⟩
structure Lo.has (L:Lo) (w:World):Prop where
 le:L.B<=w.heap.size
 inv:L.inv w
theorem Lo.has.post{L:Lo}{S:Nat->Prop}{n n':Nat}{W:List Nat}{μ μ':Mu}{H H':Qm}{w w':World}(h:L.has w)(Q7:Ok L.B S μ (Qq H) w)(hp:Post L.B S n n' W μ μ' H H' w w'):L.has w':=by
 refine⟨Nat.le_trans h.le hp.grow,L.still w w' (fun b hb=>hp.frame b (Nat.lt_of_lt_of_le hb h.le) fun i hi Xi im QD=> ?_) h.inv⟩;obtain⟨hs,⟨o,ho,hl⟩,Z4,QO,Rl⟩:=hp.wr i hi Xi;rw[QD]at QO;cases QO;have:=(Q7.low i o im hs ho hl QD).2.1 Rl;omega
end Go.CE

namespace Go.CE
open Go Go.RowKit

theorem OR.keep{μ μ':Mu}{w w':World}{im:c7}{o:Obj}(h:OR μ w im o)(e:Ext μ μ')(hw:w'.heap[im.Zq]? =w.heap[im.Zq]?):OR μ' w' im o:=by
 cases o with
 |cells cs t fz=>
  rcases h with ⟨hz,hr,ho,arr,ha,h1,h2,h3⟩|⟨hz,h3⟩
  ·exact .inl ⟨hz,hr,ho,arr,by rw[hw];exact ha,h1,h2,fun i v hv=>let⟨v',a,b⟩:=h3 i v hv;⟨v',a,b.mono e⟩⟩
  ·refine .inr ⟨hz,fun i v hv=> ?_⟩;obtain⟨v',a,b⟩:=h3 i v hv;exact⟨v',by rw[<-a];exact World.cell?_of_block (w:=w) hw,b.mono e⟩
 |map es PT=>
  obtain⟨hr,K0,ha,h1,h2⟩:=h;exact⟨hr,K0,by rw[hw];exact ha,h1,fun i x y hx hy=>let⟨a,b,c,d⟩:=h2 i x y hx hy;⟨a,b,c,d.mono e⟩⟩
 |loop l=>
  obtain⟨hr,tm,df,ha,h1⟩:=h;exact⟨hr,tm,df,by rw[hw];exact ha,h1.mono e⟩
 |deferred ds=>exact⟨h.1,by rw[hw];exact h.2.1,h.2.2⟩
 |pending=>trivial
 |_=>exact h.elim
def upd(μ:Mu)(n:Nat)(im:c7):Mu:=fun k=>if k=n then some im else μ k
theorem KM{μ:Mu}{n:Nat}{im:c7}(h:μ n=none):Ext μ (upd μ n im):=by
 intro k Z4 hk;unfold upd;by_cases e:k=n
 ·subst e;rw[h]at hk;cases hk
 ·simp[e,hk]
theorem Xy{μ:Mu}{n:Nat}{im:c7}:upd μ n im n=some im:=by simp[upd]
theorem heap_alloc(w:World)(o:Obj):(w.alloc o).heap[w.heap.size]? =some o:=heap_alloc_new w o
theorem R5{w:World}{o:Obj}{b:Nat}(h:b<w.heap.size):(w.alloc o).heap[b]? =w.heap[b]? :=Below.heap_alloc _ _ _ h
theorem Yf{μ:Mu}{w:World}{im:c7}{o:Obj}(h:OR μ w im o)(hr:Wm o):False:=by
 cases o <;> first|exact hr|exact h
theorem Jx{B:Nat}{S:Nat->Prop}{μ:Mu}{G:Nat->Option Obj}{w:World}(Q7:Ok B S μ G w){i:Nat}{o x:Obj}{a:c7}{b:Nat}(hi:S i)(ho:G i=some o)(hr:Wm o)(ha:μ i=some a)(hx:a.fm b=some x):b<w.heap.size:=by
 obtain⟨im,QD,h⟩:=Q7.Jv i o hi ho hr;rw[ha]at QD;cases QD;exact(Array.getElem?_eq_some_iff.1 (h b x hx)).1
theorem Post.alloc{B:Nat}{S:Nat->Prop}{n:Nat}{μ:Mu}{H:Qm}{w:World}(Q7:Ok B S μ (Qq H) w)(hB:B<=w.heap.size)(hS:∀i,S i->i<n)(hf:μ n=none)(o o':Obj)(cap:Nat)
 (ZQ:OR (upd μ n ⟨w.heap.size,0,cap,true,TN⟩) (w.alloc o') ⟨w.heap.size,0,cap,true,TN⟩ o):Post B S n (n+1) [] μ (upd μ n ⟨w.heap.size,0,cap,true,TN⟩) H ((n,o)::H) w (w.alloc o'):=by
 have Kz:∀i,S i->i≠n:=fun i hi=>by have:=hS i hi;omega
 have PR:∀i,S i->upd μ n ⟨w.heap.size,0,cap,true,TN⟩ i=μ i:=fun i hi=>by simp[upd,Kz i hi]
 have hg:∀i,S i->Qq ((n,o)::H) i=Qq H i:=fun i hi=>by rw[QU,if_neg (Kz i hi)]
 have UQ:Qq ((n,o)::H) n=some o:=by rw[QU,if_pos rfl]
 refine⟨⟨fun i x hi hx hl=> ?_,fun i x im hi hx hl hm=> ?_,fun i j x y a b hi hj Rm hx hy hlx hly ha hb hra WG=> ?_,fun i x hi hx hr=> ?_,fun i j x y a b u hi hj hx hy hrx hly ha hb WG hu=> ?_⟩,by omega,fun i hi=> ?_,fun i hi _=> ?_,by simp,fun b hb _=>R5 hb,fun i hi=>by simp at hi,
  fun i im x h1 h2 hx hl hm=> ?_,fun i im x hi hx hr=> ?_,rfl,rfl,rfl⟩
 ·rcases hi with hi|hi
  ·rw[hg i hi]at hx;obtain⟨im,QD,hr⟩:=Q7.rel i x hi hx hl;exact⟨im,by rw[PR i hi];exact QD,hr.keep (KM hf) (R5 (Q7.low i x im hi hx hl QD).1)⟩
  ·obtain rfl:i=n:=by omega
   rw[UQ]at hx;cases hx;exact⟨_,Xy,ZQ⟩
 ·rcases hi with hi|hi
  ·rw[hg i hi]at hx;rw[PR i hi]at hm;have:=Q7.low i x im hi hx hl hm;exact⟨by simp;omega,this.2⟩
  ·obtain rfl:i=n:=by omega
   rw[Xy]at hm;cases hm;exact⟨by simp,fun _=>hB,fun h=>by cases h⟩
 ·rcases hi with hi|hi <;> rcases hj with hj|hj
  ·rw[hg i hi]at hx;rw[hg j hj]at hy;rw[PR i hi]at ha;rw[PR j hj]at hb;exact Q7.inj i j x y a b hi hj Rm hx hy hlx hly ha hb hra WG
  ·obtain rfl:j=n:=by omega
   rw[hg i hi]at hx;rw[PR i hi]at ha;rw[Xy]at hb;cases hb;have:=(Q7.low i x a hi hx hlx ha).1;simp only;omega
  ·obtain rfl:i=n:=by omega
   rw[hg j hj]at hy;rw[PR j hj]at hb;rw[Xy]at ha;cases ha;have:=(Q7.low j y b hj hy hly hb).1;simp only;omega
  ·omega
 ·rcases hi with hi|hi
  ·rw[hg i hi]at hx;obtain⟨im,QD,h⟩:=Q7.Jv i x hi hx hr;exact⟨im,by rw[PR i hi];exact QD,fun b u hu=>by rw[R5 (Jx Q7 hi hx hr QD hu)];exact h b u hu⟩
  ·obtain rfl:i=n:=by omega
   rw[UQ]at hx;cases hx;exact(Yf ZQ hr).elim
 ·rcases hi with hi|hi
  ·rw[hg i hi]at hx;rw[PR i hi]at ha;rcases hj with hj|hj
   ·rw[hg j hj]at hy;rw[PR j hj]at hb;exact Q7.sep i j x y a b u hi hj hx hy hrx hly ha hb WG hu
   ·obtain rfl:j=n:=by omega
    rw[Xy]at hb;cases hb;have:=Jx Q7 hi hx hrx ha hu;simp only at this;omega
  ·obtain rfl:i=n:=by omega
   rw[UQ]at hx;cases hx;exact Yf ZQ hrx
 ·simp only[upd];rw[if_neg (by omega)]
 ·rw[QU,if_neg (by omega)]
 ·obtain rfl:i=n:=by omega
  rw[Xy]at hm;cases hm;exact⟨rfl,.inl (Lw _)⟩
 ·have J4:n<=i/\i<n+1:=hi.elim id fun h=>by simp at h
  obtain rfl:i=n:=by omega
  rw[UQ]at hx;cases hx;exact(Yf ZQ hr).elim
theorem Post.write{B:Nat}{S:Nat->Prop}{n:Nat}{μ:Mu}{H:Qm}{w w':World}(Q7:Ok B S μ (Qq H) w)(hS:∀i,S i->i<n)(k:Nat)(o o2:Obj)(im:c7)(hk:S k)(hg:Qq H k=some o)(hl:live o)(QD:μ k=some im)(Rl:im.rw=true)
 (Zi:w'.heap.size=w.heap.size) (hother:∀b,b≠im.Zq->w'.heap[b]? =w.heap[b]?) (ZQ:OR μ w' im o2) (hstr:w'.os=w.os/\w'.tape=w.tape/\w'.output=w.output):
 Post B S n n [k] μ μ H (VE H k o2) w w':=by
 have hgk:∀i,Qq (VE H k o2) i=if i=k then some o2 else Qq H i:=fun i=>by rw[cg,hg];simp
 refine⟨⟨fun i x hi hx hlx=> ?_,fun i x a hi hx hlx ha=> ?_,fun i j x y a b hi hj Rm hx hy hlx hly ha hb hra WG=> ?_,fun i x hi hx hr=> ?_,fun i j x y a b u hi hj hx hy hrx hly ha hb WG hu=> ?_⟩,Lw _,fun _ _=>rfl,fun i hi hw=> ?_,by omega,fun b hb hw=> ?_,fun i hi hn=> ?_,
  fun i a x h1 h2=>absurd h1 (by omega),fun i a x hi hx hr=> ?_,hstr.1,hstr.2.1,hstr.2.2⟩
 ·have hi:=hi.elim id fun h=>absurd h.1 (by omega)
  rw[hgk]at hx;by_cases e:i=k
  ·subst e;rw[if_pos rfl]at hx;cases hx;exact⟨im,QD,ZQ⟩
  ·rw[if_neg e]at hx;obtain⟨a,ha,hr⟩:=Q7.rel i x hi hx hlx;refine⟨a,ha,hr.keep (Ext.refl _) (hother _ ?_)⟩;by_cases hra:a.rw=true
   ·exact Q7.inj i k x o a im hi hk e hx hg hlx hl ha QD hra Rl
   ·have h1:=(Q7.low i x a hi hx hlx ha).2.2 (by simpa using hra);have h2:=(Q7.low k o im hk hg hl QD).2.1 Rl;omega
 ·have hi:=hi.elim id fun h=>absurd h.1 (by omega)
  rw[hgk]at hx;rw[Zi];by_cases e:i=k
  ·subst e;exact Q7.low i o a hi hg hl ha
  ·rw[if_neg e]at hx;exact Q7.low i x a hi hx hlx ha
 ·have hi:=hi.elim id fun h=>absurd h.1 (by omega)
  have hj:=hj.elim id fun h=>absurd h.1 (by omega)
  rw[hgk]at hx hy;have live1:∀i x,(if i=k then some o2 else Qq H i)=some x->live x->∃x',Qq H i=some x'/\live x':=by
   intro i x h h';by_cases e:i=k
   ·subst e;exact⟨o,hg,hl⟩
   ·rw[if_neg e]at h;exact⟨x,h,h'⟩
  obtain⟨x',hx',hlx'⟩:=live1 i x hx hlx;obtain⟨y',hy',hly'⟩:=live1 j y hy hly;exact Q7.inj i j x' y' a b hi hj Rm hx' hy' hlx' hly' ha hb hra WG
 ·have hi:=hi.elim id fun h=>absurd h.1 (by omega)
  rw[hgk]at hx;by_cases e:i=k
  ·rw[if_pos e]at hx;cases hx;exact(Yf ZQ hr).elim
  ·rw[if_neg e]at hx;obtain⟨a,ha,h⟩:=Q7.Jv i x hi hx hr;refine⟨a,ha,fun b u hu=> ?_⟩;rw[hother b fun e=>Q7.sep i k x o a im u hi hk hx hg hr hl ha QD Rl (by rw[<-e];exact hu)];exact h b u hu
 ·have hi:=hi.elim id fun h=>absurd h.1 (by omega)
  have hj:=hj.elim id fun h=>absurd h.1 (by omega)
  rw[hgk]at hx hy;by_cases e:i=k
  ·rw[if_pos e]at hx;cases hx;exact Yf ZQ hrx
  ·rw[if_neg e]at hx;by_cases e2:j=k
   ·rw[e2,QD]at hb;cases hb;exact Q7.sep i k x o a im u hi hk hx hg hrx hl ha QD Rl hu
   ·rw[if_neg e2]at hy;exact Q7.sep i j x y a b u hi hj hx hy hrx hly ha hb WG hu
 ·rw[hgk,if_neg (fun e=>hw (by simp[e]))]
 ·exact hother b fun e=>hw k (by simp) (hS k hk) im QD e.symm
 ·simp only[List.mem_singleton]at hi;subst hi;exact⟨hk,⟨o,hg,hl⟩,im,QD,Rl⟩
 ·have J4:i=k:=by
   rcases hi with hi|hi
   ·omega
   ·simpa using hi.1
  rw[hgk,if_pos J4]at hx;cases hx;exact(Yf ZQ hr).elim

theorem TRv.one{fm:Nat->Option Obj}{t v':Value}(h:TRv fm t v')(ht:WE t=true):v'.cells=#[v']/\v'.oneCell'=true:=by
 cases h with
 |simple _=>cases t <;> first|(cases ht;done)|exact⟨rfl,rfl⟩
 |agg _ _=>cases ht
 |tuple _ _=>cases ht
 |iface _=>cases ht
 |_=>exact⟨rfl,rfl⟩
theorem TRv.nobool{fm:Nat->Option Obj}{t v':Value}(h:TRv fm t v')(ht:WE t=true)(b:Bool):v'≠.bool b:=by
 cases h with
 |simple _=>cases t <;> first|(cases ht;done)|(intro e;cases e)
 |agg _ _=>cases ht
 |tuple _ _=>cases ht
 |iface _=>cases ht
 |_=>intro e;cases e
def Xl{α:Type}(P:Program):Sem α->Option α
 | .pure a=>some a
 | .program k=>Xl P (k P)
 |_=>none
theorem Um{α:Type}{P:Program}{s:Sem α}{a:α}(h:Xl P s=some a)(w:World):s.run P w=.ok a w:=by
 induction s with
 |pure b=>simp only[Xl,YO]at h;subst h;rfl
 |program k ih=>exact ih P h
 |_=>cases h

theorem VR.cells{μ:Mu}{v v':Value}(h:VR μ v v'):VRs μ v.cells v'.cells:=by
 have one:∀{a b:Value},VR μ a b->VRs μ #[a] #[b]:=by
  intro a b h;refine⟨rfl,fun i x y hx hy=> ?_⟩;have:i=0:=by
   rcases i with _|i
   ·rfl
   ·simp at hx
  subst this;simp at hx hy;subst hx hy;exact h
 cases h with
 |agg h1 h2=>exact⟨h1,h2⟩
 |bool b=>exact one (.bool b)
 |int k n=>exact one (.int k n)
 |string s=>exact one (.string s)
 |nilPtr=>exact one .nilPtr
 |ptr h=>exact one (.ptr h)
 |P9 n c=>exact one (.P9 n c)
 |slice a b c d=>exact one (.slice a b c d)
 |nilMap=>exact one .nilMap
 |map h=>exact one (.map h)
 |func a b c d=>exact one (.func a b c d)
 |yield h=>exact one (.yield h)
 |nilFunc=>exact one .nilFunc
 |nilIface=>exact one .nilIface
 |iface h=>exact one (.iface h)
 |tuple a b=>exact one (.tuple a b)
 |Yt b o k=>exact one (.Yt b o k)
 |rawSlice b o k n c=>exact one (.rawSlice b o k n c)
 |top a b c=>rw[(c.one a).1];exact one (.top a b c)
 |Yi a b c=>rw[b];exact one (.Yi a b c)
 |noCap=>exact one .noCap
theorem VR.one{μ:Mu}{v v':Value}(h:VR μ v v'):v'.oneCell'=v.oneCell':=by
 cases h with
 |Yi a b c=>rw[c];rfl
 |top a b c=>rw[(c.one a).2];rfl
 |_=>rfl
def ones(cs:Array Value):Bool:=cs.all (·.oneCell')
theorem VRs.ones{μ:Mu}{xs xs':Array Value}(h:VRs μ xs xs')(h1:ones xs=true):∀v∈xs'.toList,v.oneCell'=true:=by
 intro v hv;obtain⟨i,hi⟩:=List.getElem?_of_mem hv;have hi':xs'[i]? =some v:=by simpa using hi
 have Xi:i<xs.size:=h.1 ▸ (Array.getElem?_eq_some_iff.1 hi').1;have:=h.2 i xs[i] v (by simp[Xi]) hi';rw[this.one];exact Array.all_eq_true.1 h1 i Xi
end Go.CE

namespace Go.CE
open Go Go.RowKit

inductive CN where
 |val (v:Value)
 |enter (f:FuncId) (args:Array Value)
 |round (l:Nat) (fn:FuncId) (tmps:Array Value) (assign body:Code)
structure CR where
 nx:CN
 H:Qm
 n:Nat
 R:List Nat
 W:List Nat
inductive NR (μ:Mu):CN->Next->Prop
 |val {v v'}:VR μ v v'->NR μ (.val v) (.value v')
 |skip:NR μ (.val undef) .skip
 |enter {f xs xs'}:VRs μ xs xs'->NR μ (.enter f xs) (.enter f xs')
 |round {l im fn xs xs' a b}:μ l=some im->VRs μ xs xs'->NR μ (.round l fn xs a b) (.round im.Zq fn xs' a b)
def Snd(P:Program)(B:Nat)(o:Oper)(ev:Operand->Option Value)(H:Qm)(n:Nat)(r:CR):Prop:=
 ∀(S:Nat->Prop) (μ:Mu) (ρ:Operand->Value) (w:World),Ok B S μ (Qq H) w->B<=w.heap.size->(∀i,S i->i<n)->JL μ n r.n->
  (∀x∈o.op.operands,∀v,ev x=some v->VR μ v (ρ x))->(∀i∈r.R,S i)->
  ∃nx w' μ',(execOp ρ o).run P w=.ok nx w'/\Post B S n r.n r.W μ μ' H r.H w w'/\NR μ' r.nx nx

def tG(P:Program)(ev:Operand->Option Value)(o:Oper):Option Value:=
 match o.op with
 | .select .. =>none
 |_=>bif o.op.operands.all (fun x=>match ev x with|some v=>af v|none=>false)then
   match Xl P (execOp (fun x=>(ev x).getD undef) o)with
   |some (.value v)=>bif af v then some v else none
   |_=>none
  else none
theorem A6{P:Program}{B:Nat}{o:Oper}{ev:Operand->Option Value}{H:Qm}{n:Nat}{v:Value}(h:tG P ev o=some v):Snd P B o ev H n ⟨.val v,H,n,[],[]⟩:=by
 intro S μ ρ w Q7 hB hS hf XK hR;have J2:∀cs b,o.op≠.select cs b:=by
  intro cs b e;simp[tG,e]at h
 have h1:(bif o.op.operands.all (fun x=>match ev x with|some v=>af v|none=>false)then
  match Xl P (execOp (fun x=>(ev x).getD undef) o)with
  |some (.value v)=>bif af v then some v else none
  |_=>none
  else none)=some v:=by
  unfold tG at h;split at h
  ·cases h
  ·exact h
 cases Uc:o.op.operands.all (fun x=>match ev x with|some v=>af v|none=>false)with
 |false=>rw[Uc]at h1;cases h1
 |true=>
  rw[Uc]at h1;simp only[cond_true]at h1;have he:execOp ρ o=execOp (fun x=>(ev x).getD undef) o:=by
   refine execOp_congr o J2 fun x hx=> ?_
   have:=Array.all_eq_true_iff_forall_mem.1 Uc x hx;cases hv:ev x with
   |none=>rw[hv]at this;cases this
   |some u=>
    rw[hv]at this;exact SM this (XK x hx u hv)
  cases hp:Xl P (execOp (fun x=>(ev x).getD undef) o)with
  |none=>rw[hp]at h1;cases h1
  |some nx=>
   rw[hp]at h1;cases nx with
   |value u=>
    simp only at h1;cases hu:af u with
    |false=>rw[hu]at h1;cases h1
    |true=>
     rw[hu]at h1;simp only[cond_true,YO]at h1;subst h1;exact⟨_,w,μ,by rw[he];exact Um hp w,Post.refl Q7,.val (Pc hu)⟩
   |_=>cases h1

def tI(P:Program)(ev:Operand->Option Value)(o:Oper):Option Value:=match o.op with
 | .binOp .eql t x y _=>match ev x,ev y,P.underlying t with
   |some (.slice (some ⟨_,_,none⟩) _ _),some (.slice none 0 0),some (.slice _)=>some (.bool false)
   |_,_,_=>none
 | .binOp .neq t x y _=>match ev x,ev y,P.underlying t with
   |some (.slice (some ⟨_,_,none⟩) _ _),some (.slice none 0 0),some (.slice _)=>some (.bool true)
   |_,_,_=>none
 |_=>none
theorem yA{P:Program}{B:Nat}{o:Oper}{ev:Operand->Option Value}{H:Qm}{n:Nat}{v:Value}(h:tI P ev o=some v):Snd P B o ev H n ⟨.val v,H,n,[],[]⟩:=by
 intro S μ ρ w Q7 hB hS hf XK hR;unfold tI at h;split at h
 ·rename_i t x y yt ho;split at h
  ·rename_i b off m s e hx hy hu;simp only[YO]at h;subst h;have h1:=XK x (by simp[ho,Op.operands]) _ hx;have h2:=XK y (by simp[ho,Op.operands]) _ hy;generalize hxx:ρ x=a at h1;generalize hyy:ρ y=c at h2;have e1:∃p k q,a=.slice (some p) k q:=by cases h1;exact⟨_,_,_,rfl⟩
   have e2:c=.slice none 0 0:=by cases h2;rfl
   obtain⟨p,k,q,rfl⟩:=e1;subst e2;have he:(Op.equal t (.slice (some p) k q) (.slice none 0 0)).run P w=.ok false w:=by
    show(Op.equalIn (9999+1) t (.slice (some p) k q) (.slice none 0 0)).run P w=.ok false w;unfold Op.equalIn;simp[Sem.run_bind,run_underlying hu,Sem.run_pure]
   refine⟨.value (.bool false),w,μ, ?_,Post.refl Q7,.val (.bool _)⟩;simp only[execOp,ho,hxx,hyy];simp[eqGuard,binOp,Sem.run_bind,Sem.run_pure,he]
  ·cases h
 ·rename_i t x y yt ho;split at h
  ·rename_i b off m s e hx hy hu;simp only[YO]at h;subst h;have h1:=XK x (by simp[ho,Op.operands]) _ hx;have h2:=XK y (by simp[ho,Op.operands]) _ hy;generalize hxx:ρ x=a at h1;generalize hyy:ρ y=c at h2;have e1:∃p k q,a=.slice (some p) k q:=by cases h1;exact⟨_,_,_,rfl⟩
   have e2:c=.slice none 0 0:=by cases h2;rfl
   obtain⟨p,k,q,rfl⟩:=e1;subst e2;have he:(Op.equal t (.slice (some p) k q) (.slice none 0 0)).run P w=.ok false w:=by
    show(Op.equalIn (9999+1) t (.slice (some p) k q) (.slice none 0 0)).run P w=.ok false w;unfold Op.equalIn;simp[Sem.run_bind,run_underlying hu,Sem.run_pure]
   refine⟨.value (.bool true),w,μ, ?_,Post.refl Q7,.val (.bool _)⟩;simp only[execOp,ho,hxx,hyy];simp[eqGuard,binOp,Sem.run_bind,Sem.run_pure,he]
  ·cases h
 ·cases h
def U9(P:Program)(ev:Operand->Option Value)(o:Oper):Option Value:=match tI P ev o with
 |some v=>some v
 |none=>tG P ev o
theorem El{P:Program}{B:Nat}{o:Oper}{ev:Operand->Option Value}{H:Qm}{n:Nat}{v:Value}(h:U9 P ev o=some v):Snd P B o ev H n ⟨.val v,H,n,[],[]⟩:=by
 unfold U9 at h;split at h
 ·rename_i u hu;simp only[YO]at h;subst h;exact yA hu
 ·exact A6 h

def nth{α:Type}:List α->Nat->Option α
 |[],_=>none
 |a::_,0=>some a
 |_::l,k+1=>nth l k
theorem aO{α:Type}:∀(l:List α) (i:Nat),nth l i=l[i]?
 |[],i=>by cases i <;> rfl
 |a::l,0=>rfl
 |a::l,i+1=>by simpa[nth]using aO l i
def inf(P:Program)(t:TypeId):Option TypeInfo:=
 match nth P.types.toList t with
 |some i=>some i
 |none=>P.info? t
theorem J1(P:Program)(t:TypeId):inf P t=P.info? t:=by
 unfold inf;rw[aO,Lm];by_cases h:t<P.types.size
 ·simp[Tables.info?,h]
 ·rw[L5 (Nat.le_of_not_lt h)]
def JN(P:Program)(t:TypeId):Option TypeDesc:=
 match inf P t with
 |some i=>match i.desc with
  | .named _ u=>match inf P u with
    |some j=>some j.desc
    |none=>none
  |d=>some d
 |none=>none
theorem Zw(P:Program)(t:TypeId):JN P t=P.underlying t:=by
 unfold JN Program.underlying;simp only[J1];cases hi:P.info? t with
 |none=>rfl
 |some i=>
  obtain⟨d,_⟩:=i;cases d <;> try rfl
  simp only;cases P.info? _ <;> rfl
def W5(P:Program)(t:TypeId):Option Nat:=match inf P t with|some i=>some i.size|none=>none
def pd(P:Program)(t:TypeId):Option Bool:=match JN P t with|some (.struct _)|some (.array _ _)=>some true|some _=>some false|none=>none
theorem Zj{P:Program}{t:TypeId}{s:Nat}(h:W5 P t=some s)(w:World):(sizeOf t).run P w=.ok s w:=by
 unfold W5 at h;rw[J1]at h;cases hi:P.info? t with
 |none=>rw[hi]at h;cases h
 |some i=>rw[hi]at h;simp only[YO]at h;subst h;simp[sizeOf,typeInfo,hi]
theorem Ki{P:Program}{t:TypeId}{b:Bool}(h:pd P t=some b)(w:World):(isAgg t).run P w=.ok b w:=by
 unfold pd at h;rw[Zw]at h;cases hu:P.underlying t with
 |none=>rw[hu]at h;cases h
 |some d=>rw[hu]at h;simp only[isAgg,Sem.run_bind,run_underlying hu,Result.andThen_ok];cases d <;> simp_all

def Yl(P:Program)(t:TypeId)(cs:Array Value)(off:Nat):Option Value:=
 match pd P t with
 |some true=>match W5 P t with
  |some s=>bif LI (off+s) cs.size then some (.agg (cs.extract off (off+s)))else none
  |none=>none
 |some false=>cs[off]?
 |none=>none
theorem VRs.extract{μ:Mu}{xs xs':Array Value}(h:VRs μ xs xs')(a b:Nat):VRs μ (xs.extract a b) (xs'.extract a b):=by
 refine⟨by simp[h.1],fun i v v' hv ZW=> ?_⟩;rw[LX]at hv ZW;rw[<-h.1]at ZW;split at hv
 ·rename_i Xi;rw[if_pos Xi]at ZW;exact h.2 _ v v' hv ZW
 ·cases hv
theorem rl{P:Program}{μ:Mu}{t:TypeId}{cs cs':Array Value}{off:Nat}{v:Value}(h:Yl P t cs off=some v)(hr:VRs μ cs cs')(w:World):∃v',(part t cs' off).run P w=.ok v' w/\VR μ v v':=by
 unfold Yl at h;cases ha:pd P t with
 |none=>rw[ha]at h;cases h
 |some b=>
  rw[ha]at h;cases b with
  |true=>
   cases hs:W5 P t with
   |none=>rw[hs]at h;cases h
   |some s=>
    rw[hs]at h;dsimp only at h;cases hb:LI (off+s) cs.size with
    |false=>rw[hb]at h;cases h
    |true=>
     rw[hb]at h;simp only[cond_true,YO]at h;subst h;refine⟨.agg (cs'.extract off (off+s)), ?_,.agg (hr.extract _ _).1 (hr.extract _ _).2⟩;simp only[part,Sem.run_bind,Ki ha,Result.andThen_ok,if_true,Zj hs,Sem.run_pure]
  |false=>
   obtain⟨v',ZW,Vp⟩:=hr.get h;refine⟨v', ?_,Vp⟩;simp only[part,Sem.run_bind,Ki ha,Result.andThen_ok,ZW];rfl

theorem OR.cell{μ:Mu}{w:World}{im:c7}{cs:Array Value}{t:TypeId}{fz:Nat×Nat}(h:OR μ w im (.cells cs t fz)){i:Nat}{v:Value}(hv:cs[i]? =some v):∃v',w.cell? ⟨im.Zq,im.off+i,none⟩=some v'/\VR μ v v':=by
 rcases h with ⟨_,_,ho,arr,ha,_,_,h3⟩|⟨_,h3⟩
 ·obtain⟨v',a,b⟩:=h3 i v hv;exact⟨v',by rw[ho,Lv];simp[World.cell?,ha,a],b⟩
 ·exact h3 i v hv
theorem WB(b o n:Nat):(⟨b,o,none⟩:Addr).add n=⟨b,o+n,none⟩:=by unfold Addr.add;split <;> simp_all
theorem OR.cells{P:Program}{μ:Mu}{w:World}{im:c7}{cs:Array Value}{t:TypeId}{fz:Nat×Nat}(h:OR μ w im (.cells cs t fz)){off s:Nat}(hle:off+s<=cs.size):
 ∃xs,(loadCells ⟨im.Zq,im.off+off,none⟩ s).run P w=.ok xs w/\VRs μ (cs.extract off (off+s)) xs:=by
 let f:Nat->Value:=fun j=>(w.cell? ⟨im.Zq,im.off+(off+j),none⟩).getD undef
 have hf:∀j,j<s->∃v,cs[off+j]? =some v/\w.cell? ⟨im.Zq,im.off+(off+j),none⟩=some (f j)/\VR μ v (f j):=by
  intro j hj;have Xi:off+j<cs.size:=by omega
  obtain⟨v',a,b⟩:=h.cell (i:=off+j) (v:=cs[off+j]) (by simp[Xi]);exact⟨cs[off+j],by simp[Xi],by simp[f,a],by simpa[f,a]using b⟩
 have hr:=run_loadCells (P:=P) w ⟨im.Zq,im.off+off,none⟩ s f (fun j hj=>by
  obtain⟨_,_,hc,_⟩:=hf j hj;rw[WB,Nat.add_assoc];exact hc)
 refine⟨_,hr,⟨by simp;omega,fun i v v' hv ZW=> ?_⟩⟩;rw[LX]at hv;split at hv
 ·rename_i Xi;obtain⟨u,hu,_,Vp⟩:=hf i (by omega);rw[hu]at hv;cases hv;have hi:i<s:=by omega
  simp[hi]at ZW;rw[<-ZW];exact Vp
 ·cases hv
def SJ(P:Program)(t:TypeId)(H:Qm):Value->Option (Value×Nat)
 | .pointer (some ⟨b,off,none⟩)=>match Qq H b with
   |some (.cells cs _ _)=>match Yl P t cs off with
    |some v=>some (v,b)
    |none=>none
   |_=>none
 |_=>none
theorem rn{P:Program}{B:Nat}{S:Nat->Prop}{μ:Mu}{H:Qm}{w:World}{t:TypeId}{p p' v:Value}{b:Nat}(h:SJ P t H p=some (v,b))(Q7:Ok B S μ (Qq H) w)(hp:VR μ p p')(hb:S b):
 ∃v',(Instr.loadAt t p').run P w=.ok v' w/\VR μ v v':=by
 unfold SJ at h;split at h
 ·rename_i b0 off;cases hg:Qq H b0 with
  |none=>rw[hg]at h;cases h
  |some o=>
   rw[hg]at h;cases o with
   |cells cs te fz=>
    simp only at h;cases hc:Yl P t cs off with
    |none=>rw[hc]at h;cases h
    |some u=>
     rw[hc]at h;simp only[YO,YR]at h;obtain⟨rfl,rfl⟩:=h;obtain⟨im,QD,ZQ⟩:=Q7.rel b0 _ hb hg trivial;cases hp with
     |ptr har=>
      obtain⟨Z4,QO,_,rfl⟩:=har;simp only at QO;rw[QD]at QO;cases QO;unfold Yl at hc;cases ha:pd P t with
      |none=>rw[ha]at hc;cases hc
      |some bb=>
       rw[ha]at hc;cases bb with
       |true=>
        cases hs:W5 P t with
        |none=>rw[hs]at hc;cases hc
        |some s=>
         rw[hs]at hc;dsimp only at hc;cases hble:LI (off+s) cs.size with
         |false=>rw[hble]at hc;cases hc
         |true=>
          rw[hble]at hc;simp only[cond_true,YO]at hc;subst hc;obtain⟨xs,hx,Vp⟩:=ZQ.cells (P:=P) (off:=off) (s:=s) (YL hble);refine⟨.agg xs, ?_,.agg Vp.1 Vp.2⟩;simp only[Instr.loadAt,Instr.sureAddr,Sem.run_bind,Sem.run_pure,Result.andThen_ok,loadVar,Ki ha,if_true,Zj hs,hx]
       |false=>
        obtain⟨v',ZW,Vp⟩:=ZQ.cell hc;refine⟨v', ?_,Vp⟩;simp only[Instr.loadAt,Instr.sureAddr,Sem.run_bind,Sem.run_pure,Result.andThen_ok,loadVar,Ki ha,Bool.false_eq_true,if_false,run_load,ZW]
   |_=>cases h
 ·cases h

def splice(cs:Array Value)(off:Nat)(xs:Array Value):Array Value:=(cs.toList.take off++xs.toList++cs.toList.drop (off+xs.toList.length)).toArray
theorem Pg{cs xs:Array Value}{off i:Nat}(h:off+xs.size<=cs.size):(splice cs off xs)[i]? =if off<=i/\i<off+xs.size then xs[i-off]? else cs[i]? :=by
 unfold splice;simp only[LU,Array.length_toList];have hl:(List.take off cs.toList).length=off:=by simp;omega
 by_cases h1:i<off
 ·rw[List.append_assoc,Lz (by rw[hl];exact h1),if_neg (by omega),L6 h1];simp
 ·by_cases h2:i<off+xs.size
  ·rw[List.append_assoc,Lp (by omega),hl,Lz (by simp;omega),if_pos ⟨by omega,h2⟩];simp
  ·rw[List.append_assoc,Lp (by omega),hl,Lp (by simp;omega),if_neg (by omega),List.getElem?_drop];simp only[Array.length_toList,Lm];congr 1;omega
theorem WM{cs xs:Array Value}{off:Nat}(h:off+xs.size<=cs.size):(splice cs off xs).size=cs.size:=by
 simp[splice];omega
theorem VRs.splice{μ:Mu}{cs xs:Array Value}{arr xs':Array Value}{off:Nat}(h:off+xs.size<=cs.size)(hle:cs.size<=arr.size)(hc:∀(i:Nat) v,cs[i]? =some v->∃v',arr[i]? =some v'/\VR μ v v')(hx:VRs μ xs xs'):
 ∀(i:Nat) v,(splice cs off xs)[i]? =some v->∃v',(CE.splice arr off xs')[i]? =some v'/\VR μ v v':=by
 intro i v hv;rw[Pg h]at hv;rw[Pg (by rw[<-hx.1];omega),<-hx.1];split at hv
 ·rename_i hi;rw[if_pos hi];exact hx.get hv
 ·rename_i hi;rw[if_neg hi];exact hc i v hv
def RC(P:Program)(t:TypeId)(H:Qm)(v:Value):Value->Option (Qm×Nat)
 | .pointer (some ⟨b,off,none⟩)=>match Qq H b with
   |some (.cells cs te (0,0))=>match W5 P t with
    |some s=>bif Lf v.cells.size s && ones v.cells && LI (off+s) cs.size then some (VE H b (.cells (splice cs off v.cells) te (0,0)),b)else none
    |none=>none
   |_=>none
 |_=>none
theorem A4{P:Program}{B n:Nat}{S:Nat->Prop}{μ:Mu}{H H':Qm}{w:World}{t:TypeId}{p p' v v':Value}{b:Nat}(h:RC P t H v p=some (H',b))(Q7:Ok B S μ (Qq H) w)(hS:∀i,S i->i<n)(hp:VR μ p p')(hv:VR μ v v')(hb:S b):
 ∃w',(Instr.storeAt t p' v').run P w=.ok () w'/\Post B S n n [b] μ μ H H' w w':=by
 unfold RC at h;split at h
 ·rename_i b0 off;split at h
  ·rename_i cs te hg;cases hs:W5 P t with
   |none=>rw[hs]at h;cases h
   |some s=>
    rw[hs]at h;simp only at h;cases hcond:(Lf v.cells.size s && ones v.cells && LI (off+s) cs.size)with
    |false=>rw[hcond]at h;cases h
    |true=>
     rw[hcond]at h;simp only[cond_true,YO,YR]at h;obtain⟨rfl,rfl⟩:=h;simp only[YB]at hcond;obtain⟨⟨h1,h2⟩,h3⟩:=hcond;have h1:=YE h1;have h3:=YL h3;obtain⟨im,QD,ZQ⟩:=Q7.rel b0 _ hb hg trivial;have hcs:=hv.cells;cases hp with
     |ptr har=>
      obtain⟨Z4,QO,_,rfl⟩:=har;simp only at QO;rw[QD]at QO;cases QO;rcases ZQ with ⟨_,hr,ho,arr,ha,hle,hcap,hc⟩|⟨hz,_⟩
      ·have XZ:=run_storeCells_at (P:=P) im.Zq off te v'.cells.toList 0 arr w ha (by simp[<-hcs.1];omega) (hcs.ones h2);simp only[Nat.add_zero]at XZ;refine⟨_, ?_,Post.write Q7 hS b0 _ (.cells (CE.splice cs off v.cells) te (0,0)) im hb hg trivial QD hr (w':=w.setRow im.Zq (CE.splice arr off v'.cells)) ?_ ?_ ?_ ⟨rfl,rfl,rfl⟩⟩
       ·simp only[Instr.storeAt,Instr.sureAddr,Sem.run_bind,Sem.run_pure,Result.andThen_ok,storeVar,Zj hs,ho,Lv,<-hcs.1,h1,ne_eq,not_true_eq_false,if_false,XZ];rfl
       ·simp[World.setRow]
       ·intro x hx;exact setRow_other w im.Zq x _ hx
       ·refine .inl ⟨rfl,hr,ho,CE.splice arr off v'.cells,setRow_heap w im.Zq arr _ te _ ha, ?_, ?_, ?_⟩
        ·rw[WM (by omega),WM (by rw[<-hcs.1];omega)];exact hle
        ·rw[WM (by rw[<-hcs.1];omega)];exact hcap
        ·exact VRs.splice (by omega) hle hc hcs
      ·exact absurd rfl hz
  ·cases h
 ·cases h
end Go.CE

namespace Go.CE
open Go Go.RowKit

theorem OR.ofCells{μ:Mu}{w:World}{b cap:Nat}{cs arr:Array Value}{t:TypeId}(ha:w.heap[b]? =some (.cells arr t (0,0)))(hle:cs.size<=arr.size)(hcap:arr.size=cap)
 (hc:∀(i:Nat) v,cs[i]? =some v->∃v',arr[i]? =some v'/\VR μ v v'):OR μ w ⟨b,0,cap,true,TN⟩ (.cells cs t (0,0)):=.inl ⟨rfl,rfl,rfl,arr,ha,hle,hcap,hc⟩
theorem VRs.all{μ:Mu}{xs xs':Array Value}(h:VRs μ xs xs'):∀(i:Nat) v,xs[i]? =some v->∃v',xs'[i]? =some v'/\VR μ v v':=fun _ _ hv=>h.get hv
def zO(n:Nat):Value:=.pointer (some ⟨n,0,none⟩)
theorem AQ{μ:Mu}{n:Nat}{im:c7}(h:μ n=some im)(ho:im.off=0):VR μ (zO n) (.pointer (some ⟨im.Zq,0,none⟩)):=.ptr ⟨im,h,rfl,by simp[ho]⟩
theorem jZ{B n:Nat}{S:Nat->Prop}{μ:Mu}{H:Qm}{w:World}(Q7:Ok B S μ (Qq H) w)(hB:B<=w.heap.size)(hS:∀i,S i->i<n)(hf:μ n=none)(cs arr:Array Value)(t:TypeId)(hle:cs.size<=arr.size)
 (hc:∀(i:Nat) v,cs[i]? =some v->∃v',arr[i]? =some v'/\VR μ v v'):
 Post B S n (n+1) [] μ (upd μ n ⟨w.heap.size,0,arr.size,true,TN⟩) H ((n,.cells cs t (0,0))::H) w (w.alloc (.cells arr t (0,0))):=
 Post.alloc Q7 hB hS hf _ _ _ (.ofCells (heap_alloc _ _) hle rfl fun i v hv=>let⟨v',a,b⟩:=hc i v hv;⟨v',a,b.mono (KM hf)⟩)
def zeroOf(P:Program)(t:TypeId):Option Value:=match inf P t with|some i=>i.zero|none=>none
theorem c8{P:Program}{t:TypeId}{z:Value}(h:zeroOf P t=some z)(w:World):(zeroValue t).run P w=.ok z w:=by
 unfold zeroOf at h;rw[J1]at h;cases hi:P.info? t with
 |none=>rw[hi]at h;cases h
 |some i=>rw[hi]at h;simp[zeroValue,typeInfo,hi,h]
theorem AF{P:Program}{B:Nat}{o:Oper}{ev:Operand->Option Value}{H:Qm}{n:Nat}{t:TypeId}{z:Value}(ho:o.op=.alloc t)(hz:zeroOf P t=some z)(ha:af z=true):
 Snd P B o ev H n ⟨.val (zO n),(n,.cells z.cells t (0,0))::H,n+1,[],[]⟩:=by
 intro S μ ρ w Q7 hB hS hf XK hR;have hfn:=hf n (Lw _) (by simp);refine⟨_,_,_, ?_,jZ Q7 hB hS hfn z.cells z.cells t (Lw _) (Pc (μ:=μ) ha).cells.all,.val (AQ Xy rfl)⟩;simp only[execOp,ho,Instr.alloc,Sem.run_bind,c8 hz,Result.andThen_ok,newVar,newRow,run_newObj,Sem.run_pure];rfl
theorem Mg{P:Program}{B:Nat}{o:Oper}{ev:Operand->Option Value}{H:Qm}{n:Nat}{t:TypeId}{x:Operand}{v:Value}(ho:o.op=.box t x)(hx:ev x=some v):
 Snd P B o ev H n ⟨.val (zO n),(n,.cells v.cells t (0,0))::H,n+1,[],[]⟩:=by
 intro S μ ρ w Q7 hB hS hf XK hR;have hfn:=hf n (Lw _) (by simp);have hv:=XK x (by simp[ho,Op.operands]) v hx;refine⟨_,_,_, ?_,jZ Q7 hB hS hfn v.cells (ρ x).cells t (by rw[hv.cells.1];exact Lw _) hv.cells.all,.val (AQ Xy rfl)⟩;simp only[execOp,ho,Instr.box,Sem.run_bind,Result.andThen_ok,newVar,newRow,run_newObj,Sem.run_pure];rfl

def Wo(P:Program)(s:TypeId)(f:Nat):Value->Option Value
 | .pointer (some ⟨b,off,none⟩)=>match JN P s with
   |some (.struct fields)=>match fields[f]? with
    |some fd=>match W5 P fd.type with
     |some (_+1)=>some (.pointer (some ⟨b,off+fd.offset,none⟩))
     |_=>none
    |none=>none
   |_=>none
 |_=>none
theorem oW{P:Program}{μ:Mu}{s:TypeId}{f:Nat}{p p' v:Value}(h:Wo P s f p=some v)(hp:VR μ p p')(w:World):∃v',(Instr.fieldAt s p' f).run P w=.ok v' w/\VR μ v v':=by
 unfold Wo at h;simp only[Zw]at h;split at h
 ·rename_i b off;split at h
  ·rename_i fields hu;cases hfd:fields[f]? with
   |none=>rw[hfd]at h;cases h
   |some fd=>
    rw[hfd]at h;dsimp only at h;split at h
    ·rename_i z hz;simp only[YO]at h;subst h;cases hp with
     |ptr har=>
      obtain⟨im,QD,_,rfl⟩:=har;refine⟨.pointer (some ⟨im.Zq,im.off+(off+fd.offset),none⟩), ?_,.ptr ⟨im,QD,rfl,rfl⟩⟩;simp only[Instr.fieldAt,Sem.run_bind,run_underlying hu,Result.andThen_ok,hfd,Instr.sureAddr,Sem.run_pure,fieldPlace,Zj hz,WB,Nat.add_assoc];simp
    ·cases h
  ·cases h
 ·cases h
def Y7(P:Program)(t:TypeId):Value->Value->Option Value
 | .slice (some ⟨b,off,none⟩) len _,.int _ i=>match JN P t with
   |some (.slice e)=>match W5 P e with
    |some s=>bif decide (0<=i) && decide (i<len)then some (.pointer (some ⟨b,off+i.toNat*s,none⟩))else none
    |none=>none
   |_=>none
 | .pointer (some ⟨b,off,none⟩),.int _ i=>match JN P t with
   |some (.array len e)=>match W5 P e with
    |some s=>bif decide (0<=i) && decide (i<len)then some (.pointer (some ⟨b,off+i.toNat*s,none⟩))else none
    |none=>none
   |_=>none
 |_,_=>none
theorem oV{P:Program}{μ:Mu}{t:TypeId}{x x' i i' v:Value}(h:Y7 P t x i=some v)(hx:VR μ x x')(hi:VR μ i i')(w:World):∃v',(Instr.indexAt t x' i').run P w=.ok v' w/\VR μ v v':=by
 unfold Y7 at h;simp only[Zw]at h;split at h
 ·rename_i b off len c k q;split at h
  ·rename_i e hu;cases hs:W5 P e with
   |none=>rw[hs]at h;cases h
   |some s=>
    rw[hs]at h;dsimp only at h;cases hc:(decide (0<=q) && decide (q<len))with
    |false=>rw[hc]at h;cases h
    |true=>
     rw[hc]at h;simp only[cond_true,YO]at h;subst h;simp only[YB,decide_eq_true_eq]at hc;cases hi;cases hx with
     |slice har h1 h2 h3=>
      obtain⟨im,QD,_,rfl⟩:=har;refine⟨.pointer (some ⟨im.Zq,im.off+(off+q.toNat*s),none⟩), ?_,.ptr ⟨im,QD,rfl,rfl⟩⟩;simp only[Instr.indexAt,Sem.run_bind,asIntOf,Sem.run_pure,Result.andThen_ok,run_underlying hu,hc,and_self,if_true,Zj hs,WB,Nat.add_assoc]
  ·cases h
 ·rename_i b off k q;split at h
  ·rename_i len e hu;cases hs:W5 P e with
   |none=>rw[hs]at h;cases h
   |some s=>
    rw[hs]at h;dsimp only at h;cases hc:(decide (0<=q) && decide (q<len))with
    |false=>rw[hc]at h;cases h
    |true=>
     rw[hc]at h;simp only[cond_true,YO]at h;subst h;simp only[YB,decide_eq_true_eq]at hc;cases hi;cases hx with
     |ptr har=>
      obtain⟨im,QD,_,rfl⟩:=har;refine⟨.pointer (some ⟨im.Zq,im.off+(off+q.toNat*s),none⟩), ?_,.ptr ⟨im,QD,rfl,rfl⟩⟩;simp only[Instr.indexAt,Sem.run_bind,asIntOf,Sem.run_pure,Result.andThen_ok,run_underlying hu,Instr.sureAddr,hc,and_self,if_true,Zj hs,WB,Nat.add_assoc]
  ·cases h
 ·cases h

def ir(P:Program)(t:TypeId)(f:Nat):Value->Option Value
 | .agg cs=>match JN P t with
   |some (.struct fields)=>match fields[f]? with
    |some fd=>Yl P fd.type cs fd.offset
    |none=>none
   |_=>none
 |_=>none
theorem A9{P:Program}{μ:Mu}{t:TypeId}{f:Nat}{x x' v:Value}(h:ir P t f x=some v)(hx:VR μ x x')(w:World):∃v',(Instr.field t x' f).run P w=.ok v' w/\VR μ v v':=by
 unfold ir at h;simp only[Zw]at h;split at h
 ·split at h
  ·rename_i fields hu;cases hfd:fields[f]? with
   |none=>rw[hfd]at h;cases h
   |some fd=>
    rw[hfd]at h;cases hx with
    |agg h1 h2=>
     obtain⟨v',hv,hr⟩:=rl h ⟨h1,h2⟩ w;refine⟨v', ?_,hr⟩;simp only[Instr.field,Sem.run_bind,run_underlying hu,Result.andThen_ok,hfd,asAgg,Sem.run_pure,hv]
  ·cases h
 ·cases h
def tK(P:Program)(t:TypeId):Value->Value->Option Value
 | .agg cs,.int _ i=>match JN P t with
   |some (.array len e)=>match W5 P e with
    |some s=>bif decide (0<=i) && decide (i<len)then Yl P e cs (i.toNat*s)else none
    |none=>none
   |_=>none
 |_,_=>none
theorem A8{P:Program}{μ:Mu}{t:TypeId}{x x' i i' v:Value}(h:tK P t x i=some v)(hx:VR μ x x')(hi:VR μ i i')(w:World):∃v',(Instr.index t x' i').run P w=.ok v' w/\VR μ v v':=by
 unfold tK at h;simp only[Zw]at h;split at h
 ·rename_i cs k q;split at h
  ·rename_i len e hu;cases hs:W5 P e with
   |none=>rw[hs]at h;cases h
   |some s=>
    rw[hs]at h;dsimp only at h;cases hc:(decide (0<=q) && decide (q<len))with
    |false=>rw[hc]at h;cases h
    |true=>
     rw[hc]at h;simp only[cond_true]at h;simp only[YB,decide_eq_true_eq]at hc;cases hi;cases hx with
     |agg h1 h2=>
      obtain⟨v',hv,hr⟩:=rl h ⟨h1,h2⟩ w;refine⟨v', ?_,hr⟩;simp only[Instr.index,Sem.run_bind,asIntOf,Sem.run_pure,Result.andThen_ok,run_underlying hu,hc,and_self,if_true,Zj hs,hv]
  ·cases h
 ·cases h
def SK(i:Nat):Value->Option Value
 | .tuple vs=>vs[i]?
 |_=>none
theorem tL{P:Program}{μ:Mu}{i:Nat}{x x' v:Value}(h:SK i x=some v)(hx:VR μ x x')(w:World):∃v',(Instr.extract x' i).run P w=.ok v' w/\VR μ v v':=by
 unfold SK at h;split at h
 ·cases hx with
  |tuple h1 h2=>
   obtain⟨v',hv,hr⟩:=VRs.get ⟨h1,h2⟩ h;exact⟨v',by simp only[Instr.extract,hv];rfl,hr⟩
 ·cases h

theorem VRs.set{μ:Mu}{xs xs':Array Value}{v v':Value}(h:VRs μ xs xs')(hv:VR μ v v')(i:Nat):VRs μ (xs.setIfInBounds i v) (xs'.setIfInBounds i v'):=by
 refine⟨by simp[h.1],fun j a b ha hb=> ?_⟩;rw[Array.getElem?_setIfInBounds]at ha hb;by_cases e:i=j
 ·subst e;rw[if_pos rfl]at ha hb;split at ha
  ·rename_i Xi;rw[if_pos (by rw[<-h.1];exact Xi)]at hb;cases ha;cases hb;exact hv
  ·cases ha
 ·rw[if_neg e]at ha hb;exact h.2 j a b ha hb
theorem Bx{μ:Mu}(off:Nat):∀(l l':List Value) (k:Nat) (xs xs':Array Value),l.length=l'.length->(∀(i:Nat) v v',l[i]? =some v->l'[i]? =some v'->VR μ v v')->VRs μ xs xs'->
 VRs μ ((l.zipIdx k).foldl (fun cs (x:Value×Nat)=>cs.setIfInBounds (off+x.2) x.1) xs) ((l'.zipIdx k).foldl (fun cs (x:Value×Nat)=>cs.setIfInBounds (off+x.2) x.1) xs')
 |[],[],_,_,_,_,_,h=>h
 |a::l,b::l',k,xs,xs',hl,hv,h=>by
  simp only[List.zipIdx_cons,List.foldl_cons];exact Bx off l l' (k+1) _ _ (by simpa using hl) (fun i v v' x y=>hv (i+1) v v' (by simpa using x) (by simpa using y)) (h.set (hv 0 a b rfl rfl) _)
 |[],_::_,_,_,_,hl,_,_=>by simp at hl
 |_::_,[],_,_,_,hl,_,_=>by simp at hl
theorem ki{μ:Mu}{place:Nat->Option (Nat×Nat)}:∀(ps ps':List (Nat×Value)) (cells cells' cs:Array Value),ps.length=ps'.length->(∀(i:Nat) p p',ps[i]? =some p->ps'[i]? =some p'->p'.1=p.1/\VR μ p.2 p'.2)->
 VRs μ cells cells'->Instr.fill place cells ps=some cs->∃cs',Instr.fill place cells' ps'=some cs'/\VRs μ cs cs'
 |[],[],cells,cells',cs,_,_,h,hf=>by
  simp only[Instr.fill,YO]at hf;subst hf;exact⟨cells',rfl,h⟩
 |p::ps,p'::ps',cells,cells',cs,hl,hp,h,hf=>by
  obtain⟨i,v⟩:=p;obtain⟨i',v'⟩:=p';obtain⟨h1,h2⟩:=hp 0 (i,v) (i',v') rfl rfl;simp only at h1 h2;subst h1;simp only[Instr.fill]at hf ⊢;cases WX:place i' with
  |none=>rw[WX]at hf;cases hf
  |some os=>
   obtain⟨off,size⟩:=os;rw[WX]at hf;dsimp only at hf ⊢;split at hf
   ·cases hf
   ·rename_i hn;rw[if_neg (by rw[<-h2.cells.1,<-h.1];exact hn)];have hz:=Bx off v.cells.toList v'.cells.toList 0 cells cells' (by simpa using h2.cells.1) (fun j a b x y=>h2.cells.2 j a b (by simpa using x) (by simpa using y)) h;have e1:∀(c:Array Value) (x:Array Value),(c.zipIdx.foldl (fun cs (y:Value×Nat)=>cs.setIfInBounds (off+y.2) y.1) x)=((c.toList.zipIdx 0).foldl (fun cs (y:Value×Nat)=>cs.setIfInBounds (off+y.2) y.1) x):=by
     intro c x;rw[<-Array.foldl_toList,Array.toList_zipIdx]
    refine ki ps ps' _ _ cs (by simpa using hl) (fun j a b x y=>hp (j+1) a b (by simpa using x) (by simpa using y)) ?_ hf;have:=hz;rw[<-e1,<-e1]at this;exact this
 |[],_::_,_,_,_,hl,_,_,_=>by simp at hl
 |_::_,[],_,_,_,hl,_,_,_=>by simp at hl
end Go.CE

namespace Go.CE
open Go Go.RowKit

def TK(P:Program)(t:TypeId):Value->Value->Option (TypeId×Array Value×Nat×Nat)
 | .int _ l,.int _ c=>match JN P t with
   |some (.slice e)=>match inf P e with
    |some i=>match i.zero with
     |some z=>bif decide (0<=l) && decide (l<=c) && decide ((i.bytes:Int)*c<=281474976710656) && decide (c<=9223372036854775807) && (madeCells z.cells (l.toNat*i.size)).all simple then
      some (e,madeCells z.cells (l.toNat*i.size),l.toNat,i.size)else none
     |none=>none
    |none=>none
   |_=>none
 |_,_=>none
theorem Ij{z:Array Value}{n m i:Nat}(h:n<=m)(hi:i<n):(madeCells z m)[i]? =(madeCells z n)[i]? :=by
 simp only[madeCells,Array.getElem?_map];rw[Array.getElem?_range,Array.getElem?_range,if_pos hi,if_pos (by omega)]
theorem Em{P:Program}{B n:Nat}{S:Nat->Prop}{μ:Mu}{H:Qm}{w:World}{t e:TypeId}{x y x' y':Value}{cs:Array Value}{l s:Nat}(h:TK P t x y=some (e,cs,l,s))(Q7:Ok B S μ (Qq H) w)(hB:B<=w.heap.size)(hS:∀i,S i->i<n)
 (hf:μ n=none) (hx:VR μ x x') (hy:VR μ y y'):
 ∃v' w' μ',(Instr.makeSlice t x' y').run P w=.ok v' w'/\Post B S n (n+1) [] μ μ' H ((n,.cells cs e (0,0))::H) w w'/\VR μ' (.slice (some ⟨n,0,none⟩) l s) v':=by
 unfold TK at h;simp only[Zw,J1]at h;split at h
 ·rename_i kl l0 kc c0;split at h
  ·rename_i e0 hu;split at h
   ·rename_i i hi;split at h
    ·rename_i z hz;cases hc:(decide (0<=l0) && decide (l0<=c0) && decide ((i.bytes:Int)*c0<=281474976710656) && decide (c0<=9223372036854775807) && (madeCells z.cells (l0.toNat*i.size)).all simple)with
     |false=>rw[hc]at h;cases h
     |true=>
      rw[hc]at h;simp only[cond_true,YO,YR]at h;obtain⟨rfl,rfl,rfl,rfl⟩:=h;simp only[YB,decide_eq_true_eq]at hc;obtain⟨⟨⟨⟨h0,h1⟩,h2⟩,h3⟩,h4⟩:=hc;cases hx;cases hy;have hr:=run_make (P:=P) w t e0 i z hu hi hz kl kc l0 c0 h0 h1 h2 h3;have hle:l0.toNat*i.size<=c0.toNat*i.size:=Nat.mul_le_mul_right _ (by omega);refine⟨_,_,_,hr,jZ Q7 hB hS hf _ _ _ (by simp only[size_madeCells];exact hle) (fun j v hv=> ?_), ?_⟩
      ·have hj:j<l0.toNat*i.size:=by have:=(Array.getElem?_eq_some_iff.1 hv).1;simpa[size_madeCells]using this
       refine⟨v,by rw[Ij hle hj];exact hv,ZR ?_⟩;obtain⟨Xi,rfl⟩:=Array.getElem?_eq_some_iff.1 hv;exact Array.all_eq_true.1 h4 j Xi
      ·refine .slice ⟨_,Xy,rfl,rfl⟩ (by omega) (by unfold maxLen;omega) (fun _ im QD _ _=> ?_);rw[show upd μ n ⟨w.heap.size,0,(madeCells z.cells (c0.toNat*i.size)).size,true,TN⟩ n=some _ from Xy]at QD;cases QD;simp[size_madeCells]
    ·cases h
   ·cases h
  ·cases h
 ·cases h

def Et(d top:Nat):Option Value->Option Nat
 |none=>some d
 |some (.int _ i)=>bif decide (0<=i) && decide (i<=top)then some i.toNat else none
 |_=>none
theorem tO{P:Program}{μ:Mu}{top top':Nat}{v v':Value}{k:Nat}{code:BoundsCode}(h:Et 0 top (some v)=some k)(hv:VR μ v v')(ht:top<=top')(w:World):(Instr.sliceBound v' top' code).run P w=.ok k w/\k<=top:=by
 unfold Et at h;split at h
 ·cases ‹_=none›
 ·rename_i k0 i heq;cases heq;cases hc:(decide (0<=i) && decide (i<=top))with
  |false=>rw[hc]at h;cases h
  |true=>
   rw[hc]at h;simp only[cond_true,YO]at h;subst h;simp only[YB,decide_eq_true_eq]at hc;cases hv;refine⟨?_,by omega⟩;simp only[Instr.sliceBound,Sem.run_bind,asIntOf,Sem.run_pure,Result.andThen_ok];rw[if_pos ⟨hc.1,by omega⟩];rfl
 ·cases h
def yF(n:Nat)(lo hi:Option Value):Option (Nat×Nat):=
 match Et n n hi with
 |some h=>match Et 0 h lo with
  |some l=>some (l,h)
  |none=>none
 |none=>none
def OVR(μ:Mu):Option Value->Option Value->Prop
 |none,none=>True
 |some v,some v'=>VR μ v v'
 |_,_=>False
theorem oX{P:Program}{μ:Mu}{n c l h:Nat}{lo hi lo' hi':Option Value}{sl:Bool}(hb:yF n lo hi=some (l,h))(hlo:OVR μ lo lo')(hhi:OVR μ hi hi')(hc:n<=c)(w:World):
 (Instr.sliceBounds sl n c lo' hi' none).run P w=.ok (l,h,c) w/\l<=h/\h<=n:=by
 unfold yF at hb;cases h1:Et n n hi with
 |none=>rw[h1]at hb;cases hb
 |some h0=>
  rw[h1]at hb;dsimp only at hb;cases h2:Et 0 h0 lo with
  |none=>rw[h2]at hb;cases hb
  |some l0=>
   rw[h2]at hb;simp only[YO,YR]at hb;obtain⟨rfl,rfl⟩:=hb;cases hi with
   |none=>
    cases hi' with
    |some _=>exact hhi.elim
    |none=>
     simp only[Et,YO]at h1;subst h1;cases lo with
     |none=>
      cases lo' with
      |some _=>exact hlo.elim
      |none=>
       simp only[Et,YO]at h2;subst h2;exact⟨by simp[Instr.sliceBounds],by omega,by omega⟩
     |some v=>
      cases lo' with
      |none=>exact hlo.elim
      |some v'=>
       have hr:=fun code=>tO (P:=P) (code:=code) h2 hlo (Lw _) w
       exact⟨by simp[Instr.sliceBounds,(hr _).1],(hr .index).2,by omega⟩
   |some u=>
    cases hi' with
    |none=>exact hhi.elim
    |some u'=>
     have h1':Et 0 n (some u)=some h0:=by cases u <;> first|exact h1|(simp[Et]at h1)
     have hru:=fun code=>tO (P:=P) (code:=code) h1' hhi hc w
     cases lo with
     |none=>
      cases lo' with
      |some _=>exact hlo.elim
      |none=>
       simp only[Et,YO]at h2;subst h2;exact⟨by simp[Instr.sliceBounds,(hru _).1],by omega,(hru .index).2⟩
     |some v=>
      cases lo' with
      |none=>exact hlo.elim
      |some v'=>
       have hr:=fun code=>tO (P:=P) (code:=code) h2 hlo (Lw _) w
       exact⟨by simp[Instr.sliceBounds,(hr _).1,(hru _).1],(hr .index).2,(hru .index).2⟩
def bc(P:Program)(t:TypeId)(x:Value)(lo hi:Option Value):Option Value:=
 match x,JN P t with
 | .slice (some ⟨b,off,none⟩) n s,some (.slice e)=>match W5 P e with
   |some (z+1)=>match yF n lo hi with
    |some (l,h)=>bif Lf l 0 then some (.slice (some ⟨b,off,none⟩) h s)else bif Ll l n then some (.slice (some ⟨b,off+l*(z+1),none⟩) (h-l) 0)else none
    |none=>none
   |_=>none
 | .pointer (some ⟨b,off,none⟩),some (.array n e)=>match W5 P e with
   |some z=>match yF n lo hi with
    |some (l,h)=>bif LI n maxLen then some (.slice (some ⟨b,bif Lf n l then off else off+l*z,none⟩) (h-l) 0)else none
    |none=>none
   |none=>none
 |_,_=>none
theorem oR{P:Program}{μ:Mu}{t:TypeId}{x x' v:Value}{lo hi lo' hi':Option Value}(h:bc P t x lo hi=some v)(hx:VR μ x x')(hlo:OVR μ lo lo')(hhi:OVR μ hi hi')(w:World):
 ∃v',(Instr.sliceAt t x' lo' hi' none).run P w=.ok v' w/\VR μ v v':=by
 unfold bc at h;simp only[Zw]at h;split at h
 ·rename_i b off n s e hu;split at h
  ·rename_i z hz;split at h
   ·rename_i l hh hb;cases hx with
    |slice har h1 h2 h3=>
     rename_i a' c';obtain⟨im,QD,_,rfl⟩:=har;obtain⟨hr,hl1,hl2⟩:=oX (P:=P) (sl:=true) hb hlo hhi h1 w;have Ub:(Instr.sliceAt t (.slice (some ⟨im.Zq,im.off+off,none⟩) n c') lo' hi' none).run P w=.ok (.slice (if c'=l then some ⟨im.Zq,im.off+off,none⟩else some ⟨im.Zq,im.off+off+l*(z+1),none⟩) (hh-l) (c'-l)) w:=by
      simp only[Instr.sliceAt,Instr.slice,Sem.run_bind,run_underlying hu,Result.andThen_ok,hr,Zj hz,Sem.run_pure,LG,WB]
     cases hl0:Lf l 0 with
     |true=>
      have e0:=YE hl0;subst e0;rw[hl0]at h;simp only[cond_true,YO]at h;subst h;refine⟨_,Ub, ?_⟩;simp only[Nat.zero_mul,Nat.add_zero,ite_self,Nat.sub_zero];exact .slice ⟨im,QD,rfl,rfl⟩ (by omega) h2 h3
     |false=>
      rw[hl0]at h;simp only[cond_false]at h;cases hln:Ll l n with
      |false=>rw[hln]at h;cases h
      |true=>
       rw[hln]at h;simp only[cond_true,YO]at h;subst h;have Xi:l<n:=YL hln;refine⟨_,Ub, ?_⟩;rw[if_neg (by omega)];exact .slice ⟨im,QD,rfl,by simp[Nat.add_assoc]⟩ (by omega) (by omega) (fun hs=>absurd rfl hs)
   ·cases h
  ·cases h
 ·rename_i b off n e hu;split at h
  ·rename_i z hz;split at h
   ·rename_i l hh hb;cases hm:LI n maxLen with
    |false=>rw[hm]at h;cases h
    |true=>
     rw[hm]at h;simp only[cond_true,YO]at h;subst h;have hm:=YL hm;cases hx with
     |ptr har=>
      obtain⟨im,QD,_,rfl⟩:=har;obtain⟨hr,hl1,hl2⟩:=oX (P:=P) (sl:=false) hb hlo hhi (Lw n) w;refine⟨.slice (some (if n=l then⟨im.Zq,im.off+off,none⟩else⟨im.Zq,im.off+off+l*z,none⟩)) (hh-l) (n-l), ?_, ?_⟩
      ·simp only[Instr.sliceAt,Instr.sureAddr,Sem.run_bind,run_underlying hu,Result.andThen_ok,Sem.run_pure,hr,Zj hz,WB]
      ·by_cases e0:n=l
       ·have:Lf n l=true:=by simp[e0]
        simp only[this,cond_true,if_pos e0];exact .slice ⟨im,QD,rfl,rfl⟩ (by omega) (by omega) (fun hs=>absurd rfl hs)
       ·have:Lf n l=false:=TE e0;simp only[this,cond_false,if_neg e0];exact .slice ⟨im,QD,rfl,by simp[Nat.add_assoc]⟩ (by omega) (by omega) (fun hs=>absurd rfl hs)
   ·cases h
  ·cases h
 ·cases h
def lo0:Option Value->Bool
 |none=>true
 |some (.int _ (.ofNat 0))=>true
 |_=>false
def cm(P:Program)(t:TypeId)(x:Option Value)(lo:Option (Option Value))(hi mx:Option Value):Bool:=match x,JN P t,lo,hi,mx with
 |some (.slice (some _) _ _),some (.slice e),some l,some (.int _ (.ofNat 0)),some (.int _ (.ofNat 0))=>(W5 P e).isSome && lo0 l
 |_,_,_,_,_=>false
theorem jl{P:Program}{μ:Mu}{t:TypeId}{x:Option Value}{lo:Option (Option Value)}{hi mx:Option Value}(h:cm P t x lo hi mx=true):
 ∃xv l hv mv,x=some xv/\lo=some l/\hi=some hv/\mx=some mv/\∀{x':Value} {lo':Option Value} {hi' mx':Value},VR μ xv x'->OVR μ l lo'->VR μ hv hi'->VR μ mv mx'->∀w,∃v',(Instr.sliceAt t x' lo' (some hi') (some mx')).run P w=.ok v' w/\VR μ aP v':=by
 unfold cm at h;simp only[Zw]at h;split at h
 ·rename_i a m s e l k1 k2 hu;simp only[YB]at h;obtain⟨h1,h2⟩:=h;cases hz:W5 P e with
  |none=>rw[hz]at h1;cases h1
  |some z=>
   refine⟨_,_,_,_,rfl,rfl,rfl,rfl,fun {x' lo' hi' mx'} hx hlo hhi hmx w=> ?_⟩;have hsl:∃a' n' c',x'=.slice a' n' c':=by cases hx <;> exact⟨_,_,_,rfl⟩
   obtain⟨a',n',c',rfl⟩:=hsl;cases hhi;cases hmx;have hl0:lo'=none\/∃k,lo'=some (.int k 0):=by
    unfold lo0 at h2;split at h2
    ·cases lo' with
     |none=>exact .inl rfl
     |some _=>exact hlo.elim
    ·cases lo' with
     |none=>exact hlo.elim
     |some u=>cases hlo;exact .inr ⟨_,rfl⟩
    ·cases h2
   refine⟨.slice (if 0=0 then a' else a'.map (·.add (0*z))) (0-0) (0-0), ?_,.noCap⟩;rcases hl0 with rfl|⟨k,rfl⟩ <;>
    simp[Instr.sliceAt,Instr.slice,Instr.sliceBounds,Instr.sliceBound,asIntOf,Sem.run_bind,run_underlying hu,Result.andThen_ok,Zj hz,Sem.run_pure]
 ·cases h
end Go.CE

namespace Go.CE
open Go Go.RowKit

def TH(H:Qm):Option Nat->Qm
 |none=>H
 |some k=>VE H k (.pending #[] 0)
theorem U7(H:Qm)(ko:Option Nat)(i:Nat):Qq (TH H ko) i=if(∃k,ko=some k/\i=k)/\(Qq H i).isSome then some (.pending #[] 0)else Qq H i:=by
 cases ko with
 |none=>simp[TH]
 |some k=>
  simp only[TH,cg];by_cases e:i=k
  ·subst e;simp
  ·simp[e]
theorem U6{H:Qm}{ko:Option Nat}{i:Nat}{o:Obj}(h:Qq (TH H ko) i=some o)(hl:live o):Qq H i=some o/\∀k,ko=some k->i≠k:=by
 rw[U7]at h;split at h
 ·cases h;exact hl.elim
 ·rename_i hn;refine⟨h,fun k hk e=>hn ⟨⟨k,hk,e⟩,by rw[h];rfl⟩⟩
theorem gU{B:Nat}{S:Nat->Prop}{n:Nat}{μ:Mu}{H:Qm}{w w':World}(Q7:Ok B S μ (Qq H) w)(hS:∀i,S i->i<n)(hf:μ n=none)(ko:Option Nat)
 (hk:∀k,ko=some k->S k/\(∃o,Qq H k=some o/\live o)/\∃im,μ k=some im/\im.rw=true) (g cap:Nat) (o2:Obj) (hB:B<=g) (Xi:g<w'.heap.size)
 (hg:w.heap.size<=g\/∃k im,ko=some k/\μ k=some im/\im.Zq=g) (hgrow:w.heap.size<=w'.heap.size)
 (hother:∀b,b<w.heap.size->(∀k im,ko=some k->μ k=some im->im.Zq≠b)->w'.heap[b]? =w.heap[b]?) (ZQ:OR (upd μ n ⟨g,0,cap,true,TN⟩) w' ⟨g,0,cap,true,TN⟩ o2)
 (hstr:w'.os=w.os/\w'.tape=w.tape/\w'.output=w.output):Post B S n (n+1) ko.toList μ (upd μ n ⟨g,0,cap,true,TN⟩) H ((n,o2)::TH H ko) w w':=by
 have Kz:∀i,S i->i≠n:=fun i hi=>by have:=hS i hi;omega
 have PR:∀i,S i->upd μ n ⟨g,0,cap,true,TN⟩ i=μ i:=fun i hi=>by simp[upd,Kz i hi]
 have hgt:∀i,S i->Qq ((n,o2)::TH H ko) i=Qq (TH H ko) i:=fun i hi=>by rw[QU,if_neg (Kz i hi)]
 have UQ:Qq ((n,o2)::TH H ko) n=some o2:=by rw[QU,if_pos rfl]
 have apart:∀i x a,S i->Qq H i=some x->live x->μ i=some a->(∀k,ko=some k->i≠k)->a.Zq≠g/\∀k im,ko=some k->μ k=some im->im.Zq≠a.Zq:=by
  intro i x a hi hx hl ha hik;have hlow:=Q7.low i x a hi hx hl ha;have hko:∀k im,ko=some k->μ k=some im->im.Zq≠a.Zq:=by
   intro k im e QD;obtain⟨hSk,⟨ok,hok',hlk⟩,Z4,QO,hr⟩:=hk k e;rw[QD]at QO;cases QO;by_cases hra:a.rw=true
   ·exact Q7.inj k i ok x im a hSk hi (Ne.symm (hik k e)) hok' hx hlk hl QD ha hr hra
   ·have h1:=hlow.2.2 (by simpa using hra);have h2:=(Q7.low k ok im hSk hok' hlk QD).2.1 hr;omega
  refine⟨?_,hko⟩;rcases hg with hg|⟨k,im,e,QD,hb⟩
  ·have:=hlow.1;omega
  ·have:=hko k im e QD;omega
 refine⟨⟨fun i x hi hx hl=> ?_,fun i x im hi hx hl hm=> ?_,fun i j x y a b hi hj Rm hx hy hlx hly ha hb hra WG=> ?_,fun i x hi hx hr=> ?_,fun i j x y a b u hi hj hx hy hrx hly ha hb WG hu=> ?_⟩,by omega,fun i hi=> ?_,fun i hi hw=> ?_,hgrow,fun b hb hw=> ?_,fun i hi hn=> ?_,
  fun i im x h1 h2 hx hl hm=> ?_,fun i im x hi hx hr=> ?_,hstr.1,hstr.2.1,hstr.2.2⟩
 ·rcases hi with hi|hi
  ·rw[hgt i hi]at hx;obtain⟨hx,hik⟩:=U6 hx hl;obtain⟨im,QD,hr⟩:=Q7.rel i x hi hx hl;exact⟨im,by rw[PR i hi];exact QD,hr.keep (KM hf) (hother _ (Q7.low i x im hi hx hl QD).1 (apart i x im hi hx hl QD hik).2)⟩
  ·obtain rfl:i=n:=by omega
   rw[UQ]at hx;cases hx;exact⟨_,Xy,ZQ⟩
 ·rcases hi with hi|hi
  ·rw[hgt i hi]at hx;obtain⟨hx,hik⟩:=U6 hx hl;rw[PR i hi]at hm;have:=Q7.low i x im hi hx hl hm;exact⟨by omega,this.2⟩
  ·obtain rfl:i=n:=by omega
   rw[Xy]at hm;cases hm;exact⟨Xi,fun _=>hB,fun h=>by cases h⟩
 ·rcases hi with hi|hi <;> rcases hj with hj|hj
  ·rw[hgt i hi]at hx;rw[hgt j hj]at hy;rw[PR i hi]at ha;rw[PR j hj]at hb;exact Q7.inj i j x y a b hi hj Rm (U6 hx hlx).1 (U6 hy hly).1 hlx hly ha hb hra WG
  ·obtain rfl:j=n:=by omega
   rw[hgt i hi]at hx;obtain⟨hx,hik⟩:=U6 hx hlx;rw[PR i hi]at ha;rw[Xy]at hb;cases hb;exact(apart i x a hi hx hlx ha hik).1
  ·obtain rfl:i=n:=by omega
   rw[hgt j hj]at hy;obtain⟨hy,hjk⟩:=U6 hy hly;rw[PR j hj]at hb;rw[Xy]at ha;cases ha;exact Ne.symm (apart j y b hj hy hly hb hjk).1
  ·omega
 ·rcases hi with hi|hi
  ·rw[hgt i hi,U7]at hx;split at hx
   ·cases hx;exact hr.elim
   ·obtain⟨im,QD,h⟩:=Q7.Jv i x hi hx hr;refine⟨im,by rw[PR i hi];exact QD,fun b u hu=> ?_⟩;rw[hother b (Jx Q7 hi hx hr QD hu) fun k Z4 e QO hb=> ?_]
    ·exact h b u hu
    ·obtain⟨hSk,⟨ok,hok',hlk⟩,im'',WY,hrk⟩:=hk k e;rw[QO]at WY;cases WY;exact Q7.sep i k x ok im Z4 u hi hSk hx hok' hr hlk QD QO hrk (by rw[hb];exact hu)
  ·obtain rfl:i=n:=by omega
   rw[UQ]at hx;cases hx;exact(Yf ZQ hr).elim
 ·rcases hi with hi|hi
  ·rw[hgt i hi,U7]at hx;rw[PR i hi]at ha;split at hx
   ·cases hx;exact hrx.elim
   ·rcases hj with hj|hj
    ·rw[hgt j hj]at hy;obtain⟨hy,_⟩:=U6 hy hly;rw[PR j hj]at hb;exact Q7.sep i j x y a b u hi hj hx hy hrx hly ha hb WG hu
    ·obtain rfl:j=n:=by omega
     rw[Xy]at hb;cases hb;simp only at hu;rcases hg with hg|⟨k,Z4,e,QO,hb'⟩
     ·have:=Jx Q7 hi hx hrx ha hu;omega
     ·obtain⟨hSk,⟨ok,hok',hlk⟩,im'',WY,hrk⟩:=hk k e;rw[QO]at WY;cases WY;exact Q7.sep i k x ok a Z4 u hi hSk hx hok' hrx hlk ha QO hrk (by rw[hb'];exact hu)
  ·obtain rfl:i=n:=by omega
   rw[UQ]at hx;cases hx;exact Yf ZQ hrx
 ·simp only[upd];rw[if_neg (by omega)]
 ·rw[QU,if_neg (by omega),U7,if_neg];rintro⟨⟨k,rfl,rfl⟩,_⟩;exact hw (by simp)
 ·refine hother b hb fun k im e QD=> ?_
  have:=hk k e;exact hw k (by simp[e]) (hS k this.1) im QD
 ·have e:ko=some i:=by cases ko <;> simp_all
  exact hk i e
 ·obtain rfl:i=n:=by omega
  rw[Xy]at hm;cases hm;refine⟨rfl, ?_⟩;rcases hg with hg|⟨k,Z4,e,QD,hb⟩
  ·exact .inl hg
  ·refine .inr ⟨k,by simp[e],hS k (hk k e).1,⟨Z4,QD,hb⟩,fun o ho hlo=> ?_⟩;rw[QU,if_neg (Kz k (hk k e).1)]at ho;exact(U6 ho hlo).2 k e rfl
 ·rcases hi with hi|hi
  ·obtain rfl:i=n:=by omega
   rw[UQ]at hx;cases hx;exact(Yf ZQ hr).elim
  ·have e:ko=some i:=by cases ko <;> simp_all
   rw[QU,if_neg (by omega),U7]at hx;split at hx
   ·cases hx;exact hr.elim
   ·rename_i hn;exact absurd ⟨⟨i,e,rfl⟩,by rw[hx];rfl⟩ hn

def R8(H:Qm)(e:TypeId)(z:Nat):Value->Option (Array Value×Nat×Option Nat)
 | .slice none 0 0=>some (#[],0,none)
 | .slice (some ⟨b,0,none⟩) n s=>match Qq H b with
   |some (.cells cs te (0,0))=>bif Lf te e && Lf s z && Lf cs.size (n*z)then some (cs,n,some b)else
    bif Lf te e && Lf s z && LI (n*z) cs.size then some (cs.extract 0 (n*z),n,some b)else none
   |_=>none
 |_=>none
def mR(H:Qm)(z:Nat):Value->Option (Array Value×Nat×Nat)
 | .slice (some ⟨b,off,none⟩) m _=>match Qq H b with
   |some (.cells cs _ _)=>bif LI (off+m*z) cs.size then some (cs.extract off (off+m*z),m,b)else none
   |_=>none
 |_=>none
def Ue(P:Program)(t:TypeId)(H:Qm)(n:Nat)(s x:Value):Option CR:=
 match JN P t with
 |some (.slice e)=>match inf P e with
  |some i=>match i.zero,i.size with
   |some zv,z+1=>match R8 H e (z+1) s,mR H (z+1) x with
    |some (cs,k,ko),some (ns,m,b)=>
     bif ones ns && Lf zv.cells.size (z+1) && LI (k+m) maxLen && LI ((k+m)*i.bytes) 140737488355328 && Ll 0 m then
      some ⟨.val (.slice (some ⟨n,0,none⟩) (k+m) (z+1)),(n,.cells (cs++ns) e (0,0))::TH H ko,n+1,b::ko.toList,ko.toList⟩else none
    |_,_=>none
   |_,_=>none
  |none=>none
 |_=>none
theorem OR.cellsAt{μ:Mu}{w:World}{im:c7}{cs:Array Value}{t:TypeId}{fz:Nat×Nat}(h:OR μ w im (.cells cs t fz)){off s:Nat}(hle:off+s<=cs.size):
 ∃xs:List Value,xs.length=s/\(∀(j:Nat) u,xs[j]? =some u->w.cell? ((⟨im.Zq,im.off+off,none⟩:Addr).add j)=some u)/\VRs μ (cs.extract off (off+s)) xs.toArray:=by
 let f:Nat->Value:=fun j=>(w.cell? ⟨im.Zq,im.off+(off+j),none⟩).getD undef
 have hf:∀j,j<s->∃v,cs[off+j]? =some v/\w.cell? ⟨im.Zq,im.off+(off+j),none⟩=some (f j)/\VR μ v (f j):=by
  intro j hj;have Xi:off+j<cs.size:=by omega
  obtain⟨v',a,b⟩:=h.cell (i:=off+j) (v:=cs[off+j]) (by simp[Xi]);exact⟨cs[off+j],by simp[Xi],by simp[f,a],by simpa[f,a]using b⟩
 refine⟨(Le s).map f,by simp,fun j u hu=> ?_,by simp;omega,fun i v v' hv ZW=> ?_⟩
 ·rw[Lx]at hu;by_cases hj:j<s
  ·obtain⟨_,_,hc,_⟩:=hf j hj;rw[List.getElem?_range hj]at hu;simp only[LG,YO]at hu;rw[WB,Nat.add_assoc,hc,hu]
  ·rw[LA (by simp;omega)]at hu;cases hu
 ·rw[LX]at hv;split at hv
  ·rename_i Xi;obtain⟨u,hu,_,Vp⟩:=hf i (by omega);rw[hu]at hv;cases hv;have hi:i<s:=by omega
   simp[hi]at ZW;rw[<-ZW];exact Vp
  ·cases hv
theorem oA{H:Qm}{e:TypeId}{z b n s0:Nat}{cs0:Array Value}{te:TypeId}{cs:Array Value}{k:Nat}{ko:Option Nat}(hg:Qq H b=some (.cells cs0 te (0,0)))(h:R8 H e z (.slice (some ⟨b,0,none⟩) n s0)=some (cs,k,ko)):
 te=e/\s0=z/\n*z<=cs0.size/\cs=cs0.extract 0 (n*z)/\k=n/\ko=some b:=by
 simp only[R8,hg]at h;cases h1:(Lf te e && Lf s0 z && Lf cs0.size (n*z))with
 |true=>
  rw[h1]at h;simp only[cond_true,YO,YR]at h;simp only[YB]at h1;have e3:=YE h1.2;exact⟨YE h1.1.1,YE h1.1.2,by omega,by rw[<-h.1,<-e3];simp,h.2.1.symm,h.2.2.symm⟩
 |false=>
  rw[h1]at h;simp only[cond_false]at h;cases h2:(Lf te e && Lf s0 z && LI (n*z) cs0.size)with
  |false=>rw[h2]at h;cases h
  |true=>
   rw[h2]at h;simp only[cond_true,YO,YR]at h;simp only[YB]at h2;exact⟨YE h2.1.1,YE h2.1.2,YL h2.2,h.1.symm,h.2.1.symm,h.2.2.symm⟩
theorem Aq{B:Nat}{S:Nat->Prop}{μ:Mu}{H:Qm}{w:World}{e:TypeId}{z:Nat}{s s':Value}{cs:Array Value}{k:Nat}{ko:Option Nat}(h:R8 H e (z+1) s=some (cs,k,ko))(Q7:Ok B S μ (Qq H) w)(hs:VR μ s s')(hko:∀b∈ko.toList,S b):
 ∃xs:List Value,w.ownsRow B e (z+1) s' k xs/\VRs μ cs xs.toArray/\(∀b,ko=some b->S b/\(∃o,Qq H b=some o/\live o)/\∃im,μ b=some im/\im.rw=true/\s'.ownBlock=some im.Zq)/\(ko=none->s'.ownBlock=none):=by
 have h':=h;unfold R8 at h';split at h'
 ·simp only[YO,YR]at h';obtain⟨rfl,rfl,rfl⟩:=h';cases hs;exact⟨[],⟨by simp,.inl ⟨rfl,rfl⟩⟩,⟨rfl,fun i v v' hv _=>by simp at hv⟩,fun b hb=>by simp at hb,fun _=>rfl⟩
 ·rename_i b n s0;split at h'
  ·rename_i cs0 te hg;obtain⟨rfl,rfl,e3,rfl,rfl,rfl⟩:=oA hg h;have hb:S b:=hko b (by simp);obtain⟨im,QD,ZQ⟩:=Q7.rel b _ hb hg trivial;cases hs with
   |slice har h1 h2 h3=>
    rename_i c';obtain⟨Z4,QO,_,rfl⟩:=har;simp only at QO;rw[QD]at QO;cases QO;rcases ZQ with ⟨_,hr,ho,arr,ha,hle,hcap,hcc⟩|⟨hz,_⟩
    ·have hce:=h3 (by omega) im QD hr rfl;refine⟨arr.toList.take (k*(z+1)),⟨by simp;omega,.inr ⟨im.Zq,c',arr,by simp[ho],(Q7.low b _ im hb hg trivial QD).2.1 hr,ha,h1,h2,by omega,rfl⟩⟩,⟨by simp;omega,fun i v v' hv ZW=> ?_⟩,fun b' hb'=> ?_,fun h=>by cases h⟩
     ·rw[LX]at hv;split at hv
      ·rename_i hi;rw[Lv]at hv;obtain⟨u,hu,Vp⟩:=hcc i v hv;simp only[LU]at ZW;rw[L6 (by omega)]at ZW;simp only[Lm]at ZW;rw[hu]at ZW;cases ZW;exact Vp
      ·cases hv
     ·cases hb';exact⟨hb,⟨_,hg,trivial⟩,im,QD,hr,rfl⟩
    ·exact absurd rfl hz
  ·cases h'
 ·cases h'
theorem jn{P:Program}{B n:Nat}{S:Nat->Prop}{μ:Mu}{H:Qm}{w:World}{t ty:TypeId}{s x s' x':Value}{r:CR}(h:Ue P t H n s x=some r)(Q7:Ok B S μ (Qq H) w)(hB:B<=w.heap.size)(hS:∀i,S i->i<n)
 (hf:μ n=none) (hs:VR μ s s') (hx:VR μ x x') (hR:∀i∈r.R,S i):
 ∃v v' w' μ',(Builtin.append_ #[t,t] ty #[s',x']).run P w=.ok v' w'/\Post B S n r.n r.W μ μ' H r.H w w'/\r.nx=.val v/\VR μ' v v'/\r.n=n+1:=by
 unfold Ue at h;simp only[Zw,J1]at h;split at h
 ·rename_i e hu;split at h
  ·rename_i i hi;split at h
   ·rename_i zv z hz Zi;split at h
    ·rename_i cs k ko ns m b hh hn;cases hc:(ones ns && Lf zv.cells.size (z+1) && LI (k+m) maxLen && LI ((k+m)*i.bytes) 140737488355328 && Ll 0 m)with
     |false=>rw[hc]at h;cases h
     |true=>
      rw[hc]at h;simp only[cond_true,YO]at h;subst h;simp only[YB]at hc;obtain⟨⟨⟨⟨c1,c2⟩,c3⟩,c4⟩,c5⟩:=hc;have c2:=YE c2;have c3:=YL c3;have c4:=YL c4;have c5:0<m:=YL c5;obtain⟨xs,hown,hxs,hk1,hk2⟩:=Aq hh Q7 hs (fun b hb=>hR b (by simp[hb]));unfold mR at hn;split at hn
      ·rename_i b2 off m0 s2;split at hn
       ·rename_i cs2 te2 fz2 hg2;cases hle:LI (off+m0*(z+1)) cs2.size with
        |false=>rw[hle]at hn;cases hn
        |true=>
         rw[hle]at hn;simp only[cond_true,YO,YR]at hn;obtain⟨rfl,rfl,rfl⟩:=hn;have hle:=YL hle;have hb2:S b2:=hR b2 (by simp);obtain⟨im2,Wz,hor2⟩:=Q7.rel b2 _ hb2 hg2 trivial;cases hx with
         |slice har h1 h2 h3=>
          obtain⟨Z4,QO,_,rfl⟩:=har;simp only at QO;rw[Wz]at QO;cases QO;obtain⟨news,hnl,hnc,hnv⟩:=hor2.cellsAt hle;obtain⟨v',w',Ub,hown',hgr,_,hob⟩:=run_append_own_at (P:=P) w B t ty e i zv (z+1) i.bytes hu hi hz Zi rfl c2 (by omega) s' k xs hown _ m0 _ news hnl hnc (hnv.ones c1) c3 c4 hB;have hxl:xs.length=k*(z+1):=hown.1;rcases hown'.2 with ⟨_,hh0⟩|⟨g,cap,cur,rfl,hBg,hgc,hcap1,hcap2,hcs,htk⟩
          ·omega
          ·have hgl:g<w'.heap.size:=(Array.getElem?_eq_some_iff.1 hgc).1;have hob:some g=s'.ownBlock\/some g=some w.heap.size:=hob;have hcsz:cs.size=xs.length:=by have:=hxs.1;simpa using this
           have hnsz:(cs2.extract off (off+m0*(z+1))).size=news.length:=by have:=hnv.1;simpa using this
           refine⟨_,_,_,_,Ub,gU Q7 hS hf ko (fun b hb=>let⟨a,c,im,d,f,_⟩:=hk1 b hb;⟨a,c,im,d,f⟩) g cur.size _ hBg hgl ?_ hgr.size ?_ (.ofCells hgc ?_ rfl fun j v hv=> ?_) ⟨hgr.os,hgr.tape,hgr.output⟩,rfl, ?_,rfl⟩
           ·cases ko with
            |none=>
             rw[hk2 rfl]at hob;rcases hob with hob|hob
             ·cases hob
             ·simp only[YO]at hob;exact .inl (by omega)
            |some b=>
             obtain⟨_,_,im,d,_,f⟩:=hk1 b rfl;rw[f]at hob;rcases hob with hob|hob
             ·simp only[YO]at hob;exact .inr ⟨b,im,rfl,d,hob.symm⟩
             ·simp only[YO]at hob;exact .inl (by omega)
           ·intro q hq Kz;refine hgr.block q hq fun e0=> ?_
            cases ko with
            |none=>rw[hk2 rfl]at e0;cases e0
            |some b=>
             obtain⟨_,_,im,d,_,f⟩:=hk1 b rfl;rw[f]at e0;simp only[YO]at e0;exact Kz b im rfl d e0.symm
           ·rw[Array.size_append,hcsz,hnsz,hxl,hnl,<-Nat.add_mul,hcs];exact Nat.mul_le_mul_right _ hcap1
           ·have hj:j<(k+m0)*(z+1):=by
             have:=(Array.getElem?_eq_some_iff.1 hv).1;rw[Array.size_append,hcsz,hnsz,hxl,hnl,<-Nat.add_mul]at this;exact this
            have hcur:cur[j]? =(xs++news)[j]? :=by
             rw[<-htk,L6 hj];simp
            rw[hcur];rw[Array.getElem?_append]at hv;split at hv
            ·rename_i Xi;obtain⟨u,hu',Vp⟩:=hxs.get hv;rw[Lz (by omega)];exact⟨u,by simpa using hu',Vp.mono (KM hf)⟩
            ·rename_i Xi;obtain⟨u,hu',Vp⟩:=hnv.get hv;rw[Lp (by omega)];exact⟨u,by rw[<-hcsz];simpa using hu',Vp.mono (KM hf)⟩
           ·refine .slice ⟨_,Xy,rfl,rfl⟩ hcap1 hcap2 (fun _ im QD _ _=> ?_);rw[show upd μ n ⟨g,0,cur.size,true,TN⟩ n=some _ from Xy]at QD;cases QD;exact hcs.symm
       ·cases hn
      ·cases hn
    ·cases h
   ·cases h
  ·cases h
 ·cases h

def bare:Value->Value
 | .chan (some 0)=>.slice none 0 0
 |v=>v
theorem jr{P:Program}{t e ty:TypeId}{i:TypeInfo}{z:Value}(hu:P.underlying t=some (.slice e))(hi:P.info? e=some i)(hz:i.zero=some z)(w:World)(b a:Addr)(m c:Nat)(news:List Value)(hl:news.length=m*i.size)(hn:∀j u,news[j]? =some u->w.cell? (a.add j)=some u)
 (h0:0<m) (h1:m<=maxLen) (h2:m*i.bytes<=140737488355328):
 (Builtin.append_ #[t,t] ty #[.slice (some b) 0 0,.slice (some a) m c]).run P w=(Builtin.append_ #[t,t] ty #[.slice none 0 0,.slice (some a) m c]).run P w:=by
 have hsm:(m:Int)<=9223372036854775807:=by simp only[maxLen]at h1;omega
 rw[run_append_nil (P:=P) w t ty e i z hu hi hz a m c news hl hn h0 hsm (by omega),
  run_append_grow (P:=P) w t ty e i z hu hi hz b 0 0 [] (by simp) (fun j v h=>by simp at h) a m c news hl hn (by omega) (by omega) (growslice_fits (by omega) (by rw[Lv];exact h2))]
 simp
theorem tN{P:Program}{B n:Nat}{S:Nat->Prop}{μ:Mu}{H:Qm}{w:World}{t ty:TypeId}{s x s' x':Value}{r:CR}(h:Ue P t H n (bare s) x=some r)(Q7:Ok B S μ (Qq H) w)(hB:B<=w.heap.size)(hS:∀i,S i->i<n)
 (hf:μ n=none) (hs:VR μ s s') (hx:VR μ x x') (hR:∀i∈r.R,S i):
 ∃v v' w' μ',(Builtin.append_ #[t,t] ty #[s',x']).run P w=.ok v' w'/\Post B S n r.n r.W μ μ' H r.H w w'/\r.nx=.val v/\VR μ' v v'/\r.n=n+1:=by
 by_cases hb:s=aP
 ·subst hb;cases hs;rename_i a;have hh:Ue P t H n (.slice none 0 0) x=some r:=h;obtain⟨v,v',w',μ',hr,k⟩:=jn (ty:=ty) hh Q7 hB hS hf (.P9 0 0) hx hR;refine⟨v,v',w',μ', ?_,k⟩;cases a with
  |none=>exact hr
  |some a=>
   rw[<-hr];unfold Ue at hh;simp only[Zw,J1]at hh;split at hh
   ·rename_i e hu;split at hh
    ·rename_i i hi;split at hh
     ·rename_i zv z hz Zi;split at hh
      ·rename_i cs k0 ko ns m b hhd hn;simp only[R8,YO,YR]at hhd;obtain⟨rfl,rfl,rfl⟩:=hhd;cases hc:(ones ns && Lf zv.cells.size (z+1) && LI (0+m) maxLen && LI ((0+m)*i.bytes) 140737488355328 && Ll 0 m)with
       |false=>rw[hc]at hh;cases hh
       |true=>
        rw[hc]at hh;simp only[cond_true,YO]at hh;subst hh;simp only[YB]at hc;obtain⟨⟨⟨⟨c1,c2⟩,c3⟩,c4⟩,c5⟩:=hc;have c3:=YL c3;have c4:=YL c4;have c5:0<m:=YL c5;rw[Lv]at c3 c4;unfold mR at hn;split at hn
        ·rename_i b2 off m0 s2;split at hn
         ·rename_i cs2 te2 fz2 hg2;cases hle:LI (off+m0*(z+1)) cs2.size with
          |false=>rw[hle]at hn;cases hn
          |true=>
           rw[hle]at hn;simp only[cond_true,YO,YR]at hn;obtain⟨rfl,rfl,rfl⟩:=hn;have hle:=YL hle;have hb2:S b2:=hR b2 (by simp);obtain⟨im2,Wz,hor2⟩:=Q7.rel b2 _ hb2 hg2 trivial;cases hx with
           |slice har h1 h2 h3=>
            obtain⟨Z4,QO,_,rfl⟩:=har;simp only at QO;rw[Wz]at QO;cases QO;obtain⟨news,hnl,hnc,hnv⟩:=hor2.cellsAt hle;exact jr hu hi hz w a _ m0 _ news (by rw[hnl,Zi]) hnc c5 c3 c4
         ·cases hn
        ·cases hn
      ·cases hh
     ·cases hh
    ·cases hh
   ·cases hh
 ·have e:bare s=s:=by
   unfold bare;split
   ·exact absurd rfl hb
   ·rfl
  rw[e]at h;exact jn h Q7 hB hS hf hs hx hR
def Og:Value->Bool
 | .slice none 0 0| .slice (some ⟨_,_,none⟩) 0 _| .chan (some 0)=>true
 |_=>false
def Of:Value->Bool
 | .slice none 0 0| .slice (some ⟨_,_,none⟩) _ _| .chan (some 0)=>true
 |_=>false
def B3(P:Program)(t:TypeId)(H:Qm)(n:Nat)(s x:Value):Option CR:=match JN P t with
 |some (.slice e)=>match W5 P e with
  |some _=>bif Og x && Of s then some ⟨.val s,H,n,[],[]⟩else none
  |none=>none
 |_=>none
theorem IB{μ:Mu}{x x':Value}(h:Og x=true)(hx:VR μ x x'):∃a c,x'=.slice a 0 c:=by
 unfold Og at h;split at h
 ·cases hx;exact⟨_,_,rfl⟩
 ·cases hx;exact⟨_,_,rfl⟩
 ·cases hx;exact⟨_,_,rfl⟩
 ·cases h
theorem IA{μ:Mu}{x x':Value}(h:Of x=true)(hx:VR μ x x'):∃a k c,x'=.slice a k c/\k<=c:=by
 unfold Of at h;split at h
 ·cases hx;exact⟨_,_,_,rfl,Lw _⟩
 ·cases hx with|slice _ h1=>exact⟨_,_,_,rfl,h1⟩
 ·cases hx;exact⟨_,_,_,rfl,Lw _⟩
 ·cases h
theorem js{P:Program}{t e ty:TypeId}{z:Nat}(hu:P.underlying t=some (.slice e))(hz:W5 P e=some z)(w:World)(a b:Option Addr)(k c d:Nat)(hk:k<=c):
 (Builtin.append_ #[t,t] ty #[.slice a k c,.slice b 0 d]).run P w=.ok (.slice a k c) w:=by
 cases a <;> cases b <;> simp[Builtin.append_,Sem.run_bind,run_underlying hu,Result.andThen_ok,Zj hz,Builtin.lenOf,Builtin.firstCells,Sem.run_pure,hk,storeCells,loadCells,loadCellsFrom]
theorem Es{P:Program}{μ:Mu}{H:Qm}{n:Nat}{w:World}{t ty:TypeId}{s x s' x':Value}{r:CR}(h:B3 P t H n s x=some r)(hs:VR μ s s')(hx:VR μ x x'):
 (Builtin.append_ #[t,t] ty #[s',x']).run P w=.ok s' w/\r=⟨.val s,H,n,[],[]⟩:=by
 unfold B3 at h;simp only[Zw]at h;split at h
 ·rename_i e hu;split at h
  ·rename_i z hz;cases hc:(Og x && Of s)with
   |false=>rw[hc]at h;cases h
   |true=>
    rw[hc]at h;simp only[cond_true,YO]at h;simp only[YB]at hc;obtain⟨b,d,rfl⟩:=IB hc.1 hx;obtain⟨a,k,c,rfl,hk⟩:=IA hc.2 hs;exact⟨js hu hz w a b k c d hk,h.symm⟩
  ·cases h
 ·cases h
def rr(P:Program)(t t':TypeId)(H:Qm)(n:Nat)(s x:Value):Option CR:=match JN P t,JN P t',s,x with
 |some (.slice e),some (.int _),.slice none 0 0,.int _ l=>match inf P e with
  |some i=>match i.zero,i.size with
   |some zv,z+1=>bif decide (0<l) && decide (l<=9223372036854775807) && LI (l.toNat*i.bytes) 140737488355328 && Lf zv.cells.size (z+1) && (Builtin.zeroCells zv.cells l.toNat).all simple then
    some ⟨.val (.slice (some ⟨n,0,none⟩) l.toNat (z+1)),(n,.cells (Builtin.zeroCells zv.cells l.toNat) e (0,0))::H,n+1,[],[]⟩else none
   |_,_=>none
  |none=>none
 |_,_,_,_=>none
theorem Er{P:Program}{B n:Nat}{S:Nat->Prop}{μ:Mu}{H:Qm}{w:World}{t t' ty:TypeId}{s x s' x':Value}{r:CR}(h:rr P t t' H n s x=some r)(Q7:Ok B S μ (Qq H) w)(hB:B<=w.heap.size)(hS:∀i,S i->i<n)
 (hf:μ n=none) (hs:VR μ s s') (hx:VR μ x x'):
 ∃v v' w' μ',(Builtin.append_ #[t,t'] ty #[s',x']).run P w=.ok v' w'/\Post B S n r.n r.W μ μ' H r.H w w'/\r.nx=.val v/\VR μ' v v'/\r.n=n+1:=by
 unfold rr at h;simp only[Zw,J1]at h;split at h
 ·rename_i e kn k l hu hu';split at h
  ·rename_i i hi;split at h
   ·rename_i zv z hz Zi;cases hc:(decide (0<l) && decide (l<=9223372036854775807) && LI (l.toNat*i.bytes) 140737488355328 && Lf zv.cells.size (z+1) && (Builtin.zeroCells zv.cells l.toNat).all simple)with
    |false=>rw[hc]at h;cases h
    |true=>
     rw[hc]at h;simp only[cond_true,YO]at h;subst h;simp only[YB,decide_eq_true_eq]at hc;obtain⟨⟨⟨⟨c1,c2⟩,c3⟩,c4⟩,c5⟩:=hc;have c3:=YL c3;have c4:=YE c4;cases hs;cases hx;obtain⟨m,rfl⟩:∃m:Nat,l=m:=⟨l.toNat,by omega⟩
     rw[LR]at c3 c5 ⊢;have hr:=Lib.run_append_nil_zeros (P:=P) w t t' ty e i zv k kn hu hu' hi hz m (by omega) (by omega) c2 (by omega);have PS:=grownCap_ge w m 0 e;have hcm:=grownCap_le_maxLen w m 0 e (by unfold maxLen;omega);have hsz0:(Builtin.zeroCells zv.cells m).size=m*(z+1):=by rw[size_zeroCells,c4]
     have harr:(Builtin.zeroCells zv.cells m++Builtin.zeroCells zv.cells (grownCap w m 0 e-m)).size=grownCap w m 0 e*(z+1):=by
      rw[Array.size_append,size_zeroCells,size_zeroCells,c4,<-Nat.add_mul];congr 1;omega
     refine⟨_,_,_,_,hr,gU Q7 hS hf none (fun _ h=>by cases h) w.heap.size (Builtin.zeroCells zv.cells m++Builtin.zeroCells zv.cells (grownCap w m 0 e-m)).size _ hB (by simp) (.inl (Lw _)) (by simp) (fun b hb _=>heap_alloc_old w.drew _ b hb) (.ofCells (heap_alloc_new w.drew _) ?_ rfl fun j v hv=> ?_) ⟨rfl,rfl,rfl⟩,rfl, ?_,rfl⟩
     ·rw[Array.size_append];omega
     ·have hj:=(Array.getElem?_eq_some_iff.1 hv).1;refine⟨v,by rw[Array.getElem?_append_left hj];exact hv,ZR ?_⟩;obtain⟨Xi,rfl⟩:=Array.getElem?_eq_some_iff.1 hv;exact Array.all_eq_true.1 c5 j Xi
     ·refine .slice ⟨_,Xy,rfl,rfl⟩ PS hcm (fun _ im QD _ _=> ?_);rw[Xy]at QD;cases QD;exact harr.symm
   ·cases h
  ·cases h
 ·cases h
def yE(P:Program)(t t':TypeId)(H:Qm)(n:Nat)(s x:Value):Option CR:=
 bif Lf t t' then
  match Ue P t H n (bare s) x with
  |some r=>some r
  |none=>B3 P t H n s x
 else rr P t t' H n s x

def partsOf(ev:Operand->Option Value):List (Nat×Operand)->Option (List (Nat×Value))
 |[]=>some []
 |(i,x)::l=>match ev x with
  |some v=>match partsOf ev l with
   |some r=>some ((i,v)::r)
   |none=>none
  |none=>none
theorem Tr{μ:Mu}{ev:Operand->Option Value}{ρ:Operand->Value}:∀(l:List (Nat×Operand)) (ps:List (Nat×Value)),partsOf ev l=some ps->(∀p∈l,∀v,ev p.2=some v->VR μ v (ρ p.2))->
 ps.length=(l.map fun p=>(p.1,ρ p.2)).length/\∀(i:Nat) p p',ps[i]? =some p->(l.map fun p=>(p.1,ρ p.2))[i]? =some p'->p'.1=p.1/\VR μ p.2 p'.2
 |[],ps,h,_=>by
  simp only[partsOf,YO]at h;subst h;exact⟨rfl,fun i p p' hp _=>by simp at hp⟩
 |(i,x)::l,ps,h,hv=>by
  simp only[partsOf]at h;cases hx:ev x with
  |none=>rw[hx]at h;cases h
  |some v=>
   rw[hx]at h;cases hr:partsOf ev l with
   |none=>rw[hr]at h;cases h
   |some r=>
    rw[hr]at h;simp only[YO]at h;subst h;obtain⟨h1,h2⟩:=Tr l r hr (fun p hp=>hv p (Lj _ hp));refine⟨by simpa using h1,fun j p p' hp hp'=> ?_⟩;cases j with
    |zero=>
     simp only[Lq,List.map_cons,YO]at hp hp';subst hp hp';exact⟨rfl,hv (i,x) (by simp) v hx⟩
    |succ j=>exact h2 j p p' (by simpa using hp) (by simpa using hp')
def built(P:Program)(t:TypeId)(parts:List (Nat×Value)):Option (Array Value):=
 match inf P t,JN P t with
 |some it,some (.array _ e)=>
  match it.zero,inf P e with
  |some z,some ie=>Instr.fill (fun i=>some (i*ie.size,ie.size)) z.cells parts
  |_,_=>none
 |some it,some (.struct fields)=>
  match it.zero,fields.toList.mapM (fun f=>(inf P f.type).map fun i=>(f.offset,i.size))with
  |some z,some Qa=>Instr.fill (nth Qa) z.cells parts
  |_,_=>none
 |_,_=>none
theorem Mi(P:Program)(t:TypeId)(ps:List (Nat×Value)):built P t ps=P.built t ps:=by
 have e:∀l:List (Nat×Nat),nth l=(l.toArray[·]?):=fun l=>funext fun i=>by rw[aO];simp
 unfold built Program.built;simp only[J1,Zw,e];rfl
def tM(P:Program)(t:TypeId)(ps:List (Nat×Value)):Option Value:=
 match built P t ps with
 |some cs=>bif (match zeroOf P t with|some z=>af z|none=>false)then some (.agg cs)else none
 |none=>none
theorem AB{P:Program}{μ:Mu}{t:TypeId}{ps:List (Nat×Value)}{ps':Array (Nat×Value)}{v:Value}(h:tM P t ps=some v)(hl:ps.length=ps'.toList.length)(hp:∀(i:Nat) p p',ps[i]? =some p->ps'.toList[i]? =some p'->p'.1=p.1/\VR μ p.2 p'.2)(w:World):
 ∃v',(Instr.build t ps').run P w=.ok v' w/\VR μ v v':=by
 unfold tM at h;rw[Mi]at h;cases hb:P.built t ps with
 |none=>rw[hb]at h;cases h
 |some cs=>
  rw[hb]at h;dsimp only at h;cases hz:zeroOf P t with
  |none=>rw[hz]at h;cases h
  |some z=>
   rw[hz]at h;dsimp only at h;cases ha:af z with
   |false=>rw[ha]at h;cases h
   |true=>
    rw[ha]at h;simp only[cond_true,YO]at h;subst h;have hzz:VRs μ z.cells z.cells:=(Pc (μ:=μ) ha).cells;have key:∃cs',P.built t ps'.toList=some cs'/\VRs μ cs cs':=by
     unfold zeroOf at hz;rw[J1]at hz;unfold Program.built at hb ⊢;cases hi:P.info? t with
     |none=>rw[hi]at hz;cases hz
     |some it=>
      rw[hi]at hz hb;dsimp only at hz;cases hu:P.underlying t with
      |none=>rw[hu]at hb;cases hb
      |some d=>
       rw[hu]at hb;cases d <;> simp only[hz]at hb ⊢ <;> first|(cases hb;done)|skip
       case array n e=>
        cases he:P.info? e with
        |none=>rw[he]at hb;cases hb
        |some ie=>
         rw[he]at hb;exact ki ps ps'.toList _ _ cs hl hp hzz hb
       case struct fields=>
        cases he:fields.toList.mapM (fun f=>(P.info? f.type).map fun i=>(f.offset,i.size))with
        |none=>rw[he]at hb;cases hb
        |some Qa=>
         rw[he]at hb;exact ki ps ps'.toList _ _ cs hl hp hzz hb
    obtain⟨cs',h1,h2⟩:=key;exact⟨.agg cs',run_build w t ps' cs' h1,.agg h2.1 h2.2⟩
end Go.CE

namespace Go.CE
open Go Go.RowKit

def Rq(P:Program)(t:TypeId)(len:Nat)(ps:List (Nat×Value)):Option (TypeId×Array Value×Nat):=
 match JN P t with
 |some (.slice e)=>match inf P e with
  |some i=>match i.zero with
   |some z=>bif decide (len*i.size<=2 ^ 24) && Ll 0 (len*i.size) && ((Array.range (len*i.size)).map (z.cells[· % z.cells.size]!)).all simple && LI len maxLen then
    match Instr.fill (fun j=>some (j*i.size,i.size)) ((Array.range (len*i.size)).map (z.cells[· % z.cells.size]!)) ps with
    |some cs=>bif Lf cs.size (len*i.size)then some (e,cs,i.size)else none
    |none=>none
     else none
   |none=>none
  |none=>none
 |_=>none
theorem jN{P:Program}{B n:Nat}{S:Nat->Prop}{μ:Mu}{H:Qm}{w:World}{t e:TypeId}{len s:Nat}{ps:List (Nat×Value)}{ps':Array (Nat×Value)}{cs:Array Value}(h:Rq P t len ps=some (e,cs,s))(Q7:Ok B S μ (Qq H) w)(hB:B<=w.heap.size)
 (hS:∀i,S i->i<n) (hf:μ n=none) (hl:ps.length=ps'.toList.length) (hp:∀(i:Nat) p p',ps[i]? =some p->ps'.toList[i]? =some p'->p'.1=p.1/\VR μ p.2 p'.2):
 ∃v' w' μ',(Instr.buildSlice t len ps').run P w=.ok v' w'/\Post B S n (n+1) [] μ μ' H ((n,.cells cs e (0,0))::H) w w'/\VR μ' (.slice (some ⟨n,0,none⟩) len s) v':=by
 unfold Rq at h;simp only[Zw,J1]at h;split at h
 ·rename_i e0 hu;split at h
  ·rename_i i hi;split at h
   ·rename_i z hz;cases hc:(decide (len*i.size<=2 ^ 24) && Ll 0 (len*i.size) && ((Array.range (len*i.size)).map (z.cells[· % z.cells.size]!)).all simple && LI len maxLen)with
    |false=>rw[hc]at h;cases h
    |true=>
     rw[hc]at h;simp only[cond_true]at h;simp only[YB,decide_eq_true_eq]at hc;obtain⟨⟨⟨c1,c2⟩,c3⟩,c4⟩:=hc;have c2:0<len*i.size:=YL c2;have c4:=YL c4;split at h
     ·rename_i cs0 hfill;cases hcs:Lf cs0.size (len*i.size)with
      |false=>rw[hcs]at h;cases h
      |true=>
       rw[hcs]at h;simp only[cond_true,YO,YR]at h;obtain⟨rfl,rfl,rfl⟩:=h;have hcs:=YE hcs;have hbase:VRs μ ((Array.range (len*i.size)).map (z.cells[· % z.cells.size]!)) ((Array.range (len*i.size)).map (z.cells[· % z.cells.size]!)):=⟨rfl,fun j v v' hv ZW=>by
        rw[hv]at ZW;cases ZW;obtain⟨Xi,rfl⟩:=Array.getElem?_eq_some_iff.1 hv;exact ZR (Array.all_eq_true.1 c3 j Xi)⟩
       obtain⟨cs',h1,h2⟩:=ki ps ps'.toList _ _ cs0 hl hp hbase hfill;refine⟨_,_,_,run_buildSlice (P:=P) w t e0 len ps' cs' i z hu hi hz (by omega) (by omega) h1,jZ Q7 hB hS hf cs0 cs' e0 (by rw[h2.1];exact Lw _) h2.all, ?_⟩;refine .slice ⟨_,Xy,rfl,rfl⟩ (Lw _) c4 (fun _ im QD _ _=> ?_);rw[show upd μ n ⟨w.heap.size,0,cs'.size,true,TN⟩ n=some _ from Xy]at QD;cases QD;simp only;rw[<-h2.1,hcs]
     ·cases h
   ·cases h
  ·cases h
 ·cases h

def PL(ev:Operand->Option Value):List Operand->Option (List Value)
 |[]=>some []
 |x::l=>match ev x with
  |some v=>match PL ev l with
   |some r=>some (v::r)
   |none=>none
  |none=>none
theorem cr{μ:Mu}{ev:Operand->Option Value}{ρ:Operand->Value}:∀(l:List Operand) (vs:List Value),PL ev l=some vs->(∀x∈l,∀v,ev x=some v->VR μ v (ρ x))->VRs μ vs.toArray (l.map ρ).toArray
 |[],vs,h,_=>by
  simp only[PL,YO]at h;subst h;exact⟨rfl,fun i p p' hp _=>by simp at hp⟩
 |x::l,vs,h,hv=>by
  simp only[PL]at h;cases hx:ev x with
  |none=>rw[hx]at h;cases h
  |some v=>
   rw[hx]at h;cases hr:PL ev l with
   |none=>rw[hr]at h;cases h
   |some r=>
    rw[hr]at h;simp only[YO]at h;subst h;obtain⟨h1,h2⟩:=cr l r hr (fun p hp=>hv p (Lj _ hp));refine⟨by simpa using h1,fun j p p' hp hp'=> ?_⟩;cases j with
    |zero=>
     simp only[LU,Lq,List.map_cons,YO]at hp hp';subst hp hp';exact hv x (by simp) v hx
    |succ j=>exact h2 j p p' (by simpa using hp) (by simpa using hp')
theorem VRs.append{μ:Mu}{xs xs' ys ys':Array Value}(h:VRs μ xs xs')(k:VRs μ ys ys'):VRs μ (xs++ys) (xs'++ys'):=by
 refine⟨by simp[h.1,k.1],fun i v v' hv ZW=> ?_⟩;rw[Array.getElem?_append]at hv ZW;rw[<-h.1]at ZW;split at hv
 ·rename_i Xi;rw[if_pos Xi]at ZW;exact h.2 i v v' hv ZW
 ·rename_i Xi;rw[if_neg Xi]at ZW;exact k.2 _ v v' hv ZW

def Q0(P:Program)(f:FuncId):Bool:=
 match P.funcs[f]? with
 |some fn=>fn.body.isSome && !(fn.name== "runtime.NumGoroutine")
 |none=>false
theorem TB{P:Program}{f:FuncId}(h:Q0 P f=true)(args:Array Value)(w:World):(callFunc f args).run P w=.ok (.enter f args) w:=by
 unfold Q0 at h;cases hf:P.funcs[f]? with
 |none=>rw[hf]at h;cases h
 |some fn=>
  rw[hf]at h;simp only[YB,Bool.not_eq_true']at h;have hn:¬fn.name= "runtime.NumGoroutine":=by simpa using h.2
  have hb:¬fn.body=none:=fun e=>by rw[e]at h;simp at h
  simp[callFunc,hf,hn,hb]
theorem VRs.fold{μ:Mu}:∀(l:List (Nat×Value)) (l':List (Nat×Value)) (xs xs':Array Value),l.length=l'.length->(∀(i:Nat) p p',l[i]? =some p->l'[i]? =some p'->p'.1=p.1/\VR μ p.2 p'.2)->VRs μ xs xs'->
 VRs μ (l.foldl (fun tm (x:Nat×Value)=>tm.setIfInBounds x.1 x.2) xs) (l'.foldl (fun tm (x:Nat×Value)=>tm.setIfInBounds x.1 x.2) xs')
 |[],[],_,_,_,_,h=>h
 |(i,v)::l,(i',v')::l',xs,xs',hl,hp,h=>by
  obtain⟨h1,h2⟩:=hp 0 (i,v) (i',v') rfl rfl;simp only at h1 h2;subst h1;simp only[List.foldl_cons];exact VRs.fold l l' _ _ (by simpa using hl) (fun j a b x y=>hp (j+1) a b (by simpa using x) (by simpa using y)) (h.set h2 _)
 |[],_::_,_,_,hl,_,_=>by simp at hl
 |_::_,[],_,_,hl,_,_=>by simp at hl
def Rp(F:FuncId->Bool)(H:Qm)(f:Value)(args:Array Value):Option (CN×List Nat):=
 match f with
 | .func (.func g) xs ys=>bif F g then some (.enter g (xs++args++ys),[])else none
 | .func (.yield l) xs ys=>match Qq H l with
   |some (.loop r)=>bif Lf args.size r.params.size && Lf xs.size 0 && Lf ys.size 0 then some (.round l r.fn ((r.params.zip args).toList.foldl (fun tm (x:Nat×Value)=>tm.setIfInBounds x.1 x.2) r.tmps) r.assign r.body,[l])else none
   |_=>none
 |_=>none
theorem rp{P:Program}{F:FuncId->Bool}(hF:∀g,F g=true->Q0 P g=true){B:Nat}{S:Nat->Prop}{μ:Mu}{H:Qm}{w:World}{f f':Value}{args args':Array Value}{nx:CN}{R:List Nat}(h:Rp F H f args=some (nx,R))(Q7:Ok B S μ (Qq H) w)(hf:VR μ f f')
 (ha:VRs μ args args') (hR:∀i∈R,S i):∃nx',(do let d <-Deferred.ofValue f' args';invoke d.target d.args:Sem Next).run P w=.ok nx' w/\NR μ nx nx':=by
 unfold Rp at h;split at h
 ·rename_i g xs ys;cases hg:F g with
  |false=>rw[hg]at h;cases h
  |true=>
   rw[hg]at h;simp only[cond_true,YO,YR]at h;obtain⟨rfl,_⟩:=h;cases hf with
   |func h1 h2 h3 h4=>
    refine⟨_, ?_,.enter ((VRs.append (VRs.append ⟨h1,h3⟩ ha) ⟨h2,h4⟩))⟩;simp only[Deferred.ofValue,Sem.run_bind,Sem.run_pure,Result.andThen_ok,invoke,TB (hF g hg)]
 ·rename_i l xs ys;split at h
  ·rename_i r hl;cases hs:(Lf args.size r.params.size && Lf xs.size 0 && Lf ys.size 0)with
   |false=>rw[hs]at h;cases h
   |true=>
    rw[hs]at h;simp only[cond_true,YO,YR]at h;obtain⟨rfl,rfl⟩:=h;simp only[YB]at hs;have Zi:=YE hs.1.1;obtain⟨im,QD,ZQ⟩:=Q7.rel l _ (hR l (by simp)) hl trivial;obtain⟨_,tm,df,hw,htm⟩:=ZQ;cases hf with
    |yield hy=>
     rw[QD]at hy;cases hy;refine⟨_, ?_,.round QD (xs':=(r.params.zip args').toList.foldl (fun tm (x:Nat×Value)=>tm.setIfInBounds x.1 x.2) tm) ?_⟩
     ·have PH:(getObj im.Zq).run P w=.ok (.loop {r with tmps:=tm,defers:=df}) w:=by simp[getObj,Sem.run,hw]
      have Kz:¬args'.size≠r.params.size:=by rw[<-ha.1];simp[Zi]
      simp only[Deferred.ofValue,Sem.run_bind,Sem.run_pure,Result.andThen_ok,invoke,Instr.yield,Instr.getLoop,PH,Array.empty_append,Kz,if_false,<-Array.foldl_toList]
     ·refine VRs.fold _ _ _ _ (by simp[ha.1]) (fun i p p' hp hp'=> ?_) htm;simp only[Array.toList_zip,List.getElem?_zip_eq_some,Lm]at hp hp';have:=hp.1;rw[hp'.1]at this;exact⟨by simpa using this,ha.2 i _ _ hp.2 hp'.2⟩
  ·cases h
 ·cases h
end Go.CE
