/- SE 5: heads of loops, ends of calls. -/
import Derived.Test.YtncjjangllkokaaZRB07
import Derived.IntWalk
set_option linter.all false
open Nat renaming beq->Lf,zero_add->Lv,le_refl->Lw,blt->Ll,ble_eq_true_of_le->LC,lt_or_ge->LF
open List renaming getElem?_cons_zero->Lq,mem_of_getElem? ->Lk,mem_cons_of_mem->Lj,mem_append_left->Lg,mem_append_right->Lt,range'->Ly,getElem?_eq_none->LA,getElem?_map->Lx
open Array renaming eq_empty_of_size_eq_zero->LK,mem_of_getElem? ->LJ
open Option renaming map_some->LG
namespace Go.CE
open Go Go.RowKit

def distinct:List Nat->Bool
 |[]=>true
 |a::l=>l.all (fun b=> !(Lf a b)) && distinct l
theorem JI{l:List Nat}(h:distinct l=true):∀(i j:Nat) a,l[i]? =some a->l[j]? =some a->i=j:=by
 induction l with
 |nil=>intro i j a hi;simp at hi
 |cons b l ih=>
  simp only[distinct,YB]at h;have Kz:∀a∈l,a≠b:=by
   intro a ha e;have:=List.all_eq_true.1 h.1 a ha;rw[e]at this;simp at this
  intro i j a hi hj;cases i with
  |zero=>
   cases j with
   |zero=>rfl
   |succ j=>
    simp only[Lq,YO,List.getElem?_cons_succ]at hi hj;exact absurd hi.symm (Kz a (Lk hj))
  |succ i=>
   cases j with
   |zero=>
    simp only[Lq,YO,List.getElem?_cons_succ]at hi hj;exact absurd hj.symm (Kz a (Lk hi))
   |succ j=>
    simp only[List.getElem?_cons_succ]at hi hj;rw[ih h.2 i j a hi hj]
section
variable {P:Program} {F:FuncId->Bool} {B:Lo}
end
def UD:Code->List Nat->Code
 |c,[]=>c
 | .seq a b,k::l=>bif Lf k 0 then UD a l else UD b l
 | .cond _ a b,k::l=>bif Lf k 0 then UD a l else UD b l
 | .block _ a,_::l=>UD a l
 | .loop a,_::l=>UD a l
 | .scope a,_::l=>UD a l
 | .rangeFunc _ _ a b,k::l=>bif Lf k 0 then UD a l else UD b l
 |c,_=>c
def Q8(P:Program)(f:FuncId):Code:=match nth P.funcs.toList f with
 |some fn=>match fn.body with
  |some c=>c
  |none=>.skip
 |none=>.skip
inductive It where
 |code (l:List Nat)
 |inBlock (k:Nat)
 |inLoop (l:List Nat)
 |inScope (l:List Nat)
def it(b:Code):It->Item
 | .code l=>.code (UD b l)
 | .inBlock k=>.inBlock k
 | .inLoop l=>.inLoop (UD b l)
 | .inScope l=>.inScope (UD b l)
def Qu(P:Program)(f:FuncId)(len:Nat)(args:List Value):CF:=⟨f,ofList len args,[.code (Q8 P f)],[],.run,none⟩
end Go.CE

namespace Go.CE
open Go Go.RowKit

theorem Qbx{x:Int}(h1: -9223372036854775808<=x)(h2:x<=9223372036854775807):wq x=x:=by
 rw[OC];exact IntWalk.i64_in _ ⟨h1,h2⟩
theorem PX{x:Int}(h1: -9223372036854775808<=x)(h2:x<=9223372036854775807):IntKind.i64.wrap x=x:=IntWalk.i64_in _ ⟨h1,h2⟩
theorem Xs{a b:Int}(h:a<b):XB a b=true:=by rw[sS];simpa using h
theorem OQ{a b:Int}(h:b<=a):XB a b=false:=by rw[sS];simpa using h
theorem VZ{a b:Int}(h:b<=a):(!XB a b)=true:=by rw[OQ h];rfl
theorem Ua{a b:Int}(h:a<b):(!XB a b)=false:=by rw[Xs h];rfl
theorem TI{a b:Int}(h:a=b):TO a b=true:=by rw[ig];simpa using h
theorem TJ{a b:Int}(h:a≠b):TO a b=false:=by rw[ig];simpa using h

section
variable {P:Program} {B:Lo}
end
end Go.CE
namespace Go.CE
open Go Go.RowKit
section
variable {P:Program} {B:Lo}
end
end Go.CE

namespace Go.CE
open Go Go.RowKit

theorem TRv.mono{fm fm':Nat->Option Obj}(h:∀b x,fm b=some x->fm' b=some x){t v:Value}(ht:TRv fm t v):TRv fm' t v:=by
 induction ht with
 |simple h=>exact .simple h
 |agg h1 _ ih=>exact .agg h1 ih
 |tuple h1 _ ih=>exact .tuple h1 ih
 |iface _ ih=>exact .iface ih
 |func h1 h2 _ _ ih1 ih2=>exact .func h1 h2 ih1 ih2
 |slice h1 h2 h3 h4 _ ih=>exact .slice h1 h2 (h _ _ h3) h4 ih
 |nil=>exact .nil
 |empty h=>exact .empty h
 |ptr h1 h2 _ ih=>exact .ptr (h _ _ h1) h2 ih
theorem TRv.simple_eq{fm:Nat->Option Obj}{t v:Value}(h:CE.simple t=true)(ht:TRv fm t v):v=t:=by
 cases ht with
 |simple _=>rfl
 |func h1 h2 _ _=>
  simp only[CE.simple,YB,beq_iff_eq]at h;have e1:=LK h.1;have e2:=LK h.2;subst e1 e2;rw[LK h1.symm,LK h2.symm]
 |agg _ _=>cases h
 |tuple _ _=>cases h
 |iface _=>cases h
 |slice _ _ _ _ _=>cases h
 |nil=>cases h
 |empty _=>cases h
 |ptr _ _ _=>cases h
def Wb(r:Nat)(v:Value):Value:=bif simple v then v else Qk r v
def Q4(r:Nat):Nat->Value->Value
 |0,v=>Wb r v
 |f+1,v=>match v with
  | .agg xs=>.agg (xs.map (Q4 r f))
  | .tuple xs=>.tuple (xs.map (Q4 r f))
  | .iface t x=>.iface t (Q4 r f x)
  | .func (.func g) xs ys=>.func (.func g) (xs.map (Q4 r f)) (ys.map (Q4 r f))
  |v=>Wb r v
def s8:Nat->Value->Bool
 |0,v=>simple v || WE v
 |f+1,v=>match v with
  | .agg xs=>xs.all (s8 f)
  | .tuple xs=>xs.all (s8 f)
  | .iface _ x=>s8 f x
  | .func (.func _) xs ys=>xs.all (s8 f) && ys.all (s8 f)
  |v=>simple v || WE v
section
variable {μ:Mu} {r:Nat} {im:c7}
theorem ao(hr:μ r=some im){v v':Value}(ho:(simple v || WE v)=true)(h:TRv im.fm v v'):VR μ (Wb r v) v':=by
 unfold Wb;cases hs:simple v with
 |true=>rw[h.simple_eq hs];exact ZR hs
 |false=>
  rw[hs]at ho;exact .top (by simpa using ho) hr h
theorem Se(hr:μ r=some im):∀(f:Nat) (v v':Value),s8 f v=true->TRv im.fm v v'->VR μ (Q4 r f v) v'
 |0,v,v',ho,h=>ao hr ho h
 |f+1,v,v',ho,h=>by
  have arr:∀{xs xs':Array Value},xs.all (s8 f)=true->xs.size=xs'.size->(∀(i:Nat) v v',xs[i]? =some v->xs'[i]? =some v'->TRv im.fm v v')->(xs.map (Q4 r f)).size=xs'.size/\∀(i:Nat) v v',(xs.map (Q4 r f))[i]? =some v->xs'[i]? =some v'->VR μ v v':=by
   intro xs xs' ha hs hx;refine⟨by simpa using hs,fun i v v' hv ZW=> ?_⟩;rw[Array.getElem?_map]at hv;cases hy:xs[i]? with
   |none=>rw[hy]at hv;cases hv
   |some y=>
    rw[hy]at hv;simp only[LG,YO]at hv;subst hv;exact Se hr f y v' (Array.all_eq_true'.1 ha y (LJ hy)) (hx i y v' hy ZW)
  cases v with
  |agg xs=>
   cases h with
   |simple h=>cases h
   |agg h1 h2=>exact .agg (arr ho h1 h2).1 (arr ho h1 h2).2
  |tuple xs=>
   cases h with
   |simple h=>cases h
   |tuple h1 h2=>exact .tuple (arr ho h1 h2).1 (arr ho h1 h2).2
  |iface t x=>
   cases h with
   |simple h=>cases h
   |iface h=>exact .iface (Se hr f x _ ho h)
  |func fn xs ys=>
   cases fn with
   |func g=>
    have ho:(xs.all (s8 f) && ys.all (s8 f))=true:=ho;simp only[YB]at ho;cases h with
    |simple hs=>
     simp only[simple,YB,beq_iff_eq]at hs;have e1:=LK hs.1;have e2:=LK hs.2;subst e1 e2;exact .func (by simp) (by simp) (fun i v v' hv=>by simp at hv) (fun i v v' hv=>by simp at hv)
    |func h1 h2 h3 h4=>exact .func (arr ho.1 h1 h3).1 (arr ho.2 h2 h4).1 (arr ho.1 h1 h3).2 (arr ho.2 h2 h4).2
   |_=>exact ao hr (by exact ho) h
  |_=>exact ao hr ho h
end
def av:Nat->Value->Bool
 |0,v=>simple v
 |f+1,v=>match v with
  | .agg xs=>xs.all (av f)
  | .tuple xs=>xs.all (av f)
  | .iface _ x=>av f x
  |v=>simple v
theorem gX{μ:Mu}{fm:Nat->Option Obj}:∀(f:Nat) (v v':Value),av f v=true->TRv fm v v'->VR μ v v'
 |0,v,v',ho,h=>by rw[h.simple_eq ho];exact ZR ho
 |f+1,v,v',ho,h=>by
  have arr:∀{xs xs':Array Value},xs.all (av f)=true->(∀(i:Nat) v v',xs[i]? =some v->xs'[i]? =some v'->TRv fm v v')->∀(i:Nat) v v',xs[i]? =some v->xs'[i]? =some v'->VR μ v v':=
   fun ha hx i v v' hv ZW=>gX f v v' (Array.all_eq_true'.1 ha v (LJ hv)) (hx i v v' hv ZW)
  cases v with
  |agg xs=>
   cases h with
   |simple h=>cases h
   |agg h1 h2=>exact .agg h1 (arr ho h2)
  |tuple xs=>
   cases h with
   |simple h=>cases h
   |tuple h1 h2=>exact .tuple h1 (arr ho h2)
  |iface t x=>
   cases h with
   |simple h=>cases h
   |iface h=>exact .iface (gX f x _ ho h)
  |_=>
   rw[TRv.simple_eq (by exact ho) h];exact ZR (by exact ho)
def Xu:Option Obj->Bool
 |some (.coro _)=>true
 |_=>false
theorem ZE{o:Option Obj}(h:Xu o=true):∃x,o=some x/\Wm x:=by
 cases o with
 |none=>cases h
 |some x=>cases x <;> first|exact⟨_,rfl,trivial⟩|cases h
def iB:Value->Option (Nat×Nat×Array Value)
 | .func (.via r ⟨[]⟩ 0 true) ⟨[.func (.via n ⟨[]⟩ 0 false) ⟨[]⟩ cs]⟩ ⟨[]⟩=>some (r,n,cs)
 |_=>none
def ui:Value->Option (Nat×Nat×Array Value)
 | .func (.via r ⟨[]⟩ 0 true) ⟨[.func (.via off ⟨[]⟩ 1 true) ⟨[]⟩ cs]⟩ ⟨[]⟩=>some (r,off,cs)
 |_=>none
theorem RG{v:Value}{r n:Nat}{cs:Array Value}(h:iB v=some (r,n,cs)):v=Qk r (Xo n cs):=by
 unfold iB at h;split at h
 ·simp only[YO,YR]at h;obtain⟨rfl,rfl,rfl⟩:=h;rfl
 ·cases h
theorem kI{v:Value}{r off:Nat}{cs:Array Value}(h:ui v=some (r,off,cs)):v=Qk r (ZU off cs):=by
 unfold ui at h;split at h
 ·simp only[YO,YR]at h;obtain⟨rfl,rfl,rfl⟩:=h;rfl
 ·cases h
theorem VR.top_inv{μ:Mu}{r:Nat}{t v':Value}(h:VR μ (Qk r t) v'):∃im,μ r=some im/\TRv im.fm t v':=by
 cases h with
 |top _ h1 h2=>exact⟨_,h1,h2⟩
theorem TRv.slice_inv{fm:Nat->Option Obj}{n:Nat}{cs:Array Value}{v':Value}(h:TRv fm (Xo n cs) v'):((∃b o c' arr t fl,v'=.slice (some ⟨b,o,none⟩) n c'/\n<=c'/\c'<=maxLen/\fm b=some (.cells arr t fl)/\(∀i,i<cs.size->o+i<arr.size)/\(∀(i:Nat) v v',cs[i]? =some v->arr[o+i]? =some v'->TRv fm v v'))\/
 (n=0/\cs=#[]/\∃a c',v'=.slice a 0 c'/\c'<=maxLen)):=by
 cases h with
 |simple h=>cases h
 |slice h1 h2 h3 h5 h6=>exact .inl ⟨_,_,_,_,_,_,rfl,h1,h2,h3,h5,h6⟩
 |nil=>exact .inr ⟨rfl,rfl,none,0,rfl,Nat.zero_le _⟩
 |empty h=>exact .inr ⟨rfl,rfl,_,_,rfl,h⟩
theorem TRv.ptr_inv{fm:Nat->Option Obj}{off:Nat}{cs:Array Value}{v':Value}(h:TRv fm (ZU off cs) v'):∃b o arr t fl,v'=.pointer (some ⟨b,o+off,none⟩)/\fm b=some (.cells arr t fl)/\(∀i,i<cs.size->o+i<arr.size)/\(∀(i:Nat) v v',cs[i]? =some v->arr[o+i]? =some v'->TRv fm v v'):=by
 cases h with
 |simple h=>cases h
 |ptr h1 h2 h3=>exact⟨_,_,_,_,_,rfl,h1,h2,h3⟩
end Go.CE

namespace Go.CE
open Go Go.RowKit

def TRvs(fm:Nat->Option Obj)(xs xs':Array Value):Prop:=xs.size=xs'.size/\∀(i:Nat) v v',xs[i]? =some v->xs'[i]? =some v'->TRv fm v v'
def RA(fm:Nat->Option Obj)(w w':World)(b:Nat):Option Obj:=if b<w.heap.size then fm b else w'.heap[b]?
def Qv(P:Program)(J:World->Prop)(g:FuncId)(targs:Array Value)(out:Value):Prop:=
 ∀(fm:Nat->Option Obj) (w:World) (args':Array Value),J w->(∀b x,fm b=some x->w.heap[b]? =some x)->TRvs fm targs args'->
  Calls P g args' w fun e w'=> ∃v',e=.returned v'/\Below w.heap.size w w'/\TRv (RA fm w w') out v'
structure Fz where
 k:Nat
 rs:List Nat
 cs:Array Value
def ji:List Fz->Nat->Option Fz
 |[],_=>none
 |x::l,k=>bif Lf x.k k then some x else ji l k
def pj(rs:List Nat)(v v1:Value):Prop:=(simple v=true/\v1=v)\/∃r∈rs,v=Qk r v1/\WE v1=true
def X1(rs:List Nat)(cs cs1:Array Value):Prop:=cs.size=cs1.size/\∀(i:Nat) v v1,cs[i]? =some v->cs1[i]? =some v1->pj rs v v1
theorem Wy{rs:List Nat}{cs:Array Value}(h:cs.all simple=true):X1 rs cs cs:=⟨rfl,fun i v v1 h1 h2=>by
 rw[h1]at h2;cases h2;exact .inl ⟨Array.all_eq_true'.1 h v (LJ h1),rfl⟩⟩
def isNil:Value->Bool
 | .slice none 0 0=>true
 |_=>false
theorem IC{v:Value}(h:isNil v=true):v=.slice none 0 0:=by
 unfold isNil at h;split at h
 ·rfl
 ·cases h
def r9(H:Qm)(fz:List Fz)(v:Value):Option (Value×List Nat×List Prop):=bif isNil v then some (Xo 0 #[],[],[])else bif simple v then some (v,[],[])else match v with
 | .func (.via r ⟨[]⟩ 0 true) ⟨[t]⟩ ⟨[]⟩=>bif Xu (Qq H r)then some (t,[r],[])else none
 | .slice (some ⟨k,0,none⟩) n _=>match ji fz k,Qq H k with
   |some x,some (.cells cs _ (0,0))=>bif x.rs.all fun r=>Xu (Qq H r)then some (Xo n x.cs,k::x.rs,[X1 x.rs cs x.cs])else none
   |_,_=>none
 | .pointer (some ⟨k,o,none⟩)=>match ji fz k,Qq H k with
   |some x,some (.cells cs _ (0,0))=>bif x.rs.all fun r=>Xu (Qq H r)then some (ZU o x.cs,k::x.rs,[X1 x.rs cs x.cs])else none
   |_,_=>none
 |_=>none
def Ks(f:Value->Option (Value×List Nat×List Prop)):List Value->Option (List Value×List Nat×List Prop)
 |[]=>some ([],[],[])
 |v::l=>match f v with
  |some (t,R,L)=>match Ks f l with
   |some (ts,R2,L2)=>some (t::ts,R++R2,L++L2)
   |none=>none
  |none=>none
def VY(H:Qm)(fz:List Fz):Nat->Value->Option (Value×List Nat×List Prop)
 |0,v=>r9 H fz v
 |f+1,v=>match v with
  | .agg xs=>match Ks (VY H fz f) xs.toList with
    |some (l,R,L)=>some (.agg l.toArray,R,L)
    |none=>none
  | .tuple xs=>match Ks (VY H fz f) xs.toList with
    |some (l,R,L)=>some (.tuple l.toArray,R,L)
    |none=>none
  | .iface t x=>match VY H fz f x with
    |some (x,R,L)=>some (.iface t x,R,L)
    |none=>none
  | .func (.func g) xs ys=>match Ks (VY H fz f) xs.toList with
    |some (l,R,L)=>match Ks (VY H fz f) ys.toList with
     |some (m,R2,L2)=>some (.func (.func g) l.toArray m.toArray,R++R2,L++L2)
     |none=>none
    |none=>none
  |v=>r9 H fz v
theorem Xb{a b:List Prop}(h:Qz (a++b)):Qz a/\Qz b:=by
 induction a with
 |nil=>exact⟨trivial,h⟩
 |cons x a ih=>exact⟨⟨h.1,(ih h.2).1⟩,(ih h.2).2⟩
noncomputable def Yo(μ:Mu)(H:Qm)(w:World)(R:List Nat)(b:Nat):Option Obj:=
 open Classical in if ∃i∈R,∃o im,Qq H i=some o/\μ i=some im/\((Wm o/\im.fm b≠none)\/(live o/\im.Zq=b))then w.heap[b]? else none
section
variable {B:Nat} {S:Nat->Prop} {μ:Mu} {H:Qm} {w:World} {fz:List Fz}
theorem WL{R:List Nat}{b:Nat}{x:Obj}(h:Yo μ H w R b=some x):w.heap[b]? =some x:=by
 unfold Yo at h;split at h
 ·exact h
 ·cases h
theorem fZ{R R':List Nat}(hs:∀i∈R,i∈R'){b:Nat}{x:Obj}(h:Yo μ H w R b=some x):Yo μ H w R' b=some x:=by
 have hw:=WL h;unfold Yo at h ⊢;split at h
 ·rename_i hc;obtain⟨i,hi,r⟩:=hc;rw[if_pos ⟨i,hs i hi,r⟩];exact hw
 ·cases h
theorem kg(Q7:Ok B S μ (Qq H) w){R:List Nat}{r:Nat}(hr:r∈R)(hS:S r)(hg:Xu (Qq H r)=true){im:c7}(QD:μ r=some im){b:Nat}{x:Obj}(hx:im.fm b=some x):Yo μ H w R b=some x:=by
 obtain⟨o,ho,WA⟩:=ZE hg;obtain⟨Z4,QO,hf⟩:=Q7.Jv r o hS ho WA;rw[QD]at QO;cases QO;unfold Yo;rw[if_pos ⟨r,hr,o,im,ho,QD,.inl ⟨WA,by rw[hx];simp⟩⟩];exact hf b x hx
theorem kh{R:List Nat}{k:Nat}(hk:k∈R){o:Obj}(hg:Qq H k=some o)(hl:live o){im:c7}(QD:μ k=some im):Yo μ H w R im.Zq=w.heap[im.Zq]? :=by
 unfold Yo;rw[if_pos ⟨k,hk,o,im,hg,QD,.inr ⟨hl,rfl⟩⟩]
theorem ca(Q7:Ok B S μ (Qq H) w){k:Nat}(hS:S k){cs:Array Value}{t:TypeId}(hg:Qq H k=some (.cells cs t (0,0))):∃im arr,μ k=some im/\im.rw=true/\im.off=0/\w.heap[im.Zq]? =some (.cells arr t (0,0))/\cs.size<=arr.size/\arr.size=im.cap/\∀(i:Nat) v,cs[i]? =some v->∃v',arr[i]? =some v'/\VR μ v v':=by
 obtain⟨im,QD,ZQ⟩:=Q7.rel k _ hS hg trivial;rcases ZQ with ⟨_,h1,h2,arr,h3,h4,h5,h6⟩|⟨hz,_⟩
 ·exact⟨im,arr,QD,h1,h2,h3,h4,h5,h6⟩
 ·exact absurd rfl hz
theorem rk(Q7:Ok B S μ (Qq H) w){R rs:List Nat}(hsub:∀r∈rs,r∈R)(hS:∀r∈R,S r)(WA:(rs.all fun r=>Xu (Qq H r))=true){v v1 v':Value}(h:pj rs v v1)(hv:VR μ v v'):TRv (Yo μ H w R) v1 v':=by
 rcases h with ⟨h1,rfl⟩|⟨r,hr,rfl,_⟩
 ·rw[simple_eq h1 hv];exact .simple h1
 ·obtain⟨im,QD,ht⟩:=hv.top_inv;exact ht.mono fun b x hx=>kg Q7 (hsub r hr) (hS r (hsub r hr)) (List.all_eq_true.1 WA r hr) QD hx
theorem SS(Q7:Ok B S μ (Qq H) w){v v' t:Value}{R:List Nat}{L:List Prop}(h:r9 H fz v=some (t,R,L))(hL:Qz L)(hS:∀r∈R,S r)(hv:VR μ v v'):TRv (Yo μ H w R) t v':=by
 unfold r9 at h;cases hn:isNil v with
 |true=>
  rw[hn]at h;simp only[cond_true,YO,YR]at h;obtain⟨rfl,rfl,rfl⟩:=h;have:=IC hn;subst this;cases hv;exact .nil
 |false=>
 rw[hn]at h;simp only[cond_false]at h;cases hs:simple v with
 |true=>
  rw[hs]at h;simp only[cond_true,YO,YR]at h;obtain⟨rfl,rfl,rfl⟩:=h;rw[simple_eq hs hv];exact .simple hs
 |false=>
  rw[hs]at h;simp only[cond_false]at h;split at h
  ·rename_i r t0;cases hg:Xu (Qq H r)with
   |false=>rw[hg]at h;cases h
   |true=>
    rw[hg]at h;simp only[cond_true,YO,YR]at h;obtain⟨rfl,rfl,rfl⟩:=h;obtain⟨im,QD,ht⟩:=VR.top_inv (r:=r) (t:=t0) hv;exact ht.mono fun b x hx=>kg Q7 (by simp) (hS r (by simp)) hg QD hx
  ·rename_i k n _;split at h
   ·rename_i x cs ty hx hg;cases hr:(x.rs.all fun r=>Xu (Qq H r))with
    |false=>rw[hr]at h;cases h
    |true=>
     rw[hr]at h;simp only[cond_true,YO,YR]at h;obtain⟨rfl,rfl,rfl⟩:=h;obtain⟨⟨h2,h3⟩,_⟩:=hL;have hkS:=hS k (by simp);obtain⟨im,arr,QD,_,hoff,harr,hle,_,hcells⟩:=ca Q7 hkS hg;cases hv with
     |slice har a b _=>
      obtain⟨im2,Wz,_,rfl⟩:=har;rw[QD]at Wz;cases Wz;rw[hoff];refine TRv.slice (o:=0) a b ((kh (by simp) hg trivial QD).trans harr) (fun i hi=>by omega) fun i v v' hv ZW=> ?_
      simp only[Lv]at ZW;have hi:i<cs.size:=by rw[h2];exact(Array.getElem?_eq_some_iff.1 hv).1
      obtain⟨u,Tz,hu2⟩:=hcells i cs[i] (by simp[hi]);rw[ZW]at Tz;cases Tz;exact rk Q7 (fun r hr=>Lj _ hr) hS hr (h3 i _ _ (by simp[hi]) hv) hu2
   ·cases h
  ·rename_i k o;split at h
   ·rename_i x cs ty hx hg;cases hr:(x.rs.all fun r=>Xu (Qq H r))with
    |false=>rw[hr]at h;cases h
    |true=>
     rw[hr]at h;simp only[cond_true,YO,YR]at h;obtain⟨rfl,rfl,rfl⟩:=h;obtain⟨⟨h2,h3⟩,_⟩:=hL;have hkS:=hS k (by simp);obtain⟨im,arr,QD,_,hoff,harr,hle,_,hcells⟩:=ca Q7 hkS hg;cases hv with
     |ptr har=>
      obtain⟨im2,Wz,_,rfl⟩:=har;rw[QD]at Wz;cases Wz;rw[hoff];refine TRv.ptr (o:=0) ((kh (by simp) hg trivial QD).trans harr) (fun i hi=>by omega) fun i v v' hv ZW=> ?_
      simp only[Lv]at ZW;have hi:i<cs.size:=by rw[h2];exact(Array.getElem?_eq_some_iff.1 hv).1
      obtain⟨u,Tz,hu2⟩:=hcells i cs[i] (by simp[hi]);rw[ZW]at Tz;cases Tz;exact rk Q7 (fun r hr=>Lj _ hr) hS hr (h3 i _ _ (by simp[hi]) hv) hu2
   ·cases h
  ·cases h
theorem SU{f:Value->Option (Value×List Nat×List Prop)}(hf:∀v v' t R L,f v=some (t,R,L)->Qz L->(∀r∈R,S r)->VR μ v v'->TRv (Yo μ H w R) t v'):∀(l:List Value) (ts:List Value) (R:List Nat) (L:List Prop) (l':List Value),Ks f l=some (ts,R,L)->Qz L->(∀r∈R,S r)->l.length=l'.length->(∀(i:Nat) v v',l[i]? =some v->l'[i]? =some v'->VR μ v v')->
 ts.length=l'.length/\∀(i:Nat) v v',ts[i]? =some v->l'[i]? =some v'->TRv (Yo μ H w R) v v'
 |[],ts,R,L,l',h,hL,hS,hl,hv=>by
  simp only[Ks,YO,YR]at h;obtain⟨rfl,rfl,rfl⟩:=h;exact⟨hl,fun i v v' h=>by simp at h⟩
 |v::l,ts,R,L,[],h,hL,hS,hl,hv=>by simp at hl
 |v::l,ts,R,L,v'::l',h,hL,hS,hl,hv=>by
  simp only[Ks]at h;split at h
  ·rename_i t R1 L1 h1;split at h
   ·rename_i ts2 R2 L2 h2;simp only[YO,YR]at h;obtain⟨rfl,rfl,rfl⟩:=h;obtain⟨a,b⟩:=Xb hL;have k1:=hf v v' t R1 L1 h1 a (fun r hr=>hS r (Lg _ hr)) (hv 0 v v' rfl rfl);obtain⟨k2,k3⟩:=SU hf l ts2 R2 L2 l' h2 b (fun r hr=>hS r (Lt _ hr)) (by simpa using hl) fun i u u' x y=>hv (i+1) u u' (by simpa using x) (by simpa using y)
    refine⟨by simp[k2],fun i u u' x y=> ?_⟩;cases i with
    |zero=>
     simp only[Lq,YO]at x y;subst x y;exact k1.mono fun b x hx=>fZ (fun i hi=>Lg _ hi) hx
    |succ i=>
     exact(k3 i u u' (by simpa using x) (by simpa using y)).mono fun b x hx=>fZ (fun i hi=>Lt _ hi) hx
   ·cases h
  ·cases h
theorem KO(Q7:Ok B S μ (Qq H) w):∀(f:Nat) (v v' t:Value) (R:List Nat) (L:List Prop),VY H fz f v=some (t,R,L)->Qz L->(∀r∈R,S r)->VR μ v v'->TRv (Yo μ H w R) t v'
 |0,v,v',t,R,L,h,hL,hS,hv=>SS Q7 h hL hS hv
 |f+1,v,v',t,R,L,h,hL,hS,hv=>by
  have arr:∀{xs xs':Array Value} {l:List Value} {R:List Nat} {L:List Prop},Ks (VY H fz f) xs.toList=some (l,R,L)->Qz L->(∀r∈R,S r)->xs.size=xs'.size->(∀(i:Nat) v v',xs[i]? =some v->xs'[i]? =some v'->VR μ v v')->l.toArray.size=xs'.size/\∀(i:Nat) v v',l.toArray[i]? =some v->xs'[i]? =some v'->TRv (Yo μ H w R) v v':=by
   intro xs xs' l R L h hL hS hs hx;obtain⟨a,b⟩:=SU (fun v v' t R L=>KO Q7 f v v' t R L) xs.toList l R L xs'.toList h hL hS (by simpa using hs) fun i v v' x y=>hx i v v' (by simpa using x) (by simpa using y)
   exact⟨by simpa using a,fun i v v' x y=>b i v v' (by simpa using x) (by simpa using y)⟩
  cases v with
  |agg xs=>
   simp only[VY]at h;split at h
   ·rename_i l R1 L1 hl;simp only[YO,YR]at h;obtain⟨rfl,rfl,rfl⟩:=h;cases hv with
    |agg h1 h2=>exact .agg (arr hl hL hS h1 h2).1 (arr hl hL hS h1 h2).2
   ·cases h
  |tuple xs=>
   simp only[VY]at h;split at h
   ·rename_i l R1 L1 hl;simp only[YO,YR]at h;obtain⟨rfl,rfl,rfl⟩:=h;cases hv with
    |tuple h1 h2=>exact .tuple (arr hl hL hS h1 h2).1 (arr hl hL hS h1 h2).2
   ·cases h
  |iface ty x=>
   simp only[VY]at h;split at h
   ·rename_i l R1 L1 hl;simp only[YO,YR]at h;obtain⟨rfl,rfl,rfl⟩:=h;cases hv with
    |iface hv=>exact .iface (KO Q7 f _ _ _ _ _ hl hL hS hv)
   ·cases h
  |func fn xs ys=>
   cases fn with
   |func g=>
    simp only[VY]at h;split at h
    ·rename_i l R1 L1 hl;split at h
     ·rename_i m R2 L2 hm;simp only[YO,YR]at h;obtain⟨rfl,rfl,rfl⟩:=h;obtain⟨a,b⟩:=Xb hL;cases hv with
      |func h1 h2 h3 h4=>
       have k1:=arr hl a (fun r hr=>hS r (Lg _ hr)) h1 h3;have k2:=arr hm b (fun r hr=>hS r (Lt _ hr)) h2 h4;exact .func k1.1 k2.1 (fun i v v' x y=>(k1.2 i v v' x y).mono fun b x hx=>fZ (fun i hi=>Lg _ hi) hx)
        (fun i v v' x y=>(k2.2 i v v' x y).mono fun b x hx=>fZ (fun i hi=>Lt _ hi) hx)
     ·cases h
    ·cases h
   |_=>exact SS (fz:=fz) Q7 (by exact h) hL hS hv
  |_=>exact SS (fz:=fz) Q7 (by exact h) hL hS hv
end
theorem Post.region{B n:Nat}{S:Nat->Prop}{μ:Mu}{H:Qm}{w w':World}(Q7:Ok B S μ (Qq H) w)(hS:∀i,S i->i<n)(hf:μ n=none)(T7:Below w.heap.size w w')(fm:Nat->Option Obj)(hfm:∀b x,fm b=some x->w'.heap[b]? =some x)
 (X8:∀b x,fm b=some x->w.heap.size<=b\/∃k Ui ko,S k/\Qq H k=some ko/\Wm ko/\μ k=some Ui/\Ui.fm b=some x):Post B S n (n+1) [] μ (upd μ n ⟨0,0,0,false,fm⟩) H ((n,QV)::H) w w':=by
 have hp:=Post.ofBelow (n:=n) Q7 T7;have Kz:∀i,S i->i≠n:=fun i hi=>by have:=hS i hi;omega
 have PR:∀i,S i->upd μ n ⟨0,0,0,false,fm⟩ i=μ i:=fun i hi=>by simp[upd,Kz i hi]
 have hg:∀i,S i->Qq ((n,QV)::H) i=Qq H i:=fun i hi=>by rw[QU,if_neg (Kz i hi)]
 have UQ:Qq ((n,QV)::H) n=some QV:=by rw[QU,if_pos rfl]
 have isn:∀i,(n<=i/\i<n+1)->i=n:=fun i hi=>by omega
 refine⟨⟨fun i o hi ho hl=> ?_,fun i o im hi ho hl QD=> ?_,fun i j oi oj a b hi hj Rm ZZ ZY T5 Uj ha hb hra WG=> ?_,fun i o hi ho hr=> ?_,fun i j oi oj a b x hi hj ZZ ZY J3 Uj ha hb WG hx=> ?_⟩,by omega,fun i hi=> ?_,fun i hi _=> ?_,T7.size,fun b hb _=>T7.block b hb,fun i hi=>by simp at hi,
  fun i im o h1 h2 ho hl QD=> ?_,fun i im o hi ho hr QD b x hx=> ?_,T7.os,T7.tape,T7.output⟩
 ·rcases hi with hi|hi
  ·rw[hg i hi]at ho;obtain⟨im,QD,hr⟩:=hp.ok.rel i o (.inl hi) ho hl;exact⟨im,by rw[PR i hi];exact QD,hr.keep (KM hf) rfl⟩
  ·rw[isn i hi,UQ]at ho;cases ho;exact hl.elim
 ·rcases hi with hi|hi
  ·rw[hg i hi]at ho;rw[PR i hi]at QD;exact hp.ok.low i o im (.inl hi) ho hl QD
  ·rw[isn i hi,UQ]at ho;cases ho;exact hl.elim
 ·rcases hi with hi|hi
  ·rcases hj with hj|hj
   ·rw[hg i hi]at ZZ;rw[hg j hj]at ZY;rw[PR i hi]at ha;rw[PR j hj]at hb;exact Q7.inj i j oi oj a b hi hj Rm ZZ ZY T5 Uj ha hb hra WG
   ·rw[isn j hj,UQ]at ZY;cases ZY;exact Uj.elim
  ·rw[isn i hi,UQ]at ZZ;cases ZZ;exact T5.elim
 ·rcases hi with hi|hi
  ·rw[hg i hi]at ho;obtain⟨im,QD,h⟩:=hp.ok.Jv i o (.inl hi) ho hr;exact⟨im,by rw[PR i hi];exact QD,h⟩
  ·rw[isn i hi];exact⟨_,Xy,hfm⟩
 ·have hjS:S j:=hj.elim id fun h=>by rw[isn j h,UQ]at ZY;cases ZY;exact Uj.elim
  rw[hg j hjS]at ZY;rw[PR j hjS]at hb;rcases hi with hi|hi
  ·rw[hg i hi]at ZZ;rw[PR i hi]at ha;exact Q7.sep i j oi oj a b x hi hjS ZZ ZY J3 Uj ha hb WG hx
  ·rw[isn i hi,Xy]at ha;cases ha;rcases X8 _ _ hx with h|⟨k,Ui,ko,h1,h2,h3,h4,h5⟩
   ·have:=(Q7.low j oj b hjS ZY Uj hb).1;omega
   ·exact Q7.sep k j ko oj Ui b x h1 hjS h2 ZY h3 Uj h4 hb WG h5
 ·simp only[upd];rw[if_neg (by omega)]
 ·rw[QU,if_neg (by omega)]
 ·rw[isn i ⟨h1,h2⟩,UQ]at ho;cases ho;exact hl.elim
 ·have J4:=isn i (hi.elim id fun h=>by simp at h);subst J4;rw[Xy]at QD;cases QD;rcases X8 b x hx with h|⟨k,Ui,ko,h1,h2⟩
  ·exact .inl h
  ·exact .inr (.inl ⟨k,Ui,ko,h1,hS k h1,h2⟩)
end Go.CE

namespace Go.CE
open Go Go.RowKit

def mvS(ρ τ:Nat->Option Nat)(v:Value):Option Value:=bif simple v then some v else match v with
 | .func (.via r ⟨[]⟩ 0 true) ⟨[t]⟩ ⟨[]⟩=>match τ r with
   |some r'=>some (Qk r' t)
   |none=>none
 | .pointer (some ⟨k,o,none⟩)=>match ρ k with
   |some k'=>some (.pointer (some ⟨k',o,none⟩))
   |none=>none
 | .slice (some ⟨k,o,none⟩) m s=>match ρ k with
   |some k'=>some (.slice (some ⟨k',o,none⟩) m s)
   |none=>none
 | .map (some k)=>match ρ k with
   |some k'=>some (.map (some k'))
   |none=>none
 | .chan (some 0)=>some aP
 |_=>none
def Ih(f:Value->Option Value):List Value->Option (List Value)
 |[]=>some []
 |v::l=>match f v with
  |some u=>match Ih f l with
   |some m=>some (u::m)
   |none=>none
  |none=>none
def uc(ρ τ:Nat->Option Nat):Nat->Value->Option Value
 |0,v=>mvS ρ τ v
 |f+1,v=>match v with
  | .agg xs=>match Ih (uc ρ τ f) xs.toList with
    |some l=>some (.agg l.toArray)
    |none=>none
  | .tuple xs=>match Ih (uc ρ τ f) xs.toList with
    |some l=>some (.tuple l.toArray)
    |none=>none
  | .iface t x=>match uc ρ τ f x with
    |some y=>some (.iface t y)
    |none=>none
  | .func (.func g) xs ys=>match Ih (uc ρ τ f) xs.toList with
    |some l=>match Ih (uc ρ τ f) ys.toList with
     |some m=>some (.func (.func g) l.toArray m.toArray)
     |none=>none
    |none=>none
  |v=>mvS ρ τ v
theorem ka{f:Value->Option Value}:∀{l m:List Value},Ih f l=some m->m.length=l.length/\∀(i:Nat) u,m[i]? =some u->∃v,l[i]? =some v/\f v=some u
 |[],m,h=>by
  simp only[Ih,YO]at h;subst h;exact⟨rfl,fun i u h=>by simp at h⟩
 |v::l,m,h=>by
  simp only[Ih]at h;split at h
  ·rename_i u hu;split at h
   ·rename_i m' hm;simp only[YO]at h;subst h;obtain⟨a,b⟩:=ka hm;refine⟨by simp[a],fun i x hx=> ?_⟩;cases i with
    |zero=>
     simp only[Lq,YO]at hx;subst hx;exact⟨v,rfl,hu⟩
    |succ i=>exact b i x (by simpa using hx)
   ·cases h
  ·cases h
section
variable {μ μ1:Mu} {ρ τ:Nat->Option Nat}
theorem zQ(hρ:∀k k',ρ k=some k'->∀im,μ k=some im->μ1 k'=some im)(hτ:∀r r',τ r=some r'->∀im,μ r=some im->∃Z4,μ1 r'=some Z4/\∀b x,im.fm b=some x->Z4.fm b=some x){v v1 v':Value}(h:mvS ρ τ v=some v1)(hv:VR μ v v'):VR μ1 v1 v':=by
 unfold mvS at h;cases hs:simple v with
 |true=>
  rw[hs]at h;simp only[cond_true,YO]at h;subst h;rw[simple_eq hs hv];exact ZR hs
 |false=>
  rw[hs]at h;simp only[cond_false]at h;split at h
  ·rename_i r t;split at h
   ·rename_i r' hr;simp only[YO]at h;subst h;have hv:VR μ (Qk r t) v':=hv;cases hv with
    |top h0 h1 h2=>
     obtain⟨Z4,QO,hm⟩:=hτ r r' hr _ h1;exact .top h0 QO (h2.mono hm)
   ·cases h
  ·rename_i k o;split at h
   ·rename_i k' hk;simp only[YO]at h;subst h;cases hv with
    |ptr har=>
     obtain⟨im,h1,_,rfl⟩:=har;exact .ptr ⟨im,hρ k k' hk im h1,rfl,rfl⟩
   ·cases h
  ·rename_i k o m s;split at h
   ·rename_i k' hk;simp only[YO]at h;subst h;cases hv with
    |slice har h1 h2 h3=>
     obtain⟨im,hi,_,rfl⟩:=har;have hi1:=hρ k k' hk im hi;refine .slice ⟨im,hi1,rfl,rfl⟩ h1 h2 fun hs Z4 QO=> ?_
     rw[hi1]at QO;cases QO;exact h3 hs im hi
   ·cases h
  ·rename_i k;split at h
   ·rename_i k' hk;simp only[YO]at h;subst h;cases hv with
    |map hm=>exact .map (hρ k k' hk _ hm)
   ·cases h
  ·simp only[YO]at h;subst h;cases hv with
   |noCap=>exact .noCap
  ·cases h
theorem sA(hρ:∀k k',ρ k=some k'->∀im,μ k=some im->μ1 k'=some im)(hτ:∀r r',τ r=some r'->∀im,μ r=some im->∃Z4,μ1 r'=some Z4/\∀b x,im.fm b=some x->Z4.fm b=some x):∀(f:Nat) {v v1 v':Value},uc ρ τ f v=some v1->VR μ v v'->VR μ1 v1 v'
 |0,v,v1,v',h,hv=>zQ hρ hτ h hv
 |f+1,v,v1,v',h,hv=>by
  have arr:∀{xs xs':Array Value} {l:List Value},Ih (uc ρ τ f) xs.toList=some l->xs.size=xs'.size->(∀(i:Nat) v v',xs[i]? =some v->xs'[i]? =some v'->VR μ v v')->l.toArray.size=xs'.size/\∀(i:Nat) v v',l.toArray[i]? =some v->xs'[i]? =some v'->VR μ1 v v':=by
   intro xs xs' l hl hs hx;obtain⟨a,b⟩:=ka hl;refine⟨by simpa[a]using hs,fun i u u' hu hu'=> ?_⟩;obtain⟨v,hv1,hv2⟩:=b i u (by simpa using hu);exact sA hρ hτ f hv2 (hx i v u' (by simpa using hv1) hu')
  cases v with
  |agg xs=>
   simp only[uc]at h;split at h
   ·rename_i l hl;simp only[YO]at h;subst h;cases hv with
    |agg h1 h2=>exact .agg (arr hl h1 h2).1 (arr hl h1 h2).2
   ·cases h
  |tuple xs=>
   simp only[uc]at h;split at h
   ·rename_i l hl;simp only[YO]at h;subst h;cases hv with
    |tuple h1 h2=>exact .tuple (arr hl h1 h2).1 (arr hl h1 h2).2
   ·cases h
  |iface t x=>
   simp only[uc]at h;split at h
   ·rename_i y hy;simp only[YO]at h;subst h;cases hv with
    |iface hv=>exact .iface (sA hρ hτ f hy hv)
   ·cases h
  |func fn xs ys=>
   cases fn with
   |func g=>
    simp only[uc]at h;split at h
    ·rename_i l hl;split at h
     ·rename_i m hm;simp only[YO]at h;subst h;cases hv with
      |func h1 h2 h3 h4=>exact .func (arr hl h1 h3).1 (arr hm h2 h4).1 (arr hl h1 h3).2 (arr hm h2 h4).2
     ·cases h
    ·cases h
   |_=>exact zQ hρ hτ (by exact h) hv
  |_=>exact zQ hρ hτ (by exact h) hv
end
def Ey(cs:Array Value):Prop:=∀v∈cs,simple v=true
def mvE(f:Value->Option Value):List MapEntry->Option (List MapEntry)
 |[]=>some []
 |e::l=>match f e.val with
  |some u=>match mvE f l with
   |some m=>some ({e with val:=u}::m)
   |none=>none
  |none=>none
theorem Bn{f:Value->Option Value}:∀{l m:List MapEntry},mvE f l=some m->m.length=l.length/\∀(i:Nat) u,m[i]? =some u->∃v,l[i]? =some v/\u.key=v.key/\u.born=v.born/\f v.val=some u.val
 |[],m,h=>by
  simp only[mvE,YO]at h;subst h;exact⟨rfl,fun i u h=>by simp at h⟩
 |v::l,m,h=>by
  simp only[mvE]at h;split at h
  ·rename_i u hu;split at h
   ·rename_i m' hm;simp only[YO]at h;subst h;obtain⟨a,b⟩:=Bn hm;refine⟨by simp[a],fun i x hx=> ?_⟩;cases i with
    |zero=>
     simp only[Lq,YO]at hx;subst hx;exact⟨v,rfl,rfl,rfl,hu⟩
    |succ i=>exact b i x (by simpa using hx)
   ·cases h
  ·cases h
def QT:Array MapEntry->Prop:=fun es=> ∀(i:Nat) e,es[i]? =some e->af e.val=true
def mvO(f:Value->Option Value)(plain:Bool):Obj->Option (Obj×List Prop)
 | .cells cs t (0,0)=>bif plain then some (.cells cs t (0,0),[Ey cs])else match Ih f cs.toList with
   |some l=>some (.cells l.toArray t (0,0),[])
   |none=>none
 | .map es PT=>bif plain then some (.map es PT,[QT es])else match mvE f es.toList with
   |some l=>some (.map l.toArray PT,[])
   |none=>none
 |_=>none
theorem mS{f:Value->Option Value}{p:Bool}{o o1:Obj}{L:List Prop}(h:mvO f p o=some (o1,L)):(live o/\¬Wm o)/\live o1/\¬Wm o1:=by
 unfold mvO at h;split at h
 ·cases p with
  |true=>
   simp only[cond_true,YO,YR]at h;obtain⟨rfl,rfl⟩:=h;exact⟨⟨trivial,id⟩,trivial,id⟩
  |false=>
   simp only[cond_false]at h;split at h
   ·simp only[YO,YR]at h;obtain⟨rfl,rfl⟩:=h;exact⟨⟨trivial,id⟩,trivial,id⟩
   ·cases h
 ·cases p with
  |true=>
   simp only[cond_true,YO,YR]at h;obtain⟨rfl,rfl⟩:=h;exact⟨⟨trivial,id⟩,trivial,id⟩
  |false=>
   simp only[cond_false]at h;split at h
   ·simp only[YO,YR]at h;obtain⟨rfl,rfl⟩:=h;exact⟨⟨trivial,id⟩,trivial,id⟩
   ·cases h
 ·cases h
theorem zR{μ μ1:Mu}{f:Value->Option Value}(hf:∀v v1 v',f v=some v1->VR μ v v'->VR μ1 v1 v'){p:Bool}{o o1:Obj}{L:List Prop}(h:mvO f p o=some (o1,L))(hL:Qz L){w:World}{im:c7}(ZQ:OR μ w im o):OR μ1 w im o1/\im.rw=true:=by
 unfold mvO at h;split at h
 ·rename_i cs t;rcases ZQ with ⟨h1,h2,h3,arr,h4,h5,h6,h7⟩|⟨h1,_⟩
  ·refine⟨?_,h2⟩;cases p with
   |true=>
    simp only[cond_true,YO,YR]at h;obtain⟨rfl,rfl⟩:=h;refine .inl ⟨h1,h2,h3,arr,h4,h5,h6,fun i v hv=> ?_⟩;obtain⟨v',a,b⟩:=h7 i v hv;have hs:=hL.1 v (LJ hv);refine⟨v',a, ?_⟩;rw[simple_eq hs b];exact ZR hs
   |false=>
    simp only[cond_false]at h;split at h
    ·rename_i l hl;simp only[YO,YR]at h;obtain⟨rfl,rfl⟩:=h;obtain⟨a,b⟩:=ka hl;refine .inl ⟨h1,h2,h3,arr,h4,by simpa[a]using h5,h6,fun i v hv=> ?_⟩;obtain⟨u,Tz,hu2⟩:=b i v (by simpa using hv);obtain⟨v',x,y⟩:=h7 i u (by simpa using Tz);exact⟨v',x,hf u v v' hu2 y⟩
    ·cases h
  ·exact absurd rfl h1
 ·rename_i es PT;cases p with
  |true=>
   simp only[cond_true,YO,YR]at h;obtain⟨rfl,rfl⟩:=h;obtain⟨h1,K0,h2,h3,h4⟩:=ZQ;refine⟨⟨h1,K0,h2,h3,fun i e e' he he'=> ?_⟩,h1⟩;obtain⟨q1,q2,q3,q4⟩:=h4 i e e' he he';have ha:=hL.1 i e he;exact⟨q1,q2,q3,by rw[SM ha q4];exact Pc ha⟩
  |false=>
  simp only[cond_false]at h;split at h
  ·rename_i l hl;simp only[YO,YR]at h;obtain⟨rfl,rfl⟩:=h;obtain⟨a,b⟩:=Bn hl;obtain⟨h1,K0,h2,h3,h4⟩:=ZQ;refine⟨⟨h1,K0,h2,by simpa[a]using h3,fun i e e' he he'=> ?_⟩,h1⟩;obtain⟨u,Tz,hu2,hu3,hu4⟩:=b i e (by simpa using he);obtain⟨q1,q2,q3,q4⟩:=h4 i u e' (by simpa using Tz) he';exact⟨by rw[hu2];exact q1,by rw[hu3];exact q2,by rw[hu2];exact q3,hf u.val e.val e'.val hu4 q4⟩
  ·cases h
 ·cases h
def px(f:Value->Option Value):List Bool->List (Option Obj)->Option (List Obj×List Prop)
 |[],[]=>some ([],[])
 |p::ps,some o::l=>match mvO f p o with
  |some (o1,L)=>match px f ps l with
   |some (os,M)=>some (o1::os,L++M)
   |none=>none
  |none=>none
 |_,_=>none
theorem fN{f:Value->Option Value}:∀{ps:List Bool} {l:List (Option Obj)} {os:List Obj} {L:List Prop},px f ps l=some (os,L)->Qz L->os.length=l.length/\∀(i:Nat) o1,os[i]? =some o1->∃p o M,l[i]? =some (some o)/\mvO f p o=some (o1,M)/\Qz M
 |[],[],os,L,h,_=>by
  simp only[px,YO,YR]at h;obtain⟨rfl,rfl⟩:=h;exact⟨rfl,fun i u h=>by simp at h⟩
 |p::ps,some o::l,os,L,h,hL=>by
  simp only[px]at h;split at h
  ·rename_i o1 L1 h1;split at h
   ·rename_i os' M hm;simp only[YO,YR]at h;obtain⟨rfl,rfl⟩:=h;obtain⟨hL1,hL2⟩:=Xb hL;obtain⟨a,b⟩:=fN hm hL2;refine⟨by simp[a],fun i x hx=> ?_⟩;cases i with
    |zero=>
     simp only[Lq,YO]at hx;subst hx;exact⟨p,o,L1,rfl,h1,hL1⟩
    |succ i=>exact b i x (by simpa using hx)
   ·cases h
  ·cases h
 |[],_::_,_,_,h,_=>by simp[px]at h
 |_::_,[],_,_,h,_=>by simp[px]at h
 |_::_,none::_,_,_,h,_=>by simp[px]at h
def posOf:List Nat->Nat->Nat->Option Nat
 |[],_,_=>none
 |a::l,j,k=>bif Lf a k then some j else posOf l (j+1) k
theorem Tn:∀(l:List Nat) (j k i:Nat),posOf l j k=some i->j<=i/\l[i-j]? =some k
 |[],j,k,i,h=>by cases h
 |a::l,j,k,i,h=>by
  simp only[posOf]at h;cases e:Lf a k with
  |true=>
   rw[e]at h;simp only[cond_true,YO]at h;subst h;exact⟨Lw _,by simp[YE e]⟩
  |false=>
   rw[e]at h;simp only[cond_false]at h;obtain⟨h1,h2⟩:=Tn l (j+1) k i h;refine⟨by omega, ?_⟩;rw[show i-j=(i-(j+1))+1 by omega];simpa using h2
def QL:Nat->List Obj->Qm
 |_,[]=>[]
 |i,o::l=>(i,o)::QL (i+1) l
theorem Vo:∀(l:List Obj) (i j:Nat),Qq (QL i l) j=if i<=j then l[j-i]? else none
 |[],i,j=>by simp[QL,Qq]
 |o::l,i,j=>by
  simp only[QL,QU];by_cases h:j=i
  ·subst h;simp
  ·rw[if_neg h,Vo l (i+1) j];by_cases h2:i<=j
   ·rw[if_pos h2,if_pos (by omega),show j-i=(j-(i+1))+1 by omega];simp
   ·rw[if_neg h2,if_neg (by omega)]
def jv(bs:List Obj):Qm:=QL 1 bs++[(0,QV)]
def WriC(P:Program)(J:World->Prop)(g:FuncId)(args:Array Value)(bs:List Obj)(out:OO)(outs news:List Obj):Prop:=
 ∀(B:Lo),(∀w,B.has w->J w)->∀(μ:Mu) (w:World) (args':Array Value) (cs:List Frame),Ok B (fun i=>i<bs.length+1) μ (Qq (jv bs)) w->B.has w->(∀i,bs.length+1<=i->μ i=none)->VRs μ args args'->
  ∃XW w' μ',Post B (fun i=>i<bs.length+1) (bs.length+1) (bs.length+2+news.length) (Ly 1 bs.length) μ μ' (jv bs) (QL 1 outs++((bs.length+1,QV)::(QL (bs.length+2) news++jv bs))) w w'/\OR2 μ' out XW/\EndsAs P (Frame.enter P g args' .normal) cs w XW w'
theorem Qba{bs outs news:List Obj}{a:Nat}(i:Nat):Qq (QL 1 outs++((a,QV)::(QL (a+1) news++jv bs))) i=match Qq (QL 1 outs) i with|some o=>some o|none=>if i=a then some QV else match Qq (QL (a+1) news) i with|some o=>some o|none=>Qq (jv bs) i:=by
 rw[ZF];cases Qq (QL 1 outs) i with
 |some o=>rfl
 |none=>simp only;rw[QU,ZF];rfl
theorem kG(bs:List Obj)(i:Nat):Qq (jv bs) i=if i=0 then some QV else bs[i-1]? :=by
 unfold jv;rw[ZF,Vo];by_cases h:i=0
 ·subst h;simp[QU]
 ·rw[if_pos (by omega),if_neg h];cases hb:bs[i-1]? with
  |some o=>rfl
  |none=>simp only;rw[QU,if_neg h];rfl
def dnR(κ:List Nat)(k:Nat):Option Nat:=posOf κ 1 k
def dnT(R:List Nat)(r:Nat):Option Nat:=bif R.contains r then some 0 else none
def upR(κ:List Nat)(n:Nat)(i:Nat):Option Nat:=match i with
 |0=>none
 |i+1=>bif Ll i κ.length then κ[i]? else bif Lf i κ.length then none else some (n+(i-κ.length))
def upT(a n r:Nat):Option Nat:=bif Lf r 0 || Lf r a then some n else none
def Ig(f:Value->Option Value):OO->Option OO
 | .ret v=>match f v with
   |some u=>some (.ret u)
   |none=>none
 | .ZB v=>match f v with
   |some u=>some (.ZB u)
   |none=>none
def Mx(H:Qm)(n:Nat)(κ R:List Nat)(ps qs:List Bool)(args1:Array Value)(out:OO)(outs news:List Obj):Option (List Value×List Obj×OO×Qm×List Prop):=
 bif (κ.all fun k=>Ll k n) && distinct κ && (R.all fun r=>Ll r n && Xu (Qq H r)) && Lf outs.length κ.length then
  match Ih (uc (dnR κ) (dnT R) 4) args1.toList,px (uc (dnR κ) (dnT R) 4) ps (κ.map (Qq H)),Ig (uc (upR κ n) (upT (κ.length+1) n) 4) out,px (uc (upR κ n) (upT (κ.length+1) n) 4) ps (outs.map some),px (uc (upR κ n) (upT (κ.length+1) n) 4) qs (news.map some)with
  |some as,some (bs,L1),some o1,some (os,L2),some (ns,L3)=>some (as,bs,o1,κ.zip os++((n,QV)::QL (n+1) ns),L1++(L2++L3))
  |_,_,_,_,_=>none
 else none
theorem Mw{κ:List Nat}{os:List Obj}(hd:distinct κ=true)(hl:os.length=κ.length){j k:Nat}(hk:κ[j]? =some k):Qq (κ.zip os) k=os[j]? :=by
 induction κ generalizing os j with
 |nil=>simp at hk
 |cons a κ ih=>
  cases os with
  |nil=>simp at hl
  |cons o os=>
   rw[List.zip_cons_cons,QU];have inj:=JI hd;cases j with
   |zero=>
    simp only[Lq,YO]at hk;rw[if_pos hk.symm];rfl
   |succ j=>
    have Kz:k≠a:=fun e=>by
     have:=inj (j+1) 0 k hk (by simp[e]);omega
    rw[if_neg Kz];refine ih ?_ (by simpa using hl) (by simpa using hk);simp only[distinct,YB]at hd;exact hd.2
theorem kE:∀{κ:List Nat} {os:List Obj} {k:Nat},k ∉ κ->Qq (κ.zip os) k=none
 |[],_,_,_=>rfl
 |a::κ,[],_,_=>rfl
 |a::κ,o::os,k,h=>by
  rw[List.zip_cons_cons,QU,if_neg (fun e=>h (by simp[e]))];exact kE fun e=>h (Lj _ e)
section
variable {P:Program} {J:World->Prop} {B:Lo} {g:FuncId} {args args1:Array Value} {H:Qm} {n:Nat} {bs outs news:List Obj} {out out1:OO}
theorem WriC.callJ(h:WriC P J g args bs out outs news)(hJ:∀w,B.has w->J w)(κ R:List Nat)(ps qs:List Bool){as:List Value}{bs1:List Obj}{UN:Qm}{L:List Prop}(e:Mx H n κ R ps qs args1 out outs news=some (as,bs1,out1,UN,L))(hL:Qz L)(ha:as.toArray=args)(hb:bs1=bs):pk P B g args1 H n out1 (UN++H) (n+1+news.length) (κ++R) κ:=by
 subst hb;unfold Mx at e;cases hq:((κ.all fun k=>Ll k n) && distinct κ && (R.all fun r=>Ll r n && Xu (Qq H r)) && Lf outs.length κ.length)with
 |false=>rw[hq]at e;cases e
 |true=>
 rw[hq]at e;simp only[cond_true]at e;simp only[YB]at hq;obtain⟨⟨⟨q1,q2⟩,q3⟩,q4⟩:=hq;have q4:=YE q4;have κlt:∀k∈κ,k<n:=fun k hk=>YL (List.all_eq_true.1 q1 k hk)
 have Rlt:∀r∈R,r<n:=fun r hr=>by
  have:=List.all_eq_true.1 q3 r hr;simp only[YB]at this;exact YL this.1
 have Rreg:∀r∈R,Xu (Qq H r)=true:=fun r hr=>by
  have:=List.all_eq_true.1 q3 r hr;simp only[YB]at this;exact this.2
 have κinj:=JI q2;split at e
 ·rename_i as0 bs0 L1 o1 os L2 ns L3 e1 e2 e3 e4 e5;simp only[YO,YR]at e;obtain⟨rfl,rfl,rfl,rfl,rfl⟩:=e;obtain⟨hL1,hLr⟩:=Xb hL;obtain⟨hL2,hL3⟩:=Xb hLr;obtain⟨lb,gb⟩:=fN e2 hL1;obtain⟨lo,go⟩:=fN e4 hL2;obtain⟨ln,gnw⟩:=fN e5 hL3;simp only[List.length_map]at lb lo ln;obtain⟨la,gaa⟩:=ka e1;let a:=bs0.length+1
  let G2:Nat->Option Obj:=Qq ((κ.zip os++((n,QV)::QL (n+1) ns))++H)
  have upsG:∀i,G2 i=match Qq (κ.zip os) i with|some o=>some o|none=>if i=n then some QV else if n<i/\i<n+1+news.length then ns[i-(n+1)]? else Qq H i:=by
   intro i;show Qq ((κ.zip os++((n,QV)::QL (n+1) ns))++H) i=_;rw[ZF,ZF];cases hz:Qq (κ.zip os) i with
   |some o=>rfl
   |none=>
    simp only;rw[QU];by_cases hi:i=n
    ·rw[if_pos hi,if_pos hi]
    ·rw[if_neg hi,if_neg hi,Vo];by_cases h1:n+1<=i
     ·rw[if_pos h1];by_cases h2:i<n+1+news.length
      ·rw[if_pos ⟨by omega,h2⟩];have:i-(n+1)<ns.length:=by omega
       simp[this]
      ·rw[if_neg (by omega),LA (by omega)]
     ·rw[if_neg h1,if_neg (by omega)]
  have ownAt:∀{i k:Nat},κ[i]? =some k->∃o,bs0[i]? =some o:=fun {i k} hk=>by
   have:i<bs0.length:=by rw[lb];exact(List.getElem?_eq_some_iff.1 hk).1
   exact⟨bs0[i],by simp[this]⟩
  have newAt:∀{i k:Nat},κ[i]? =some k->∃o,os[i]? =some o:=fun {i k} hk=>by
   have:i<os.length:=by rw[lo,q4];exact(List.getElem?_eq_some_iff.1 hk).1
   exact⟨os[i],by simp[this]⟩
  have κne:∀k∈κ,k<n:=κlt;have zn:∀{i:Nat},n<=i->Qq (κ.zip os) i=none:=fun {i} hi=>kE fun hm=>absurd (κlt _ hm) (by omega)
  have gk:∀{j k:Nat},κ[j]? =some k->G2 k=os[j]? :=fun {j k} hk=>by
   rw[upsG,Mw q2 (by rw[lo,q4]) hk];obtain⟨o,ho⟩:=newAt hk;rw[ho]
  have gn:G2 n=some QV:=by rw[upsG,zn (Lw _)];simp
  have gw:∀{i:Nat},n<i->i<n+1+news.length->G2 i=ns[i-(n+1)]? :=fun {i} h1 h2=>by
   rw[upsG,zn (by omega)];simp only;rw[if_neg (by omega),if_pos ⟨h1,h2⟩]
  have gr:∀{i:Nat},i ∉ κ->¬(n<=i/\i<n+1+news.length)->G2 i=Qq H i:=fun {i} hi hn=>by
   rw[upsG,kE hi];simp only;rw[if_neg (by omega),if_neg (by omega)]
  refine⟨⟨by omega,fun i hi hw=> ?_,fun i hi=> ?_,fun i hi=>Lg _ hi,fun i hi=>by have:=κlt i hi;omega⟩,fun S μ w args' cs Q7 hB hS hf hv hR=> ?_⟩
  ·exact gr hw (by omega)
  ·exact gr (fun hm=>absurd (κlt _ hm) (by omega)) (by omega)
  have κS:∀k∈κ,S k:=fun k hk=>hR k (Lg _ hk) (κlt k hk)
  have RS:∀r∈R,S r:=fun r hr=>hR r (Lt _ hr) (Rlt r hr)
  -- the contract's memory
  let μc:Mu:=fun i=>match i with
   |0=>some ⟨0,0,0,false,Yo μ H w R⟩
   |i+1=>match κ[i]? with
    |some k=>μ k
    |none=>none
  have μ0:μc 0=some ⟨0,0,0,false,Yo μ H w R⟩:=rfl;have μs:∀{i k:Nat},κ[i]? =some k->μc (i+1)=μ k:=fun {i k} hk=>by show(match κ[i]? with|some k=>μ k|none=>none)=μ k;rw[hk]
  have hρ:∀k k',dnR κ k=some k'->∀im,μ k=some im->μc k'=some im:=fun k k' hk im QD=>by
   obtain⟨h1,h2⟩:=Tn κ 1 k k' hk;obtain⟨i,rfl⟩:∃i,k'=i+1:=⟨k'-1,by omega⟩
   rw[μs (i:=i) (by simpa using h2)];exact QD
  have hτ:∀r r',dnT R r=some r'->∀im,μ r=some im->∃Z4,μc r'=some Z4/\∀b x,im.fm b=some x->Z4.fm b=some x:=fun r r' hr im QD=>by
   unfold dnT at hr;cases hc:R.contains r with
   |false=>rw[hc]at hr;cases hr
   |true=>
    rw[hc]at hr;simp only[cond_true,YO]at hr;subst hr;have hm:r∈R:=by simpa using hc
    exact⟨_,μ0,fun b x hx=>kg Q7 hm (RS r hm) (Rreg r hm) QD hx⟩
  have dnVR:∀v v1 v',uc (dnR κ) (dnT R) 4 v=some v1->VR μ v v'->VR μc v1 v':=fun v v1 v'=>sA hρ hτ 4
  -- blocks of the contract
  have Zq:∀i o,i<a->Qq (jv bs0) i=some o->(i=0/\o=QV)\/∃j k o1,i=j+1/\κ[j]? =some k/\Qq H k=some o1/\(live o1/\¬Wm o1)/\(live o/\¬Wm o)/\∀im,OR μ w im o1->OR μc w im o/\im.rw=true:=by
   intro i o hi ho;rw[kG]at ho;by_cases h0:i=0
   ·rw[if_pos h0]at ho;cases ho;exact .inl ⟨h0,rfl⟩
   ·rw[if_neg h0]at ho;obtain⟨p,o1,M,g1,g2,g3⟩:=gb (i-1) o ho;rw[Lx]at g1;cases hk:κ[i-1]? with
    |none=>rw[hk]at g1;cases g1
    |some k=>
     rw[hk]at g1;simp only[LG,YO]at g1;obtain⟨m1,m2⟩:=mS g2;exact .inr ⟨i-1,k,o1,by omega,hk,g1,m1,m2,fun im ZQ=>zR dnVR g2 g3 ZQ⟩
  -- each of the caller's blocks, as it was
  have was:∀{j k:Nat},κ[j]? =some k->∃o1,Qq H k=some o1/\(live o1/\¬Wm o1)/\∀im,μ k=some im->im.rw=true:=fun {j k} hk=>by
   obtain⟨o0,ho0⟩:=ownAt hk;have Xi:j<κ.length:=(List.getElem?_eq_some_iff.1 hk).1;rcases Zq (j+1) o0 (by omega) (by rw[kG,if_neg (by omega)];simpa using ho0)with ⟨h,_⟩|⟨j',k',o1,hj',hk',hg,h1,h2,h3⟩
   ·omega
   ·obtain rfl:j=j':=by omega
    rw[hk]at hk';cases hk';refine⟨o1,hg,h1,fun im QD=> ?_⟩;obtain⟨im2,Wz,ZQ⟩:=Q7.rel k o1 (κS k (Lk hk)) hg h1.1;rw[QD]at Wz;cases Wz;exact(h3 im ZQ).2
  have sep0:∀{j k:Nat} {o1:Obj} {im:c7} {x:Obj},κ[j]? =some k->Qq H k=some o1->live o1->μ k=some im->im.rw=true->Yo μ H w R im.Zq≠some x:=by
   intro j k o1 im x hk ho hl QD Rl hx;have hx':=hx;unfold Yo at hx';split at hx'
   ·rename_i hc;obtain⟨i,hi,o,Z4,hg,QO,UP⟩:=hc;obtain⟨o',Ko,hr'⟩:=ZE (Rreg i hi);rw[hg]at Ko;cases Ko;rcases UP with ⟨_,Kz⟩|⟨hl',_⟩
    ·cases hy:Z4.fm im.Zq with
     |none=>exact Kz hy
     |some y=>exact Q7.sep i k o o1 Z4 im y (RS i hi) (κS k (Lk hk)) hg ho hr' hl QO QD Rl hy
    ·exact absurd hl' (by cases o <;> first|exact id|exact hr'.elim)
   ·cases hx'
  have hokc:Ok B.B (fun i=>i<a) μc (Qq (jv bs0)) w:=by
   refine⟨fun i o hi ho hl=> ?_,fun i o im hi ho hl QD=> ?_,fun i j oi oj x y hi hj Rm ZZ ZY T5 Uj hx hy hrx hry=> ?_,fun i o hi ho hr=> ?_,fun i j oi oj x y z hi hj ZZ ZY J3 Uj hx hy hry hz=> ?_⟩
   ·rcases Zq i o hi ho with ⟨_,rfl⟩|⟨j,k,o1,rfl,hk,hg,h1,h2,h3⟩
    ·exact hl.elim
    ·obtain⟨im,QD,ZQ⟩:=Q7.rel k o1 (κS k (Lk hk)) hg h1.1;exact⟨im,by rw[μs hk];exact QD,(h3 im ZQ).1⟩
   ·rcases Zq i o hi ho with ⟨_,rfl⟩|⟨j,k,o1,rfl,hk,hg,h1,h2,h3⟩
    ·exact hl.elim
    ·rw[μs hk]at QD;exact Q7.low k o1 im (κS k (Lk hk)) hg h1.1 QD
   ·rcases Zq i oi hi ZZ with ⟨_,rfl⟩|⟨j1,k1,o1,rfl,hk1,hg1,h1,_,_⟩
    ·exact T5.elim
    ·rcases Zq j oj hj ZY with ⟨_,rfl⟩|⟨j2,k2,o2,rfl,hk2,hg2,h2,_,_⟩
     ·exact Uj.elim
     ·rw[μs hk1]at hx;rw[μs hk2]at hy;refine Q7.inj k1 k2 o1 o2 x y (κS k1 (Lk hk1)) (κS k2 (Lk hk2)) (fun e=> ?_) hg1 hg2 h1.1 h2.1 hx hy hrx hry;subst e;exact Rm (by rw[κinj j1 j2 k1 hk1 hk2])
   ·rcases Zq i o hi ho with ⟨rfl,rfl⟩|⟨j,k,o1,rfl,hk,hg,h1,h2,h3⟩
    ·exact⟨_,μ0,fun b x hx=>WL hx⟩
    ·exact absurd hr h2.2
   ·rcases Zq i oi hi ZZ with ⟨rfl,rfl⟩|⟨j1,k1,o1,rfl,hk1,hg1,h1,h2,_⟩
    ·rcases Zq j oj hj ZY with ⟨_,rfl⟩|⟨j2,k2,o2,rfl,hk2,hg2,h2,_,_⟩
     ·exact Uj.elim
     ·rw[μ0]at hx;cases hx;rw[μs hk2]at hy;exact sep0 hk2 hg2 h2.1 hy hry hz
    ·exact absurd J3 h2.2
  have hVRs:VRs μc args args':=by
   rw[<-ha];refine⟨by simpa[la]using hv.1,fun i u u' hu hu'=> ?_⟩;obtain⟨v,hv1,hv2⟩:=gaa i u (by simpa using hu);exact dnVR v u u' hv2 (hv.2 i v u' (by simpa using hv1) hu')
  have Vx:∀i,a<=i->μc i=none:=fun i hi=>by
   cases i with
   |zero=>omega
   |succ i=>
    show(match κ[i]? with|some k=>μ k|none=>none)=none;rw[LA (by omega)]
  obtain⟨XW,w',μ',XE,hout,he⟩:=h B hJ μc w args' cs hokc hB Vx hVRs;have mu':∀i,i<a->μ' i=μc i:=fun i hi=>XE.ext i (by omega)
  let Gc:Nat->Option Obj:=Qq (QL 1 outs++((a,QV)::(QL (a+1) news++jv bs0)))
  have okG:Ok B.B (fun i=>i<a\/a<=i/\i<bs0.length+2+news.length) μ' Gc w':=XE.ok;have aS:∀i,(i<a\/a<=i/\i<bs0.length+2+news.length)<->i<a+1+news.length:=fun i=>by omega
  have Gc_get:∀i,Gc i=match Qq (QL 1 outs) i with|some o=>some o|none=>if i=a then some QV else match Qq (QL (a+1) news) i with|some o=>some o|none=>Qq (jv bs0) i:=fun i=>Qba i
  have hga:Gc a=some QV:=by
   rw[Gc_get,Vo,if_pos (show 1<=a by omega),LA (show outs.length<=a-1 by omega)];simp
  have X0:Gc 0=some QV:=by
   rw[Gc_get,Vo,if_neg (by omega)];simp only;rw[if_neg (by omega),Vo,if_neg (by omega)];simp only;rw[kG,if_pos rfl]
  obtain⟨ima,hima,hrega⟩:=okG.Jv a QV ((aS a).2 (by omega)) hga trivial;obtain⟨im0,him0,hreg0⟩:=okG.Jv 0 QV ((aS 0).2 (by omega)) X0 trivial;have e0:=him0;rw[mu' 0 (by omega),μ0]at e0;simp only[YO]at e0;let fm2:Nat->Option Obj:=fun b=>match Yo μ H w R b with
   |some x=>some x
   |none=>ima.fm b
  have fm2w:∀b x,fm2 b=some x->w'.heap[b]? =some x:=fun b x hx=>by
   have hx:(match Yo μ H w R b with|some x=>some x|none=>ima.fm b)=some x:=hx;cases hy:Yo μ H w R b with
   |some y=>rw[hy]at hx;cases hx;exact hreg0 b _ (by rw[<-e0];exact hy)
   |none=>rw[hy]at hx;exact hrega b x hx
  have fm2a:∀b x,ima.fm b=some x->fm2 b=some x:=fun b x hx=>by
   show(match Yo μ H w R b with|some x=>some x|none=>ima.fm b)=some x;cases hy:Yo μ H w R b with
   |some y=>
    have h1:=hrega b x hx;have h2:=hreg0 b y (by rw[<-e0];exact hy);rw[h1]at h2;exact h2.symm
   |none=>exact hx
  have fm20:∀b x,Yo μ H w R b=some x->fm2 b=some x:=fun b x hx=>by
   show(match Yo μ H w R b with|some x=>some x|none=>ima.fm b)=some x;rw[hx]
  let μ2:Mu:=fun i=>if i=n then some ⟨0,0,0,false,fm2⟩else if n<i/\i<n+1+news.length then μ' (a+1+(i-(n+1)))else μ i
  have hfn:∀i,n<=i->i<n+1+news.length->μ i=none:=fun i h1 h2=>hf i h1 h2
  have μ2n:μ2 n=some ⟨0,0,0,false,fm2⟩:=if_pos rfl;have μ2w:∀{i:Nat},n<i->i<n+1+news.length->μ2 i=μ' (a+1+(i-(n+1))):=fun {i} h1 h2=>by
   show(if i=n then some (⟨0,0,0,false,fm2⟩:c7)else if n<i/\i<n+1+news.length then μ' (a+1+(i-(n+1)))else μ i)=_;rw[if_neg (by omega),if_pos ⟨h1,h2⟩]
  have μ2o:∀{i:Nat},¬(n<=i/\i<n+1+news.length)->μ2 i=μ i:=fun {i} hi=>by
   show(if i=n then some (⟨0,0,0,false,fm2⟩:c7)else if n<i/\i<n+1+news.length then μ' (a+1+(i-(n+1)))else μ i)=_;rw[if_neg (by omega),if_neg (by omega)]
  have κno:∀{k:Nat},k∈κ->¬(n<=k/\k<n+1+news.length):=fun {k} hk=>by have:=κlt k hk;omega
  have Rno:∀{k:Nat},k∈R->¬(n<=k/\k<n+1+news.length):=fun {k} hk=>by have:=Rlt k hk;omega
  have μk:∀{j k:Nat},κ[j]? =some k->μ2 k=μ' (j+1):=fun {j k} hk=>by
   have:j<κ.length:=(List.getElem?_eq_some_iff.1 hk).1;rw[μ2o (κno (Lk hk)),mu' (j+1) (by omega),μs hk]
  have upVR:∀v v1 v',uc (upR κ n) (upT (κ.length+1) n) 4 v=some v1->VR μ' v v'->VR μ2 v1 v':=fun v v1 v' hv=>by
   refine sA (fun i k hk im QD=> ?_) (fun r r' hr im QD=> ?_) 4 hv
   ·cases i with
    |zero=>cases hk
    |succ i=>
     have hk:(bif Ll i κ.length then κ[i]? else bif Lf i κ.length then none else some (n+(i-κ.length)))=some k:=hk;cases h1:Ll i κ.length with
     |true=>
      rw[h1]at hk;simp only[cond_true]at hk;rw[μk hk];exact QD
     |false=>
      rw[h1]at hk;simp only[cond_false]at hk;cases h2:Lf i κ.length with
      |true=>rw[h2]at hk;cases hk
      |false=>
       rw[h2]at hk;simp only[cond_false,YO]at hk;subst hk;have h1':¬i<κ.length:=fun hh=>by rw[show Ll i κ.length=true from LC hh]at h1;cases h1
       have h2':i≠κ.length:=fun hh=>by rw[hh]at h2;simp at h2
       have Xi:i+1<a+1+news.length:=by
        rcases LF (i+1) (a+1+news.length)with h|h
        ·exact h
        ·have hex:=XE.ext (i+1) (by omega);rw[Vx (i+1) (by omega)]at hex;rw[hex]at QD;cases QD
       rw[μ2w (by omega) (by omega),show a+1+(n+(i-κ.length)-(n+1))=i+1 by omega];exact QD
   ·unfold upT at hr;cases hc:(Lf r 0 || Lf r (κ.length+1))with
    |false=>rw[hc]at hr;cases hr
    |true=>
     rw[hc]at hr;simp only[cond_true,YO]at hr;subst hr;refine⟨_,μ2n,fun b x hx=> ?_⟩;simp only[Bool.or_eq_true]at hc;rcases hc with hc|hc
     ·have:=YE hc;subst this;rw[him0]at QD;cases QD;exact fm20 b x (by rw[<-e0]at hx;exact hx)
     ·have:=YE hc;rw[this,<-lb]at QD;have QD:μ' a=some im:=QD;rw[hima]at QD;cases QD;exact fm2a b x hx
  have memκ:∀{k:Nat},k∈κ->∃j,κ[j]? =some k:=fun hk=>List.getElem?_of_mem hk
  have outW:∀{i:Nat},i∈Ly 1 bs0.length->∃j k,i=j+1/\κ[j]? =some k:=fun {i} hi=>by
   rw[List.mem_range'_1]at hi;have:i-1<κ.length:=by omega
   exact⟨i-1,κ[i-1],by omega,by simp[this]⟩
  -- where a block of the caller's stands in the contract
  let Pt:Nat->Nat->Prop:=fun i j=>(∃q,κ[q]? =some i/\j=q+1)\/(n<i/\i<n+1+news.length/\j=a+1+(i-(n+1)))
  have pt_inj:∀{i1 i2 j:Nat},Pt i1 j->Pt i2 j->i1=i2:=fun {i1 i2 j} h1 h2=>by
   rcases h1 with ⟨q1,hq1,rfl⟩|⟨h1,h1',rfl⟩
   ·have:=(List.getElem?_eq_some_iff.1 hq1).1;rcases h2 with ⟨q2,hq2,e⟩|⟨h2,h2',e⟩
    ·obtain rfl:q1=q2:=by omega
     rw[hq1]at hq2;cases hq2;rfl
    ·omega
   ·rcases h2 with ⟨q2,hq2,e⟩|⟨h2,h2',e⟩
    ·have:=(List.getElem?_eq_some_iff.1 hq2).1;omega
    ·omega
  have after:∀{i j:Nat},Pt i j->∃o o2,Gc j=some o/\G2 i=some o2/\j<a+1+news.length/\μ2 i=μ' j/\(live o/\¬Wm o)/\(live o2/\¬Wm o2)/\∀im,OR μ' w' im o->OR μ2 w' im o2/\im.rw=true:=fun {i j} hp=>by
   rcases hp with ⟨q,hq,rfl⟩|⟨h1,h2,rfl⟩
   ·have hql:=(List.getElem?_eq_some_iff.1 hq).1;have hj:q<outs.length:=by omega
    obtain⟨o2,ho2⟩:=newAt hq;obtain⟨p,o',M,g1,g2,g3⟩:=go q o2 ho2;rw[Lx,show outs[q]? =some outs[q]by simp[hj]]at g1;simp only[LG,YO]at g1;obtain⟨m1,m2⟩:=mS g2;refine⟨o',o2, ?_,by rw[gk hq,ho2],by omega,μk hq,m1,m2,fun im ZQ=>zR upVR g2 g3 ZQ⟩;rw[Gc_get,Vo,if_pos (by omega)];simp[hj,g1]
   ·have hi:i-(n+1)<news.length:=by omega
    have hi':i-(n+1)<ns.length:=by omega
    obtain⟨p,o',M,g1,g2,g3⟩:=gnw (i-(n+1)) ns[i-(n+1)] (by simp[hi']);rw[Lx,show news[i-(n+1)]? =some news[i-(n+1)]by simp[hi]]at g1;simp only[LG,YO]at g1;obtain⟨m1,m2⟩:=mS g2;refine⟨o',ns[i-(n+1)], ?_,by rw[gw h1 h2];simp[hi'],by omega,μ2w h1 h2,m1,m2,fun im ZQ=>zR upVR g2 g3 ZQ⟩;rw[Gc_get,Vo,if_pos (by omega),LA (by omega)];simp only;rw[if_neg (by omega),Vo,if_pos (by omega),show a+1+(i-(n+1))-(a+1)=i-(n+1)by omega];simp[hi,g1]
  have regNot:∀{i:Nat} {o:Obj},i∈κ->Qq H i=some o->live o/\¬Wm o:=fun {i o} hi ho=>by
   obtain⟨j,hj⟩:=memκ hi;obtain⟨o1,hg,h1,_⟩:=was hj;rw[ho]at hg;cases hg;exact h1
  have Rκ:∀{i:Nat},i∈R->i ∉ κ:=fun {i} hi hk=>by
   obtain⟨o,ho,hr⟩:=ZE (Rreg i hi);exact(regNot hk ho).2 hr
  -- what is live, and what is a region, behind the call
  have isPt:∀{i:Nat} {o:Obj},((i∈κ\/i∈R)\/(n<=i/\i<n+1+news.length))->G2 i=some o->live o->∃j,Pt i j:=fun {i o} hi ho hl=>by
   rcases hi with (hi|hi)|hi
   ·obtain⟨q,hq⟩:=memκ hi;exact⟨q+1,.inl ⟨q,hq,rfl⟩⟩
   ·rw[gr (Rκ hi) (Rno hi)]at ho;obtain⟨o',Ko,hr⟩:=ZE (Rreg i hi);rw[ho]at Ko;cases Ko;exact absurd hl (by cases o <;> first|exact id|exact hr.elim)
   ·by_cases e:i=n
    ·subst e;rw[gn]at ho;cases ho;exact hl.elim
    ·exact⟨_,.inr ⟨by omega,hi.2,rfl⟩⟩
  have isR:∀{i:Nat} {o:Obj},((i∈κ\/i∈R)\/(n<=i/\i<n+1+news.length))->G2 i=some o->Wm o->(i∈R/\Qq H i=some o)\/(i=n/\o=QV):=fun {i o} hi ho hr=>by
   rcases hi with (hi|hi)|hi
   ·obtain⟨q,hq⟩:=memκ hi;obtain⟨_,o2,_,h2,_,_,_,h5,_⟩:=after (.inl ⟨q,hq,rfl⟩);rw[h2]at ho;cases ho;exact absurd hr h5.2
   ·exact .inl ⟨hi,by rw[<-gr (Rκ hi) (Rno hi)];exact ho⟩
   ·by_cases e:i=n
    ·subst e;rw[gn]at ho;cases ho;exact .inr ⟨rfl,rfl⟩
    ·obtain⟨_,o2,_,h2,_,_,_,h5,_⟩:=after (i:=i) (.inr ⟨by omega,hi.2,rfl⟩);rw[h2]at ho;cases ho;exact absurd hr h5.2
  have frm:∀b,b<w.heap.size->(∀k∈κ,∀im,μ k=some im->im.Zq≠b)->w'.heap[b]? =w.heap[b]? :=fun b hb hx=>XE.frame b hb fun i hi hia im QD=>by
   obtain⟨j,k,rfl,hk⟩:=outW hi;rw[μs hk]at QD;exact hx k (Lk hk) im QD
  have newSz:∀{i j:Nat} {o:Obj} {im:c7},n<i->i<n+1+news.length->j=a+1+(i-(n+1))->Gc j=some o->live o->μ' j=some im->im.rw=true/\w.heap.size<=im.Zq:=fun {i j o im} h1 h2 hj ho hl QD=>by
   obtain⟨p,q⟩:=XE.fresh j im o (by omega) (by omega) ho hl QD;refine⟨p,q.elim id ?_⟩;rintro⟨k,hk,hka,QO,hd⟩;obtain⟨q',k',rfl,hk'⟩:=outW hk;obtain⟨o',_,h3,_,_,_,h4,_⟩:=after (.inl ⟨q',hk',rfl⟩);exact absurd h4.1 (hd o' h3)
  have hPG:PG B.B (fun i=>i∈κ\/i∈R) (fun i=>n<=i/\i<n+1+news.length) (fun i=>i∈κ) μ μ2 (Qq H) G2 w w':=by
   refine⟨⟨fun i o hi ho hl=> ?_,fun i o im hi ho hl QD=> ?_,fun i j oi oj x y hi hj Rm ZZ ZY T5 Uj hx hy hrx hry=> ?_,fun i o hi ho hr=> ?_,fun i j oi oj x y z hi hj ZZ ZY J3 Uj hx hy hry hz=> ?_⟩,fun i hi=>μ2o hi,fun i hi hw=>gr hw hi,XE.grow,fun b hb hx=>frm b hb hx,fun i hi=> ?_,fun i im o hi ho hl QD=> ?_,fun i im o hi ho hr QD b x hx=> ?_,XE.os,XE.tape,XE.output⟩
   ·obtain⟨j,hp⟩:=isPt hi ho hl;obtain⟨o',o2,h1,h2,h3,h4,h5,h6,h7⟩:=after hp;rw[h2]at ho;cases ho;obtain⟨im,QD,ZQ⟩:=okG.rel j o' ((aS j).2 h3) h1 h5.1;exact⟨im,by rw[h4];exact QD,(h7 im ZQ).1⟩
   ·obtain⟨j,hp⟩:=isPt hi ho hl;obtain⟨o',o2,h1,h2,h3,h4,h5,h6,h7⟩:=after hp;rw[h4]at QD;exact okG.low j o' im ((aS j).2 h3) h1 h5.1 QD
   ·obtain⟨j1,hp1⟩:=isPt hi ZZ T5;obtain⟨j2,YF⟩:=isPt hj ZY Uj;obtain⟨o1,_,g1,_,l1,m1,n1,_⟩:=after hp1;obtain⟨o2,_,g2,_,l2,m2,n2,_⟩:=after YF;rw[m1]at hx;rw[m2]at hy;refine okG.inj j1 j2 o1 o2 x y ((aS j1).2 l1) ((aS j2).2 l2) (fun e=> ?_) g1 g2 n1.1 n2.1 hx hy hrx hry;subst e;exact Rm (pt_inj hp1 YF)
   ·rcases isR hi ho hr with ⟨hi,hg⟩|⟨rfl,rfl⟩
    ·obtain⟨im,QD,hx⟩:=Q7.Jv i o (RS i hi) hg hr;refine⟨im,by rw[μ2o (Rno hi)];exact QD,fun b x hb=> ?_⟩;have hw:=hx b x hb;rw[frm b (Array.getElem?_eq_some_iff.1 hw).1 fun k hk Z4 QO hbb=> ?_]
     ·exact hw
     ·obtain⟨j,hj⟩:=memκ hk;obtain⟨o1,hg1,h1,h3⟩:=was hj;exact Q7.sep i k o o1 im Z4 x (RS i hi) (κS k hk) hg hg1 hr h1.1 QD QO (h3 Z4 QO) (by rw[hbb];exact hb)
    ·exact⟨_,μ2n,fm2w⟩
   ·obtain⟨q,hp⟩:=isPt hj ZY Uj;obtain⟨o',o2,h1,h2,h3,h4,h5,h6,h7⟩:=after hp;rcases isR hi ZZ J3 with ⟨hi,hg⟩|⟨rfl,rfl⟩
    ·rw[μ2o (Rno hi)]at hx;rcases hp with ⟨q',hq',rfl⟩|⟨g1,g2,rfl⟩
     ·obtain⟨o1,hg1,h1',_⟩:=was hq';rw[μ2o (κno (Lk hq'))]at hy;exact Q7.sep i j oi o1 x y z (RS i hi) (κS j (Lk hq')) hg hg1 J3 h1'.1 hx hy hry hz
     ·rw[h4]at hy;have Zi:=(newSz g1 g2 rfl h1 h5.1 hy).2;have:=Jx Q7 (RS i hi) hg J3 hx hz;omega
    ·rw[μ2n]at hx;cases hx;rw[h4]at hy;have hz:(match Yo μ H w R y.Zq with|some x=>some x|none=>ima.fm y.Zq)=some z:=hz;cases hu:Yo μ H w R y.Zq with
     |some u=>exact okG.sep 0 q QV o' im0 y u ((aS 0).2 (by omega)) ((aS q).2 h3) X0 h1 trivial h5.1 him0 hy hry (by rw[<-e0];exact hu)
     |none=>
      rw[hu]at hz;exact okG.sep a q QV o' ima y z ((aS a).2 (by omega)) ((aS q).2 h3) hga h1 trivial h5.1 hima hy hry hz
   ·obtain⟨j,hj⟩:=memκ hi;obtain⟨o1,hg1,h1,h3⟩:=was hj;obtain⟨im2,Wz,ZQ⟩:=Q7.rel i o1 (κS i hi) hg1 h1.1;exact⟨.inl hi,⟨o1,hg1,h1.1⟩,im2,Wz,h3 im2 Wz⟩
   ·obtain⟨j,hp⟩:=isPt (.inr hi) ho hl;obtain⟨o',o2,h1,h2,h3,h4,h5,h6,h7⟩:=after hp;rw[h4]at QD;rcases hp with ⟨q',hq',rfl⟩|⟨g1,g2,rfl⟩
    ·have:=κlt i (Lk hq');omega
    ·have:=newSz g1 g2 rfl h1 h5.1 QD;exact⟨this.1,.inl this.2⟩
   ·rcases isR (hi.elim .inr fun hi=>.inl (.inl hi)) ho hr with ⟨hiR,_⟩|⟨rfl,rfl⟩
    ·exact absurd (hi.elim (fun h=>absurd h (Rno hiR)) (fun h=>absurd h (Rκ hiR))) id
    rw[μ2n]at QD;cases QD;have XO:∀y,Yo μ H w R b=some y->∃k Ui ko,(k∈κ\/k∈R)/\Qq H k=some ko/\Wm ko/\μ k=some Ui/\Ui.fm b=some y:=fun y hy=>by
     have hw:=WL hy;unfold Yo at hy;split at hy
     ·rename_i hc;obtain⟨i,hi,o,Z4,hg,QO,UP⟩:=hc;obtain⟨o',Ko,hr'⟩:=ZE (Rreg i hi);rw[hg]at Ko;cases Ko;rcases UP with ⟨_,Kz⟩|⟨hl',_⟩
      ·cases hz:Z4.fm b with
       |none=>exact absurd hz Kz
       |some z=>
        obtain⟨im3,him3,hf3⟩:=Q7.Jv i o (RS i hi) hg hr';rw[QO]at him3;cases him3;have:=hf3 b z hz;rw[hw]at this;cases this;exact⟨i,Z4,o,.inr hi,hg,hr',QO,hz⟩
      ·exact absurd hl' (by cases o <;> first|exact id|exact hr'.elim)
     ·cases hy
    have hx:(match Yo μ H w R b with|some x=>some x|none=>ima.fm b)=some x:=hx;cases hu:Yo μ H w R b with
    |some u=>
     rw[hu]at hx;cases hx;exact .inr (.inl (XO _ hu))
    |none=>
     rw[hu]at hx;rcases XE.rf a ima QV (.inl ⟨Lw _,by omega⟩) hga trivial hima b x hx with q|⟨k,Ui,ko,k1,_,k3,k4,k5,k6⟩|⟨k,hk,hka,QO,hd⟩
     ·exact .inl q
     ·rcases Zq k ko k1 k3 with ⟨rfl,rfl⟩|⟨_,_,_,_,_,_,_,k7,_⟩
      ·rw[μ0]at k5;cases k5;have:Yo μ H w R b=some x:=k6;rw[hu]at this;cases this
      ·exact absurd k4 k7.2
     ·obtain⟨j,k',rfl,hk'⟩:=outW hk;obtain⟨o',_,h3,_,_,_,h4,_⟩:=after (.inl ⟨j,hk',rfl⟩);exact absurd h4.1 (hd o' h3)
  have hthen:=PG.then (G2:=G2) (PG.refl Q7) hPG (fun i hi=>.inl (hi.elim (κS i) (RS i))) (fun i _=>rfl) (fun i hi=>⟨fun hs=>by have:=hS i hs;omega,id⟩) (fun i hi=>hfn i hi.1 hi.2) (fun i _=>rfl) fun i hw hn=>gr hw hn
  have eW:(fun i=>False\/(i∈κ/\¬False))=fun i=>i∈κ/\i<n:=funext fun i=>propext ⟨fun hi=>hi.elim False.elim fun hi=>⟨hi.1,κlt i hi.1⟩,fun hi=>.inr ⟨hi.1,id⟩⟩
  have hthen:PG B.B S (fun i=>False\/(n<=i/\i<n+1+news.length)) (fun i=>False\/(i∈κ/\¬False)) μ μ2 (Qq H) G2 w w':=hthen;rw[eW]at hthen;refine⟨XW,w',μ2,hthen.post (fun i=>⟨fun hi=>hi.elim False.elim id,.inr⟩) (by omega) hS, ?_,he⟩;cases hout with
  |ret Vp=>
   unfold Ig at e3;split at e3
   ·rename_i v0 q0;cases q0;split at e3
    ·rename_i u Tz;simp only[YO]at e3;subst e3;exact .ret (upVR _ _ _ Tz Vp)
    ·cases e3
   ·rename_i v0 q0;cases q0
  |ZB Vp=>
   unfold Ig at e3;split at e3
   ·rename_i v0 q0;cases q0
   ·rename_i v0 q0;cases q0;split at e3
    ·rename_i u Tz;simp only[YO]at e3;subst e3;exact .ZB (upVR _ _ _ Tz Vp)
    ·cases e3
 ·cases e
end
end Go.CE
