/- SE 5: heads of loops, ends of calls. -/
import Derived.Test.YtncjjangllkokaaZRT07
import Derived.IntWalk
set_option linter.all false
namespace Go.CE
open Go Go.RowKit

def distinct:List Nat->Bool
 |[]=>true
 |a::l=>l.all (fun b=> !(Nat.beq a b)) && distinct l
theorem Y4{l:List Nat}(h:distinct l=true):∀(i j:Nat) a,l[i]? =some a->l[j]? =some a->i=j:=by
 induction l with
 |nil=>intro i j a hi;simp at hi
 |cons b l ih=>
  simp only[distinct,YB]at h;have Kw:∀a∈l,a≠b:=by
   intro a ha e;have:=List.all_eq_true.1 h.1 a ha;rw[e]at this;simp at this
  intro i j a hi hj;cases i with
  |zero=>
   cases j with
   |zero=>rfl
   |succ j=>
    simp only[List.getElem?_cons_zero,YO,List.getElem?_cons_succ]at hi hj;exact absurd hi.symm (Kw a (List.mem_of_getElem? hj))
  |succ i=>
   cases j with
   |zero=>
    simp only[List.getElem?_cons_zero,YO,List.getElem?_cons_succ]at hi hj;exact absurd hj.symm (Kw a (List.mem_of_getElem? hi))
   |succ j=>
    simp only[List.getElem?_cons_succ]at hi hj;rw[ih h.2 i j a hi hj]
section
variable {P:Program} {F:FuncId->Bool} {B:Lo}
end
def R6:Code->List Nat->Code
 |c,[]=>c
 | .seq a b,k::l=>bif Nat.beq k 0 then R6 a l else R6 b l
 | .cond _ a b,k::l=>bif Nat.beq k 0 then R6 a l else R6 b l
 | .block _ a,_::l=>R6 a l
 | .loop a,_::l=>R6 a l
 | .scope a,_::l=>R6 a l
 | .rangeFunc _ _ a b,k::l=>bif Nat.beq k 0 then R6 a l else R6 b l
 |c,_=>c
def QT(P:Program)(f:FuncId):Code:=match nth P.funcs.toList f with
 |some fn=>match fn.body with
  |some c=>c
  |none=>.skip
 |none=>.skip
inductive It where
 |code (l:List Nat)
 |inBlock (k:Nat)
 |inLoop (l:List Nat)
 |inScope (l:List Nat)
def it(b:Code):It->Item
 | .code l=>.code (R6 b l)
 | .inBlock k=>.inBlock k
 | .inLoop l=>.inLoop (R6 b l)
 | .inScope l=>.inScope (R6 b l)
def Qp(P:Program)(f:FuncId)(len:Nat)(args:List Value):CF:=⟨f,ofList len args,[.code (QT P f)],[],.run,none⟩
end Go.CE

namespace Go.CE
open Go Go.RowKit

theorem Xy{x:Int}(h1: -9223372036854775808<=x)(h2:x<=9223372036854775807):wq x=x:=by
 rw[Me];exact IntWalk.i64_in _ ⟨h1,h2⟩
theorem Ty{x:Int}(h1: -9223372036854775808<=x)(h2:x<=9223372036854775807):IntKind.i64.wrap x=x:=IntWalk.i64_in _ ⟨h1,h2⟩
theorem XF{a b:Int}(h:a<b):XU a b=true:=by rw[sy];simpa using h
theorem XO{a b:Int}(h:b<=a):XU a b=false:=by rw[sy];simpa using h
theorem Ua{a b:Int}(h:b<=a):(!XU a b)=true:=by rw[XO h];rfl
theorem Ub{a b:Int}(h:a<b):(!XU a b)=false:=by rw[XF h];rfl
theorem Pc{a b:Int}(h:a=b):Km a b=true:=by rw[fI];simpa using h
theorem Pd{a b:Int}(h:a≠b):Km a b=false:=by rw[fI];simpa using h

section
variable {P:Program} {B:Lo}
end
end Go.CE
namespace Go.CE
open Go Go.RowKit
section
variable {P:Program} {B:Lo}
end
end Go.CE

namespace Go.CE
open Go Go.RowKit

theorem TRv.mono{fm fm':Nat->Option Obj}(h:∀b x,fm b=some x->fm' b=some x){t v:Value}(ht:TRv fm t v):TRv fm' t v:=by
 induction ht with
 |simple h=>exact .simple h
 |agg h1 _ ih=>exact .agg h1 ih
 |tuple h1 _ ih=>exact .tuple h1 ih
 |iface _ ih=>exact .iface ih
 |func h1 h2 _ _ ih1 ih2=>exact .func h1 h2 ih1 ih2
 |slice h1 h2 h3 h4 _ ih=>exact .slice h1 h2 (h _ _ h3) h4 ih
 |nil=>exact .nil
 |empty h=>exact .empty h
 |ptr h1 h2 _ ih=>exact .ptr (h _ _ h1) h2 ih
theorem TRv.simple_eq{fm:Nat->Option Obj}{t v:Value}(h:CE.simple t=true)(ht:TRv fm t v):v=t:=by
 cases ht with
 |simple _=>rfl
 |func h1 h2 _ _=>
  simp only[CE.simple,YB,beq_iff_eq]at h;have e1:=Array.eq_empty_of_size_eq_zero h.1;have e2:=Array.eq_empty_of_size_eq_zero h.2;subst e1 e2;rw[Array.eq_empty_of_size_eq_zero h1.symm,Array.eq_empty_of_size_eq_zero h2.symm]
 |agg _ _=>cases h
 |tuple _ _=>cases h
 |iface _=>cases h
 |slice _ _ _ _ _=>cases h
 |nil=>cases h
 |empty _=>cases h
 |ptr _ _ _=>cases h
def ZA(r:Nat)(v:Value):Value:=bif simple v then v else Qt r v
def Q2(r:Nat):Nat->Value->Value
 |0,v=>ZA r v
 |f+1,v=>match v with
  | .agg xs=>.agg (xs.map (Q2 r f))
  | .tuple xs=>.tuple (xs.map (Q2 r f))
  | .iface t x=>.iface t (Q2 r f x)
  | .func (.func g) xs ys=>.func (.func g) (xs.map (Q2 r f)) (ys.map (Q2 r f))
  |v=>ZA r v
def rU:Nat->Value->Bool
 |0,v=>simple v || W6 v
 |f+1,v=>match v with
  | .agg xs=>xs.all (rU f)
  | .tuple xs=>xs.all (rU f)
  | .iface _ x=>rU f x
  | .func (.func _) xs ys=>xs.all (rU f) && ys.all (rU f)
  |v=>simple v || W6 v
section
variable {μ:Mu} {r:Nat} {im:aO}
theorem SA(hr:μ r=some im){v v':Value}(ho:(simple v || W6 v)=true)(h:TRv im.fm v v'):VR μ (ZA r v) v':=by
 unfold ZA;cases hs:simple v with
 |true=>rw[h.simple_eq hs];exact ZO hs
 |false=>
  rw[hs]at ho;exact .top (by simpa using ho) hr h
theorem PH(hr:μ r=some im):∀(f:Nat) (v v':Value),rU f v=true->TRv im.fm v v'->VR μ (Q2 r f v) v'
 |0,v,v',ho,h=>SA hr ho h
 |f+1,v,v',ho,h=>by
  have arr:∀{xs xs':Array Value},xs.all (rU f)=true->xs.size=xs'.size->(∀(i:Nat) v v',xs[i]? =some v->xs'[i]? =some v'->TRv im.fm v v')->(xs.map (Q2 r f)).size=xs'.size/\∀(i:Nat) v v',(xs.map (Q2 r f))[i]? =some v->xs'[i]? =some v'->VR μ v v':=by
   intro xs xs' ha hs hx;refine⟨by simpa using hs,fun i v v' hv ZY=> ?_⟩;rw[Array.getElem?_map]at hv;cases hy:xs[i]? with
   |none=>rw[hy]at hv;cases hv
   |some y=>
    rw[hy]at hv;simp only[Option.map_some,YO]at hv;subst hv;exact PH hr f y v' (Array.all_eq_true'.1 ha y (Array.mem_of_getElem? hy)) (hx i y v' hy ZY)
  cases v with
  |agg xs=>
   cases h with
   |simple h=>cases h
   |agg h1 h2=>exact .agg (arr ho h1 h2).1 (arr ho h1 h2).2
  |tuple xs=>
   cases h with
   |simple h=>cases h
   |tuple h1 h2=>exact .tuple (arr ho h1 h2).1 (arr ho h1 h2).2
  |iface t x=>
   cases h with
   |simple h=>cases h
   |iface h=>exact .iface (PH hr f x _ ho h)
  |func fn xs ys=>
   cases fn with
   |func g=>
    have ho:(xs.all (rU f) && ys.all (rU f))=true:=ho;simp only[YB]at ho;cases h with
    |simple hs=>
     simp only[simple,YB,beq_iff_eq]at hs;have e1:=Array.eq_empty_of_size_eq_zero hs.1;have e2:=Array.eq_empty_of_size_eq_zero hs.2;subst e1 e2;exact .func (by simp) (by simp) (fun i v v' hv=>by simp at hv) (fun i v v' hv=>by simp at hv)
    |func h1 h2 h3 h4=>exact .func (arr ho.1 h1 h3).1 (arr ho.2 h2 h4).1 (arr ho.1 h1 h3).2 (arr ho.2 h2 h4).2
   |_=>exact SA hr (by exact ho) h
  |_=>exact SA hr ho h
end
def SL:Nat->Value->Bool
 |0,v=>simple v
 |f+1,v=>match v with
  | .agg xs=>xs.all (SL f)
  | .tuple xs=>xs.all (SL f)
  | .iface _ x=>SL f x
  |v=>simple v
theorem fe{μ:Mu}{fm:Nat->Option Obj}:∀(f:Nat) (v v':Value),SL f v=true->TRv fm v v'->VR μ v v'
 |0,v,v',ho,h=>by rw[h.simple_eq ho];exact ZO ho
 |f+1,v,v',ho,h=>by
  have arr:∀{xs xs':Array Value},xs.all (SL f)=true->(∀(i:Nat) v v',xs[i]? =some v->xs'[i]? =some v'->TRv fm v v')->∀(i:Nat) v v',xs[i]? =some v->xs'[i]? =some v'->VR μ v v':=
   fun ha hx i v v' hv ZY=>fe f v v' (Array.all_eq_true'.1 ha v (Array.mem_of_getElem? hv)) (hx i v v' hv ZY)
  cases v with
  |agg xs=>
   cases h with
   |simple h=>cases h
   |agg h1 h2=>exact .agg h1 (arr ho h2)
  |tuple xs=>
   cases h with
   |simple h=>cases h
   |tuple h1 h2=>exact .tuple h1 (arr ho h2)
  |iface t x=>
   cases h with
   |simple h=>cases h
   |iface h=>exact .iface (fe f x _ ho h)
  |_=>
   rw[TRv.simple_eq (by exact ho) h];exact ZO (by exact ho)
def Xs:Option Obj->Bool
 |some (.coro _)=>true
 |_=>false
theorem ZB{o:Option Obj}(h:Xs o=true):∃x,o=some x/\Wb x:=by
 cases o with
 |none=>cases h
 |some x=>cases x <;> first|exact⟨_,rfl,trivial⟩|cases h
def fU:Value->Option (Nat×Nat×Array Value)
 | .func (.via r ⟨[]⟩ 0 true) ⟨[.func (.via n ⟨[]⟩ 0 false) ⟨[]⟩ cs]⟩ ⟨[]⟩=>some (r,n,cs)
 |_=>none
def tG:Value->Option (Nat×Nat×Array Value)
 | .func (.via r ⟨[]⟩ 0 true) ⟨[.func (.via off ⟨[]⟩ 1 true) ⟨[]⟩ cs]⟩ ⟨[]⟩=>some (r,off,cs)
 |_=>none
theorem P4{v:Value}{r n:Nat}{cs:Array Value}(h:fU v=some (r,n,cs)):v=Qt r (QE n cs):=by
 unfold fU at h;split at h
 ·simp only[YO,YR]at h;obtain⟨rfl,rfl,rfl⟩:=h;rfl
 ·cases h
theorem jZ{v:Value}{r off:Nat}{cs:Array Value}(h:tG v=some (r,off,cs)):v=Qt r (PM off cs):=by
 unfold tG at h;split at h
 ·simp only[YO,YR]at h;obtain⟨rfl,rfl,rfl⟩:=h;rfl
 ·cases h
theorem VR.top_inv{μ:Mu}{r:Nat}{t v':Value}(h:VR μ (Qt r t) v'):∃im,μ r=some im/\TRv im.fm t v':=by
 cases h with
 |top _ h1 h2=>exact⟨_,h1,h2⟩
theorem TRv.slice_inv{fm:Nat->Option Obj}{n:Nat}{cs:Array Value}{v':Value}(h:TRv fm (QE n cs) v'):((∃b o c' arr t fl,v'=.slice (some ⟨b,o,none⟩) n c'/\n<=c'/\c'<=maxLen/\fm b=some (.cells arr t fl)/\(∀i,i<cs.size->o+i<arr.size)/\(∀(i:Nat) v v',cs[i]? =some v->arr[o+i]? =some v'->TRv fm v v'))\/
 (n=0/\cs=#[]/\∃a c',v'=.slice a 0 c'/\c'<=maxLen)):=by
 cases h with
 |simple h=>cases h
 |slice h1 h2 h3 h5 h6=>exact .inl ⟨_,_,_,_,_,_,rfl,h1,h2,h3,h5,h6⟩
 |nil=>exact .inr ⟨rfl,rfl,none,0,rfl,Nat.zero_le _⟩
 |empty h=>exact .inr ⟨rfl,rfl,_,_,rfl,h⟩
theorem TRv.ptr_inv{fm:Nat->Option Obj}{off:Nat}{cs:Array Value}{v':Value}(h:TRv fm (PM off cs) v'):∃b o arr t fl,v'=.pointer (some ⟨b,o+off,none⟩)/\fm b=some (.cells arr t fl)/\(∀i,i<cs.size->o+i<arr.size)/\(∀(i:Nat) v v',cs[i]? =some v->arr[o+i]? =some v'->TRv fm v v'):=by
 cases h with
 |simple h=>cases h
 |ptr h1 h2 h3=>exact⟨_,_,_,_,_,rfl,h1,h2,h3⟩
end Go.CE

namespace Go.CE
open Go Go.RowKit

def TRvs(fm:Nat->Option Obj)(xs xs':Array Value):Prop:=xs.size=xs'.size/\∀(i:Nat) v v',xs[i]? =some v->xs'[i]? =some v'->TRv fm v v'
def Px(fm:Nat->Option Obj)(w w':World)(b:Nat):Option Obj:=if b<w.heap.size then fm b else w'.heap[b]?
def Qx(P:Program)(J:World->Prop)(g:FuncId)(targs:Array Value)(out:Value):Prop:=
 ∀(fm:Nat->Option Obj) (w:World) (args':Array Value),J w->(∀b x,fm b=some x->w.heap[b]? =some x)->TRvs fm targs args'->
  Calls P g args' w fun e w'=> ∃v',e=.returned v'/\Below w.heap.size w w'/\TRv (Px fm w w') out v'
structure Fz where
 k:Nat
 rs:List Nat
 cs:Array Value
def ig:List Fz->Nat->Option Fz
 |[],_=>none
 |x::l,k=>bif Nat.beq x.k k then some x else ig l k
def oB(rs:List Nat)(v v1:Value):Prop:=(simple v=true/\v1=v)\/∃r∈rs,v=Qt r v1/\W6 v1=true
def Zu(rs:List Nat)(cs cs1:Array Value):Prop:=cs.size=cs1.size/\∀(i:Nat) v v1,cs[i]? =some v->cs1[i]? =some v1->oB rs v v1
theorem aN{rs:List Nat}{cs:Array Value}(h:cs.all simple=true):Zu rs cs cs:=⟨rfl,fun i v v1 h1 h2=>by
 rw[h1]at h2;cases h2;exact .inl ⟨Array.all_eq_true'.1 h v (Array.mem_of_getElem? h1),rfl⟩⟩
def isNil:Value->Bool
 | .slice none 0 0=>true
 |_=>false
theorem Hq{v:Value}(h:isNil v=true):v=.slice none 0 0:=by
 unfold isNil at h;split at h
 ·rfl
 ·cases h
def rp(H:Qo)(fz:List Fz)(v:Value):Option (Value×List Nat×List Prop):=bif isNil v then some (QE 0 #[],[],[])else bif simple v then some (v,[],[])else match v with
 | .func (.via r ⟨[]⟩ 0 true) ⟨[t]⟩ ⟨[]⟩=>bif Xs (Qs H r)then some (t,[r],[])else none
 | .slice (some ⟨k,0,none⟩) n _=>match ig fz k,Qs H k with
   |some x,some (.cells cs _ (0,0))=>bif x.rs.all fun r=>Xs (Qs H r)then some (QE n x.cs,k::x.rs,[Zu x.rs cs x.cs])else none
   |_,_=>none
 | .pointer (some ⟨k,o,none⟩)=>match ig fz k,Qs H k with
   |some x,some (.cells cs _ (0,0))=>bif x.rs.all fun r=>Xs (Qs H r)then some (PM o x.cs,k::x.rs,[Zu x.rs cs x.cs])else none
   |_,_=>none
 |_=>none
def UL(f:Value->Option (Value×List Nat×List Prop)):List Value->Option (List Value×List Nat×List Prop)
 |[]=>some ([],[],[])
 |v::l=>match f v with
  |some (t,R,L)=>match UL f l with
   |some (ts,R2,L2)=>some (t::ts,R++R2,L++L2)
   |none=>none
  |none=>none
def VH(H:Qo)(fz:List Fz):Nat->Value->Option (Value×List Nat×List Prop)
 |0,v=>rp H fz v
 |f+1,v=>match v with
  | .agg xs=>match UL (VH H fz f) xs.toList with
    |some (l,R,L)=>some (.agg l.toArray,R,L)
    |none=>none
  | .tuple xs=>match UL (VH H fz f) xs.toList with
    |some (l,R,L)=>some (.tuple l.toArray,R,L)
    |none=>none
  | .iface t x=>match VH H fz f x with
    |some (x,R,L)=>some (.iface t x,R,L)
    |none=>none
  | .func (.func g) xs ys=>match UL (VH H fz f) xs.toList with
    |some (l,R,L)=>match UL (VH H fz f) ys.toList with
     |some (m,R2,L2)=>some (.func (.func g) l.toArray m.toArray,R++R2,L++L2)
     |none=>none
    |none=>none
  |v=>rp H fz v
theorem Xc{a b:List Prop}(h:Qz (a++b)):Qz a/\Qz b:=by
 induction a with
 |nil=>exact⟨trivial,h⟩
 |cons x a ih=>exact⟨⟨h.1,(ih h.2).1⟩,(ih h.2).2⟩
noncomputable def K0(μ:Mu)(H:Qo)(w:World)(R:List Nat)(b:Nat):Option Obj:=
 open Classical in if ∃i∈R,∃o im,Qs H i=some o/\μ i=some im/\((Wb o/\im.fm b≠none)\/(live o/\im.Zn=b))then w.heap[b]? else none
section
variable {B:Nat} {S:Nat->Prop} {μ:Mu} {H:Qo} {w:World} {fz:List Fz}
theorem WI{R:List Nat}{b:Nat}{x:Obj}(h:K0 μ H w R b=some x):w.heap[b]? =some x:=by
 unfold K0 at h;split at h
 ·exact h
 ·cases h
theorem dH{R R':List Nat}(hs:∀i∈R,i∈R'){b:Nat}{x:Obj}(h:K0 μ H w R b=some x):K0 μ H w R' b=some x:=by
 have hw:=WI h;unfold K0 at h ⊢;split at h
 ·rename_i hc;obtain⟨i,hi,r⟩:=hc;rw[if_pos ⟨i,hs i hi,r⟩];exact hw
 ·cases h
theorem js(QC:Ok B S μ (Qs H) w){R:List Nat}{r:Nat}(hr:r∈R)(hS:S r)(hg:Xs (Qs H r)=true){im:aO}(QF:μ r=some im){b:Nat}{x:Obj}(hx:im.fm b=some x):K0 μ H w R b=some x:=by
 obtain⟨o,ho,W9⟩:=ZB hg;obtain⟨Zz,QP,hf⟩:=QC.KL r o hS ho W9;rw[QF]at QP;cases QP;unfold K0;rw[if_pos ⟨r,hr,o,im,ho,QF,.inl ⟨W9,by rw[hx];simp⟩⟩];exact hf b x hx
theorem jt{R:List Nat}{k:Nat}(hk:k∈R){o:Obj}(hg:Qs H k=some o)(hl:live o){im:aO}(QF:μ k=some im):K0 μ H w R im.Zn=w.heap[im.Zn]? :=by
 unfold K0;rw[if_pos ⟨k,hk,o,im,hg,QF,.inr ⟨hl,rfl⟩⟩]
theorem a6(QC:Ok B S μ (Qs H) w){k:Nat}(hS:S k){cs:Array Value}{t:TypeId}(hg:Qs H k=some (.cells cs t (0,0))):∃im arr,μ k=some im/\im.rw=true/\im.off=0/\w.heap[im.Zn]? =some (.cells arr t (0,0))/\cs.size<=arr.size/\arr.size=im.cap/\∀(i:Nat) v,cs[i]? =some v->∃v',arr[i]? =some v'/\VR μ v v':=by
 obtain⟨im,QF,ZL⟩:=QC.rel k _ hS hg trivial;rcases ZL with ⟨_,h1,h2,arr,h3,h4,h5,h6⟩|⟨hz,_⟩
 ·exact⟨im,arr,QF,h1,h2,h3,h4,h5,h6⟩
 ·exact absurd rfl hz
theorem qT(QC:Ok B S μ (Qs H) w){R rs:List Nat}(hsub:∀r∈rs,r∈R)(hS:∀r∈R,S r)(W9:(rs.all fun r=>Xs (Qs H r))=true){v v1 v':Value}(h:oB rs v v1)(hv:VR μ v v'):TRv (K0 μ H w R) v1 v':=by
 rcases h with ⟨h1,rfl⟩|⟨r,hr,rfl,_⟩
 ·rw[simple_eq h1 hv];exact .simple h1
 ·obtain⟨im,QF,ht⟩:=hv.top_inv;exact ht.mono fun b x hx=>js QC (hsub r hr) (hS r (hsub r hr)) (List.all_eq_true.1 W9 r hr) QF hx
theorem RB(QC:Ok B S μ (Qs H) w){v v' t:Value}{R:List Nat}{L:List Prop}(h:rp H fz v=some (t,R,L))(hL:Qz L)(hS:∀r∈R,S r)(hv:VR μ v v'):TRv (K0 μ H w R) t v':=by
 unfold rp at h;cases hn:isNil v with
 |true=>
  rw[hn]at h;simp only[cond_true,YO,YR]at h;obtain⟨rfl,rfl,rfl⟩:=h;have:=Hq hn;subst this;cases hv;exact .nil
 |false=>
 rw[hn]at h;simp only[cond_false]at h;cases hs:simple v with
 |true=>
  rw[hs]at h;simp only[cond_true,YO,YR]at h;obtain⟨rfl,rfl,rfl⟩:=h;rw[simple_eq hs hv];exact .simple hs
 |false=>
  rw[hs]at h;simp only[cond_false]at h;split at h
  ·rename_i r t0;cases hg:Xs (Qs H r)with
   |false=>rw[hg]at h;cases h
   |true=>
    rw[hg]at h;simp only[cond_true,YO,YR]at h;obtain⟨rfl,rfl,rfl⟩:=h;obtain⟨im,QF,ht⟩:=VR.top_inv (r:=r) (t:=t0) hv;exact ht.mono fun b x hx=>js QC (by simp) (hS r (by simp)) hg QF hx
  ·rename_i k n _;split at h
   ·rename_i x cs ty hx hg;cases hr:(x.rs.all fun r=>Xs (Qs H r))with
    |false=>rw[hr]at h;cases h
    |true=>
     rw[hr]at h;simp only[cond_true,YO,YR]at h;obtain⟨rfl,rfl,rfl⟩:=h;obtain⟨⟨h2,h3⟩,_⟩:=hL;have hkS:=hS k (by simp);obtain⟨im,arr,QF,_,hoff,harr,hle,_,hcells⟩:=a6 QC hkS hg;cases hv with
     |slice har a b _=>
      obtain⟨im2,Wt,_,rfl⟩:=har;rw[QF]at Wt;cases Wt;rw[hoff];refine TRv.slice (o:=0) a b ((jt (by simp) hg trivial QF).trans harr) (fun i hi=>by omega) fun i v v' hv ZY=> ?_
      simp only[Nat.zero_add]at ZY;have hi:i<cs.size:=by rw[h2];exact(Array.getElem?_eq_some_iff.1 hv).1
      obtain⟨u,Sg,hu2⟩:=hcells i cs[i] (by simp[hi]);rw[ZY]at Sg;cases Sg;exact qT QC (fun r hr=>List.mem_cons_of_mem _ hr) hS hr (h3 i _ _ (by simp[hi]) hv) hu2
   ·cases h
  ·rename_i k o;split at h
   ·rename_i x cs ty hx hg;cases hr:(x.rs.all fun r=>Xs (Qs H r))with
    |false=>rw[hr]at h;cases h
    |true=>
     rw[hr]at h;simp only[cond_true,YO,YR]at h;obtain⟨rfl,rfl,rfl⟩:=h;obtain⟨⟨h2,h3⟩,_⟩:=hL;have hkS:=hS k (by simp);obtain⟨im,arr,QF,_,hoff,harr,hle,_,hcells⟩:=a6 QC hkS hg;cases hv with
     |ptr har=>
      obtain⟨im2,Wt,_,rfl⟩:=har;rw[QF]at Wt;cases Wt;rw[hoff];refine TRv.ptr (o:=0) ((jt (by simp) hg trivial QF).trans harr) (fun i hi=>by omega) fun i v v' hv ZY=> ?_
      simp only[Nat.zero_add]at ZY;have hi:i<cs.size:=by rw[h2];exact(Array.getElem?_eq_some_iff.1 hv).1
      obtain⟨u,Sg,hu2⟩:=hcells i cs[i] (by simp[hi]);rw[ZY]at Sg;cases Sg;exact qT QC (fun r hr=>List.mem_cons_of_mem _ hr) hS hr (h3 i _ _ (by simp[hi]) hv) hu2
   ·cases h
  ·cases h
theorem RC{f:Value->Option (Value×List Nat×List Prop)}(hf:∀v v' t R L,f v=some (t,R,L)->Qz L->(∀r∈R,S r)->VR μ v v'->TRv (K0 μ H w R) t v'):∀(l:List Value) (ts:List Value) (R:List Nat) (L:List Prop) (l':List Value),UL f l=some (ts,R,L)->Qz L->(∀r∈R,S r)->l.length=l'.length->(∀(i:Nat) v v',l[i]? =some v->l'[i]? =some v'->VR μ v v')->
 ts.length=l'.length/\∀(i:Nat) v v',ts[i]? =some v->l'[i]? =some v'->TRv (K0 μ H w R) v v'
 |[],ts,R,L,l',h,hL,hS,hl,hv=>by
  simp only[UL,YO,YR]at h;obtain⟨rfl,rfl,rfl⟩:=h;exact⟨hl,fun i v v' h=>by simp at h⟩
 |v::l,ts,R,L,[],h,hL,hS,hl,hv=>by simp at hl
 |v::l,ts,R,L,v'::l',h,hL,hS,hl,hv=>by
  simp only[UL]at h;split at h
  ·rename_i t R1 L1 h1;split at h
   ·rename_i ts2 R2 L2 h2;simp only[YO,YR]at h;obtain⟨rfl,rfl,rfl⟩:=h;obtain⟨a,b⟩:=Xc hL;have k1:=hf v v' t R1 L1 h1 a (fun r hr=>hS r (List.mem_append_left _ hr)) (hv 0 v v' rfl rfl);obtain⟨k2,k3⟩:=RC hf l ts2 R2 L2 l' h2 b (fun r hr=>hS r (List.mem_append_right _ hr)) (by simpa using hl) fun i u u' x y=>hv (i+1) u u' (by simpa using x) (by simpa using y)
    refine⟨by simp[k2],fun i u u' x y=> ?_⟩;cases i with
    |zero=>
     simp only[List.getElem?_cons_zero,YO]at x y;subst x y;exact k1.mono fun b x hx=>dH (fun i hi=>List.mem_append_left _ hi) hx
    |succ i=>
     exact(k3 i u u' (by simpa using x) (by simpa using y)).mono fun b x hx=>dH (fun i hi=>List.mem_append_right _ hi) hx
   ·cases h
  ·cases h
theorem Ko(QC:Ok B S μ (Qs H) w):∀(f:Nat) (v v' t:Value) (R:List Nat) (L:List Prop),VH H fz f v=some (t,R,L)->Qz L->(∀r∈R,S r)->VR μ v v'->TRv (K0 μ H w R) t v'
 |0,v,v',t,R,L,h,hL,hS,hv=>RB QC h hL hS hv
 |f+1,v,v',t,R,L,h,hL,hS,hv=>by
  have arr:∀{xs xs':Array Value} {l:List Value} {R:List Nat} {L:List Prop},UL (VH H fz f) xs.toList=some (l,R,L)->Qz L->(∀r∈R,S r)->xs.size=xs'.size->(∀(i:Nat) v v',xs[i]? =some v->xs'[i]? =some v'->VR μ v v')->l.toArray.size=xs'.size/\∀(i:Nat) v v',l.toArray[i]? =some v->xs'[i]? =some v'->TRv (K0 μ H w R) v v':=by
   intro xs xs' l R L h hL hS hs hx;obtain⟨a,b⟩:=RC (fun v v' t R L=>Ko QC f v v' t R L) xs.toList l R L xs'.toList h hL hS (by simpa using hs) fun i v v' x y=>hx i v v' (by simpa using x) (by simpa using y)
   exact⟨by simpa using a,fun i v v' x y=>b i v v' (by simpa using x) (by simpa using y)⟩
  cases v with
  |agg xs=>
   simp only[VH]at h;split at h
   ·rename_i l R1 L1 hl;simp only[YO,YR]at h;obtain⟨rfl,rfl,rfl⟩:=h;cases hv with
    |agg h1 h2=>exact .agg (arr hl hL hS h1 h2).1 (arr hl hL hS h1 h2).2
   ·cases h
  |tuple xs=>
   simp only[VH]at h;split at h
   ·rename_i l R1 L1 hl;simp only[YO,YR]at h;obtain⟨rfl,rfl,rfl⟩:=h;cases hv with
    |tuple h1 h2=>exact .tuple (arr hl hL hS h1 h2).1 (arr hl hL hS h1 h2).2
   ·cases h
  |iface ty x=>
   simp only[VH]at h;split at h
   ·rename_i l R1 L1 hl;simp only[YO,YR]at h;obtain⟨rfl,rfl,rfl⟩:=h;cases hv with
    |iface hv=>exact .iface (Ko QC f _ _ _ _ _ hl hL hS hv)
   ·cases h
  |func fn xs ys=>
   cases fn with
   |func g=>
    simp only[VH]at h;split at h
    ·rename_i l R1 L1 hl;split at h
     ·rename_i m R2 L2 hm;simp only[YO,YR]at h;obtain⟨rfl,rfl,rfl⟩:=h;obtain⟨a,b⟩:=Xc hL;cases hv with
      |func h1 h2 h3 h4=>
       have k1:=arr hl a (fun r hr=>hS r (List.mem_append_left _ hr)) h1 h3;have k2:=arr hm b (fun r hr=>hS r (List.mem_append_right _ hr)) h2 h4;exact .func k1.1 k2.1 (fun i v v' x y=>(k1.2 i v v' x y).mono fun b x hx=>dH (fun i hi=>List.mem_append_left _ hi) hx)
        (fun i v v' x y=>(k2.2 i v v' x y).mono fun b x hx=>dH (fun i hi=>List.mem_append_right _ hi) hx)
     ·cases h
    ·cases h
   |_=>exact RB (fz:=fz) QC (by exact h) hL hS hv
  |_=>exact RB (fz:=fz) QC (by exact h) hL hS hv
end
theorem Post.region{B n:Nat}{S:Nat->Prop}{μ:Mu}{H:Qo}{w w':World}(QC:Ok B S μ (Qs H) w)(hS:∀i,S i->i<n)(hf:μ n=none)(Si:Below w.heap.size w w')(fm:Nat->Option Obj)(hfm:∀b x,fm b=some x->w'.heap[b]? =some x)
 (X5:∀b x,fm b=some x->w.heap.size<=b\/∃k VP ko,S k/\Qs H k=some ko/\Wb ko/\μ k=some VP/\VP.fm b=some x):Post B S n (n+1) [] μ (upd μ n ⟨0,0,0,false,fm⟩) H ((n,Xa)::H) w w':=by
 have hp:=Post.ofBelow (n:=n) QC Si;have Kw:∀i,S i->i≠n:=fun i hi=>by have:=hS i hi;omega
 have R8:∀i,S i->upd μ n ⟨0,0,0,false,fm⟩ i=μ i:=fun i hi=>by simp[upd,Kw i hi]
 have hg:∀i,S i->Qs ((n,Xa)::H) i=Qs H i:=fun i hi=>by rw[QV,if_neg (Kw i hi)]
 have Kx:Qs ((n,Xa)::H) n=some Xa:=by rw[QV,if_pos rfl]
 have isn:∀i,(n<=i/\i<n+1)->i=n:=fun i hi=>by omega
 refine⟨⟨fun i o hi ho hl=> ?_,fun i o im hi ho hl QF=> ?_,fun i j oi oj a b hi hj Pa ZT ZS P0 VQ ha hb hra Kl=> ?_,fun i o hi ho hr=> ?_,fun i j oi oj a b x hi hj ZT ZS Yt VQ ha hb Kl hx=> ?_⟩,by omega,fun i hi=> ?_,fun i hi _=> ?_,Si.size,fun b hb _=>Si.block b hb,fun i hi=>by simp at hi,
  fun i im o h1 h2 ho hl QF=> ?_,fun i im o hi ho hr QF b x hx=> ?_,Si.os,Si.tape,Si.output⟩
 ·rcases hi with hi|hi
  ·rw[hg i hi]at ho;obtain⟨im,QF,hr⟩:=hp.ok.rel i o (.inl hi) ho hl;exact⟨im,by rw[R8 i hi];exact QF,hr.keep (Kn hf) rfl⟩
  ·rw[isn i hi,Kx]at ho;cases ho;exact hl.elim
 ·rcases hi with hi|hi
  ·rw[hg i hi]at ho;rw[R8 i hi]at QF;exact hp.ok.low i o im (.inl hi) ho hl QF
  ·rw[isn i hi,Kx]at ho;cases ho;exact hl.elim
 ·rcases hi with hi|hi
  ·rcases hj with hj|hj
   ·rw[hg i hi]at ZT;rw[hg j hj]at ZS;rw[R8 i hi]at ha;rw[R8 j hj]at hb;exact QC.inj i j oi oj a b hi hj Pa ZT ZS P0 VQ ha hb hra Kl
   ·rw[isn j hj,Kx]at ZS;cases ZS;exact VQ.elim
  ·rw[isn i hi,Kx]at ZT;cases ZT;exact P0.elim
 ·rcases hi with hi|hi
  ·rw[hg i hi]at ho;obtain⟨im,QF,h⟩:=hp.ok.KL i o (.inl hi) ho hr;exact⟨im,by rw[R8 i hi];exact QF,h⟩
  ·rw[isn i hi];exact⟨_,Xu,hfm⟩
 ·have hjS:S j:=hj.elim id fun h=>by rw[isn j h,Kx]at ZS;cases ZS;exact VQ.elim
  rw[hg j hjS]at ZS;rw[R8 j hjS]at hb;rcases hi with hi|hi
  ·rw[hg i hi]at ZT;rw[R8 i hi]at ha;exact QC.sep i j oi oj a b x hi hjS ZT ZS Yt VQ ha hb Kl hx
  ·rw[isn i hi,Xu]at ha;cases ha;rcases X5 _ _ hx with h|⟨k,VP,ko,h1,h2,h3,h4,h5⟩
   ·have:=(QC.low j oj b hjS ZS VQ hb).1;omega
   ·exact QC.sep k j ko oj VP b x h1 hjS h2 ZS h3 VQ h4 hb Kl h5
 ·simp only[upd];rw[if_neg (by omega)]
 ·rw[QV,if_neg (by omega)]
 ·rw[isn i ⟨h1,h2⟩,Kx]at ho;cases ho;exact hl.elim
 ·have JZ:=isn i (hi.elim id fun h=>by simp at h);subst JZ;rw[Xu]at QF;cases QF;rcases X5 b x hx with h|⟨k,VP,ko,h1,h2⟩
  ·exact .inl h
  ·exact .inr (.inl ⟨k,VP,ko,h1,hS k h1,h2⟩)
end Go.CE

namespace Go.CE
open Go Go.RowKit

def O6(ρ τ:Nat->Option Nat)(v:Value):Option Value:=bif simple v then some v else match v with
 | .func (.via r ⟨[]⟩ 0 true) ⟨[t]⟩ ⟨[]⟩=>match τ r with
   |some r'=>some (Qt r' t)
   |none=>none
 | .pointer (some ⟨k,o,none⟩)=>match ρ k with
   |some k'=>some (.pointer (some ⟨k',o,none⟩))
   |none=>none
 | .slice (some ⟨k,o,none⟩) m s=>match ρ k with
   |some k'=>some (.slice (some ⟨k',o,none⟩) m s)
   |none=>none
 | .map (some k)=>match ρ k with
   |some k'=>some (.map (some k'))
   |none=>none
 | .chan (some 0)=>some Ti
 |_=>none
def GH(f:Value->Option Value):List Value->Option (List Value)
 |[]=>some []
 |v::l=>match f v with
  |some u=>match GH f l with
   |some m=>some (u::m)
   |none=>none
  |none=>none
def tB(ρ τ:Nat->Option Nat):Nat->Value->Option Value
 |0,v=>O6 ρ τ v
 |f+1,v=>match v with
  | .agg xs=>match GH (tB ρ τ f) xs.toList with
    |some l=>some (.agg l.toArray)
    |none=>none
  | .tuple xs=>match GH (tB ρ τ f) xs.toList with
    |some l=>some (.tuple l.toArray)
    |none=>none
  | .iface t x=>match tB ρ τ f x with
    |some y=>some (.iface t y)
    |none=>none
  | .func (.func g) xs ys=>match GH (tB ρ τ f) xs.toList with
    |some l=>match GH (tB ρ τ f) ys.toList with
     |some m=>some (.func (.func g) l.toArray m.toArray)
     |none=>none
    |none=>none
  |v=>O6 ρ τ v
theorem jo{f:Value->Option Value}:∀{l m:List Value},GH f l=some m->m.length=l.length/\∀(i:Nat) u,m[i]? =some u->∃v,l[i]? =some v/\f v=some u
 |[],m,h=>by
  simp only[GH,YO]at h;subst h;exact⟨rfl,fun i u h=>by simp at h⟩
 |v::l,m,h=>by
  simp only[GH]at h;split at h
  ·rename_i u hu;split at h
   ·rename_i m' hm;simp only[YO]at h;subst h;obtain⟨a,b⟩:=jo hm;refine⟨by simp[a],fun i x hx=> ?_⟩;cases i with
    |zero=>
     simp only[List.getElem?_cons_zero,YO]at hx;subst hx;exact⟨v,rfl,hu⟩
    |succ i=>exact b i x (by simpa using hx)
   ·cases h
  ·cases h
section
variable {μ μ1:Mu} {ρ τ:Nat->Option Nat}
theorem zW(hρ:∀k k',ρ k=some k'->∀im,μ k=some im->μ1 k'=some im)(hτ:∀r r',τ r=some r'->∀im,μ r=some im->∃Zz,μ1 r'=some Zz/\∀b x,im.fm b=some x->Zz.fm b=some x){v v1 v':Value}(h:O6 ρ τ v=some v1)(hv:VR μ v v'):VR μ1 v1 v':=by
 unfold O6 at h;cases hs:simple v with
 |true=>
  rw[hs]at h;simp only[cond_true,YO]at h;subst h;rw[simple_eq hs hv];exact ZO hs
 |false=>
  rw[hs]at h;simp only[cond_false]at h;split at h
  ·rename_i r t;split at h
   ·rename_i r' hr;simp only[YO]at h;subst h;have hv:VR μ (Qt r t) v':=hv;cases hv with
    |top h0 h1 h2=>
     obtain⟨Zz,QP,hm⟩:=hτ r r' hr _ h1;exact .top h0 QP (h2.mono hm)
   ·cases h
  ·rename_i k o;split at h
   ·rename_i k' hk;simp only[YO]at h;subst h;cases hv with
    |ptr har=>
     obtain⟨im,h1,_,rfl⟩:=har;exact .ptr ⟨im,hρ k k' hk im h1,rfl,rfl⟩
   ·cases h
  ·rename_i k o m s;split at h
   ·rename_i k' hk;simp only[YO]at h;subst h;cases hv with
    |slice har h1 h2 h3=>
     obtain⟨im,hi,_,rfl⟩:=har;have hi1:=hρ k k' hk im hi;refine .slice ⟨im,hi1,rfl,rfl⟩ h1 h2 fun hs Zz QP=> ?_
     rw[hi1]at QP;cases QP;exact h3 hs im hi
   ·cases h
  ·rename_i k;split at h
   ·rename_i k' hk;simp only[YO]at h;subst h;cases hv with
    |map hm=>exact .map (hρ k k' hk _ hm)
   ·cases h
  ·simp only[YO]at h;subst h;cases hv with
   |noCap=>exact .noCap
  ·cases h
theorem rV(hρ:∀k k',ρ k=some k'->∀im,μ k=some im->μ1 k'=some im)(hτ:∀r r',τ r=some r'->∀im,μ r=some im->∃Zz,μ1 r'=some Zz/\∀b x,im.fm b=some x->Zz.fm b=some x):∀(f:Nat) {v v1 v':Value},tB ρ τ f v=some v1->VR μ v v'->VR μ1 v1 v'
 |0,v,v1,v',h,hv=>zW hρ hτ h hv
 |f+1,v,v1,v',h,hv=>by
  have arr:∀{xs xs':Array Value} {l:List Value},GH (tB ρ τ f) xs.toList=some l->xs.size=xs'.size->(∀(i:Nat) v v',xs[i]? =some v->xs'[i]? =some v'->VR μ v v')->l.toArray.size=xs'.size/\∀(i:Nat) v v',l.toArray[i]? =some v->xs'[i]? =some v'->VR μ1 v v':=by
   intro xs xs' l hl hs hx;obtain⟨a,b⟩:=jo hl;refine⟨by simpa[a]using hs,fun i u u' hu hu'=> ?_⟩;obtain⟨v,hv1,hv2⟩:=b i u (by simpa using hu);exact rV hρ hτ f hv2 (hx i v u' (by simpa using hv1) hu')
  cases v with
  |agg xs=>
   simp only[tB]at h;split at h
   ·rename_i l hl;simp only[YO]at h;subst h;cases hv with
    |agg h1 h2=>exact .agg (arr hl h1 h2).1 (arr hl h1 h2).2
   ·cases h
  |tuple xs=>
   simp only[tB]at h;split at h
   ·rename_i l hl;simp only[YO]at h;subst h;cases hv with
    |tuple h1 h2=>exact .tuple (arr hl h1 h2).1 (arr hl h1 h2).2
   ·cases h
  |iface t x=>
   simp only[tB]at h;split at h
   ·rename_i y hy;simp only[YO]at h;subst h;cases hv with
    |iface hv=>exact .iface (rV hρ hτ f hy hv)
   ·cases h
  |func fn xs ys=>
   cases fn with
   |func g=>
    simp only[tB]at h;split at h
    ·rename_i l hl;split at h
     ·rename_i m hm;simp only[YO]at h;subst h;cases hv with
      |func h1 h2 h3 h4=>exact .func (arr hl h1 h3).1 (arr hm h2 h4).1 (arr hl h1 h3).2 (arr hm h2 h4).2
     ·cases h
    ·cases h
   |_=>exact zW hρ hτ (by exact h) hv
  |_=>exact zW hρ hτ (by exact h) hv
end
def Ej(cs:Array Value):Prop:=∀v∈cs,simple v=true
def Og(f:Value->Option Value):List MapEntry->Option (List MapEntry)
 |[]=>some []
 |e::l=>match f e.val with
  |some u=>match Og f l with
   |some m=>some ({e with val:=u}::m)
   |none=>none
  |none=>none
theorem Bk{f:Value->Option Value}:∀{l m:List MapEntry},Og f l=some m->m.length=l.length/\∀(i:Nat) u,m[i]? =some u->∃v,l[i]? =some v/\u.key=v.key/\u.born=v.born/\f v.val=some u.val
 |[],m,h=>by
  simp only[Og,YO]at h;subst h;exact⟨rfl,fun i u h=>by simp at h⟩
 |v::l,m,h=>by
  simp only[Og]at h;split at h
  ·rename_i u hu;split at h
   ·rename_i m' hm;simp only[YO]at h;subst h;obtain⟨a,b⟩:=Bk hm;refine⟨by simp[a],fun i x hx=> ?_⟩;cases i with
    |zero=>
     simp only[List.getElem?_cons_zero,YO]at hx;subst hx;exact⟨v,rfl,rfl,rfl,hu⟩
    |succ i=>exact b i x (by simpa using hx)
   ·cases h
  ·cases h
def XE:Array MapEntry->Prop:=fun es=> ∀(i:Nat) e,es[i]? =some e->af e.val=true
def NA(f:Value->Option Value)(plain:Bool):Obj->Option (Obj×List Prop)
 | .cells cs t (0,0)=>bif plain then some (.cells cs t (0,0),[Ej cs])else match GH f cs.toList with
   |some l=>some (.cells l.toArray t (0,0),[])
   |none=>none
 | .map es JG=>bif plain then some (.map es JG,[XE es])else match Og f es.toList with
   |some l=>some (.map l.toArray JG,[])
   |none=>none
 |_=>none
theorem mo{f:Value->Option Value}{p:Bool}{o o1:Obj}{L:List Prop}(h:NA f p o=some (o1,L)):(live o/\¬Wb o)/\live o1/\¬Wb o1:=by
 unfold NA at h;split at h
 ·cases p with
  |true=>
   simp only[cond_true,YO,YR]at h;obtain⟨rfl,rfl⟩:=h;exact⟨⟨trivial,id⟩,trivial,id⟩
  |false=>
   simp only[cond_false]at h;split at h
   ·simp only[YO,YR]at h;obtain⟨rfl,rfl⟩:=h;exact⟨⟨trivial,id⟩,trivial,id⟩
   ·cases h
 ·cases p with
  |true=>
   simp only[cond_true,YO,YR]at h;obtain⟨rfl,rfl⟩:=h;exact⟨⟨trivial,id⟩,trivial,id⟩
  |false=>
   simp only[cond_false]at h;split at h
   ·simp only[YO,YR]at h;obtain⟨rfl,rfl⟩:=h;exact⟨⟨trivial,id⟩,trivial,id⟩
   ·cases h
 ·cases h
theorem zX{μ μ1:Mu}{f:Value->Option Value}(hf:∀v v1 v',f v=some v1->VR μ v v'->VR μ1 v1 v'){p:Bool}{o o1:Obj}{L:List Prop}(h:NA f p o=some (o1,L))(hL:Qz L){w:World}{im:aO}(ZL:OR μ w im o):OR μ1 w im o1/\im.rw=true:=by
 unfold NA at h;split at h
 ·rename_i cs t;rcases ZL with ⟨h1,h2,h3,arr,h4,h5,h6,h7⟩|⟨h1,_⟩
  ·refine⟨?_,h2⟩;cases p with
   |true=>
    simp only[cond_true,YO,YR]at h;obtain⟨rfl,rfl⟩:=h;refine .inl ⟨h1,h2,h3,arr,h4,h5,h6,fun i v hv=> ?_⟩;obtain⟨v',a,b⟩:=h7 i v hv;have hs:=hL.1 v (Array.mem_of_getElem? hv);refine⟨v',a, ?_⟩;rw[simple_eq hs b];exact ZO hs
   |false=>
    simp only[cond_false]at h;split at h
    ·rename_i l hl;simp only[YO,YR]at h;obtain⟨rfl,rfl⟩:=h;obtain⟨a,b⟩:=jo hl;refine .inl ⟨h1,h2,h3,arr,h4,by simpa[a]using h5,h6,fun i v hv=> ?_⟩;obtain⟨u,Sg,hu2⟩:=b i v (by simpa using hv);obtain⟨v',x,y⟩:=h7 i u (by simpa using Sg);exact⟨v',x,hf u v v' hu2 y⟩
    ·cases h
  ·exact absurd rfl h1
 ·rename_i es JG;cases p with
  |true=>
   simp only[cond_true,YO,YR]at h;obtain⟨rfl,rfl⟩:=h;obtain⟨h1,US,h2,h3,h4⟩:=ZL;refine⟨⟨h1,US,h2,h3,fun i e e' he he'=> ?_⟩,h1⟩;obtain⟨q1,q2,q3,q4⟩:=h4 i e e' he he';have ha:=hL.1 i e he;exact⟨q1,q2,q3,by rw[Rz ha q4];exact Jd ha⟩
  |false=>
  simp only[cond_false]at h;split at h
  ·rename_i l hl;simp only[YO,YR]at h;obtain⟨rfl,rfl⟩:=h;obtain⟨a,b⟩:=Bk hl;obtain⟨h1,US,h2,h3,h4⟩:=ZL;refine⟨⟨h1,US,h2,by simpa[a]using h3,fun i e e' he he'=> ?_⟩,h1⟩;obtain⟨u,Sg,hu2,hu3,hu4⟩:=b i e (by simpa using he);obtain⟨q1,q2,q3,q4⟩:=h4 i u e' (by simpa using Sg) he';exact⟨by rw[hu2];exact q1,by rw[hu3];exact q2,by rw[hu2];exact q3,hf u.val e.val e'.val hu4 q4⟩
  ·cases h
 ·cases h
def oL(f:Value->Option Value):List Bool->List (Option Obj)->Option (List Obj×List Prop)
 |[],[]=>some ([],[])
 |p::ps,some o::l=>match NA f p o with
  |some (o1,L)=>match oL f ps l with
   |some (os,M)=>some (o1::os,L++M)
   |none=>none
  |none=>none
 |_,_=>none
theorem dt{f:Value->Option Value}:∀{ps:List Bool} {l:List (Option Obj)} {os:List Obj} {L:List Prop},oL f ps l=some (os,L)->Qz L->os.length=l.length/\∀(i:Nat) o1,os[i]? =some o1->∃p o M,l[i]? =some (some o)/\NA f p o=some (o1,M)/\Qz M
 |[],[],os,L,h,_=>by
  simp only[oL,YO,YR]at h;obtain⟨rfl,rfl⟩:=h;exact⟨rfl,fun i u h=>by simp at h⟩
 |p::ps,some o::l,os,L,h,hL=>by
  simp only[oL]at h;split at h
  ·rename_i o1 L1 h1;split at h
   ·rename_i os' M hm;simp only[YO,YR]at h;obtain⟨rfl,rfl⟩:=h;obtain⟨hL1,hL2⟩:=Xc hL;obtain⟨a,b⟩:=dt hm hL2;refine⟨by simp[a],fun i x hx=> ?_⟩;cases i with
    |zero=>
     simp only[List.getElem?_cons_zero,YO]at hx;subst hx;exact⟨p,o,L1,rfl,h1,hL1⟩
    |succ i=>exact b i x (by simpa using hx)
   ·cases h
  ·cases h
 |[],_::_,_,_,h,_=>by simp[oL]at h
 |_::_,[],_,_,h,_=>by simp[oL]at h
 |_::_,none::_,_,_,h,_=>by simp[oL]at h
def posOf:List Nat->Nat->Nat->Option Nat
 |[],_,_=>none
 |a::l,j,k=>bif Nat.beq a k then some j else posOf l (j+1) k
theorem RO:∀(l:List Nat) (j k i:Nat),posOf l j k=some i->j<=i/\l[i-j]? =some k
 |[],j,k,i,h=>by cases h
 |a::l,j,k,i,h=>by
  simp only[posOf]at h;cases e:Nat.beq a k with
  |true=>
   rw[e]at h;simp only[cond_true,YO]at h;subst h;exact⟨Nat.le_refl _,by simp[YE e]⟩
  |false=>
   rw[e]at h;simp only[cond_false]at h;obtain⟨h1,h2⟩:=RO l (j+1) k i h;refine⟨by omega, ?_⟩;rw[show i-j=(i-(j+1))+1 by omega];simpa using h2
def QU:Nat->List Obj->Qo
 |_,[]=>[]
 |i,o::l=>(i,o)::QU (i+1) l
theorem Vd:∀(l:List Obj) (i j:Nat),Qs (QU i l) j=if i<=j then l[j-i]? else none
 |[],i,j=>by simp[QU,Qs]
 |o::l,i,j=>by
  simp only[QU,QV];by_cases h:j=i
  ·subst h;simp
  ·rw[if_neg h,Vd l (i+1) j];by_cases h2:i<=j
   ·rw[if_pos h2,if_pos (by omega),show j-i=(j-(i+1))+1 by omega];simp
   ·rw[if_neg h2,if_neg (by omega)]
def iC(bs:List Obj):Qo:=QU 1 bs++[(0,Xa)]
def WriC(P:Program)(J:World->Prop)(g:FuncId)(args:Array Value)(bs:List Obj)(out:OO)(outs news:List Obj):Prop:=
 ∀(B:Lo),(∀w,B.has w->J w)->∀(μ:Mu) (w:World) (args':Array Value) (cs:List Frame),Ok B (fun i=>i<bs.length+1) μ (Qs (iC bs)) w->B.has w->(∀i,bs.length+1<=i->μ i=none)->VRs μ args args'->
  ∃XY w' μ',Post B (fun i=>i<bs.length+1) (bs.length+1) (bs.length+2+news.length) (List.range' 1 bs.length) μ μ' (iC bs) (QU 1 outs++((bs.length+1,Xa)::(QU (bs.length+2) news++iC bs))) w w'/\OR2 μ' out XY/\EndsAs P (Frame.enter P g args' .normal) cs w XY w'
theorem Nt{bs outs news:List Obj}{a:Nat}(i:Nat):Qs (QU 1 outs++((a,Xa)::(QU (a+1) news++iC bs))) i=match Qs (QU 1 outs) i with|some o=>some o|none=>if i=a then some Xa else match Qs (QU (a+1) news) i with|some o=>some o|none=>Qs (iC bs) i:=by
 rw[ZC];cases Qs (QU 1 outs) i with
 |some o=>rfl
 |none=>simp only;rw[QV,ZC];rfl
theorem jG(bs:List Obj)(i:Nat):Qs (iC bs) i=if i=0 then some Xa else bs[i-1]? :=by
 unfold iC;rw[ZC,Vd];by_cases h:i=0
 ·subst h;simp[QV]
 ·rw[if_pos (by omega),if_neg h];cases hb:bs[i-1]? with
  |some o=>rfl
  |none=>simp only;rw[QV,if_neg h];rfl
def O7(κ:List Nat)(k:Nat):Option Nat:=posOf κ 1 k
def Ot(R:List Nat)(r:Nat):Option Nat:=bif R.contains r then some 0 else none
def O4(κ:List Nat)(n:Nat)(i:Nat):Option Nat:=match i with
 |0=>none
 |i+1=>bif Nat.blt i κ.length then κ[i]? else bif Nat.beq i κ.length then none else some (n+(i-κ.length))
def NG(a n r:Nat):Option Nat:=bif Nat.beq r 0 || Nat.beq r a then some n else none
def GG(f:Value->Option Value):OO->Option OO
 | .ret v=>match f v with
   |some u=>some (.ret u)
   |none=>none
 | .Z6 v=>match f v with
   |some u=>some (.Z6 u)
   |none=>none
def Io(H:Qo)(n:Nat)(κ R:List Nat)(ps qs:List Bool)(args1:Array Value)(out:OO)(outs news:List Obj):Option (List Value×List Obj×OO×Qo×List Prop):=
 bif (κ.all fun k=>Nat.blt k n) && distinct κ && (R.all fun r=>Nat.blt r n && Xs (Qs H r)) && Nat.beq outs.length κ.length then
  match GH (tB (O7 κ) (Ot R) 4) args1.toList,oL (tB (O7 κ) (Ot R) 4) ps (κ.map (Qs H)),GG (tB (O4 κ n) (NG (κ.length+1) n) 4) out,oL (tB (O4 κ n) (NG (κ.length+1) n) 4) ps (outs.map some),oL (tB (O4 κ n) (NG (κ.length+1) n) 4) qs (news.map some)with
  |some as,some (bs,L1),some o1,some (os,L2),some (ns,L3)=>some (as,bs,o1,κ.zip os++((n,Xa)::QU (n+1) ns),L1++(L2++L3))
  |_,_,_,_,_=>none
 else none
theorem Il{κ:List Nat}{os:List Obj}(hd:distinct κ=true)(hl:os.length=κ.length){j k:Nat}(hk:κ[j]? =some k):Qs (κ.zip os) k=os[j]? :=by
 induction κ generalizing os j with
 |nil=>simp at hk
 |cons a κ ih=>
  cases os with
  |nil=>simp at hl
  |cons o os=>
   rw[List.zip_cons_cons,QV];have inj:=Y4 hd;cases j with
   |zero=>
    simp only[List.getElem?_cons_zero,YO]at hk;rw[if_pos hk.symm];rfl
   |succ j=>
    have Kw:k≠a:=fun e=>by
     have:=inj (j+1) 0 k hk (by simp[e]);omega
    rw[if_neg Kw];refine ih ?_ (by simpa using hl) (by simpa using hk);simp only[distinct,YB]at hd;exact hd.2
theorem j9:∀{κ:List Nat} {os:List Obj} {k:Nat},k ∉ κ->Qs (κ.zip os) k=none
 |[],_,_,_=>rfl
 |a::κ,[],_,_=>rfl
 |a::κ,o::os,k,h=>by
  rw[List.zip_cons_cons,QV,if_neg (fun e=>h (by simp[e]))];exact j9 fun e=>h (List.mem_cons_of_mem _ e)
section
variable {P:Program} {J:World->Prop} {B:Lo} {g:FuncId} {args args1:Array Value} {H:Qo} {n:Nat} {bs outs news:List Obj} {out out1:OO}
theorem WriC.callJ(h:WriC P J g args bs out outs news)(hJ:∀w,B.has w->J w)(κ R:List Nat)(ps qs:List Bool){as:List Value}{bs1:List Obj}{Ux:Qo}{L:List Prop}(e:Io H n κ R ps qs args1 out outs news=some (as,bs1,out1,Ux,L))(hL:Qz L)(ha:as.toArray=args)(hb:bs1=bs):oC P B g args1 H n out1 (Ux++H) (n+1+news.length) (κ++R) κ:=by
 subst hb;unfold Io at e;cases hq:((κ.all fun k=>Nat.blt k n) && distinct κ && (R.all fun r=>Nat.blt r n && Xs (Qs H r)) && Nat.beq outs.length κ.length)with
 |false=>rw[hq]at e;cases e
 |true=>
 rw[hq]at e;simp only[cond_true]at e;simp only[YB]at hq;obtain⟨⟨⟨q1,q2⟩,q3⟩,q4⟩:=hq;have q4:=YE q4;have κlt:∀k∈κ,k<n:=fun k hk=>YL (List.all_eq_true.1 q1 k hk)
 have Rlt:∀r∈R,r<n:=fun r hr=>by
  have:=List.all_eq_true.1 q3 r hr;simp only[YB]at this;exact YL this.1
 have Rreg:∀r∈R,Xs (Qs H r)=true:=fun r hr=>by
  have:=List.all_eq_true.1 q3 r hr;simp only[YB]at this;exact this.2
 have κinj:=Y4 q2;split at e
 ·rename_i as0 bs0 L1 o1 os L2 ns L3 e1 e2 e3 e4 e5;simp only[YO,YR]at e;obtain⟨rfl,rfl,rfl,rfl,rfl⟩:=e;obtain⟨hL1,hLr⟩:=Xc hL;obtain⟨hL2,hL3⟩:=Xc hLr;obtain⟨lb,gb⟩:=dt e2 hL1;obtain⟨lo,go⟩:=dt e4 hL2;obtain⟨ln,gnw⟩:=dt e5 hL3;simp only[List.length_map]at lb lo ln;obtain⟨la,gaa⟩:=jo e1;let a:=bs0.length+1
  let G2:Nat->Option Obj:=Qs ((κ.zip os++((n,Xa)::QU (n+1) ns))++H)
  have upsG:∀i,G2 i=match Qs (κ.zip os) i with|some o=>some o|none=>if i=n then some Xa else if n<i/\i<n+1+news.length then ns[i-(n+1)]? else Qs H i:=by
   intro i;show Qs ((κ.zip os++((n,Xa)::QU (n+1) ns))++H) i=_;rw[ZC,ZC];cases hz:Qs (κ.zip os) i with
   |some o=>rfl
   |none=>
    simp only;rw[QV];by_cases hi:i=n
    ·rw[if_pos hi,if_pos hi]
    ·rw[if_neg hi,if_neg hi,Vd];by_cases h1:n+1<=i
     ·rw[if_pos h1];by_cases h2:i<n+1+news.length
      ·rw[if_pos ⟨by omega,h2⟩];have:i-(n+1)<ns.length:=by omega
       simp[this]
      ·rw[if_neg (by omega),List.getElem?_eq_none (by omega)]
     ·rw[if_neg h1,if_neg (by omega)]
  have ownAt:∀{i k:Nat},κ[i]? =some k->∃o,bs0[i]? =some o:=fun {i k} hk=>by
   have:i<bs0.length:=by rw[lb];exact(List.getElem?_eq_some_iff.1 hk).1
   exact⟨bs0[i],by simp[this]⟩
  have newAt:∀{i k:Nat},κ[i]? =some k->∃o,os[i]? =some o:=fun {i k} hk=>by
   have:i<os.length:=by rw[lo,q4];exact(List.getElem?_eq_some_iff.1 hk).1
   exact⟨os[i],by simp[this]⟩
  have κne:∀k∈κ,k<n:=κlt;have zn:∀{i:Nat},n<=i->Qs (κ.zip os) i=none:=fun {i} hi=>j9 fun hm=>absurd (κlt _ hm) (by omega)
  have gk:∀{j k:Nat},κ[j]? =some k->G2 k=os[j]? :=fun {j k} hk=>by
   rw[upsG,Il q2 (by rw[lo,q4]) hk];obtain⟨o,ho⟩:=newAt hk;rw[ho]
  have gn:G2 n=some Xa:=by rw[upsG,zn (Nat.le_refl _)];simp
  have gw:∀{i:Nat},n<i->i<n+1+news.length->G2 i=ns[i-(n+1)]? :=fun {i} h1 h2=>by
   rw[upsG,zn (by omega)];simp only;rw[if_neg (by omega),if_pos ⟨h1,h2⟩]
  have gr:∀{i:Nat},i ∉ κ->¬(n<=i/\i<n+1+news.length)->G2 i=Qs H i:=fun {i} hi hn=>by
   rw[upsG,j9 hi];simp only;rw[if_neg (by omega),if_neg (by omega)]
  refine⟨⟨by omega,fun i hi hw=> ?_,fun i hi=> ?_,fun i hi=>List.mem_append_left _ hi,fun i hi=>by have:=κlt i hi;omega⟩,fun S μ w args' cs QC hB hS hf hv hR=> ?_⟩
  ·exact gr hw (by omega)
  ·exact gr (fun hm=>absurd (κlt _ hm) (by omega)) (by omega)
  have κS:∀k∈κ,S k:=fun k hk=>hR k (List.mem_append_left _ hk) (κlt k hk)
  have RS:∀r∈R,S r:=fun r hr=>hR r (List.mem_append_right _ hr) (Rlt r hr)
  -- the contract's memory
  let μc:Mu:=fun i=>match i with
   |0=>some ⟨0,0,0,false,K0 μ H w R⟩
   |i+1=>match κ[i]? with
    |some k=>μ k
    |none=>none
  have μ0:μc 0=some ⟨0,0,0,false,K0 μ H w R⟩:=rfl;have μs:∀{i k:Nat},κ[i]? =some k->μc (i+1)=μ k:=fun {i k} hk=>by show(match κ[i]? with|some k=>μ k|none=>none)=μ k;rw[hk]
  have hρ:∀k k',O7 κ k=some k'->∀im,μ k=some im->μc k'=some im:=fun k k' hk im QF=>by
   obtain⟨h1,h2⟩:=RO κ 1 k k' hk;obtain⟨i,rfl⟩:∃i,k'=i+1:=⟨k'-1,by omega⟩
   rw[μs (i:=i) (by simpa using h2)];exact QF
  have hτ:∀r r',Ot R r=some r'->∀im,μ r=some im->∃Zz,μc r'=some Zz/\∀b x,im.fm b=some x->Zz.fm b=some x:=fun r r' hr im QF=>by
   unfold Ot at hr;cases hc:R.contains r with
   |false=>rw[hc]at hr;cases hr
   |true=>
    rw[hc]at hr;simp only[cond_true,YO]at hr;subst hr;have hm:r∈R:=by simpa using hc
    exact⟨_,μ0,fun b x hx=>js QC hm (RS r hm) (Rreg r hm) QF hx⟩
  have dnVR:∀v v1 v',tB (O7 κ) (Ot R) 4 v=some v1->VR μ v v'->VR μc v1 v':=fun v v1 v'=>rV hρ hτ 4
  -- blocks of the contract
  have Zn:∀i o,i<a->Qs (iC bs0) i=some o->(i=0/\o=Xa)\/∃j k o1,i=j+1/\κ[j]? =some k/\Qs H k=some o1/\(live o1/\¬Wb o1)/\(live o/\¬Wb o)/\∀im,OR μ w im o1->OR μc w im o/\im.rw=true:=by
   intro i o hi ho;rw[jG]at ho;by_cases h0:i=0
   ·rw[if_pos h0]at ho;cases ho;exact .inl ⟨h0,rfl⟩
   ·rw[if_neg h0]at ho;obtain⟨p,o1,M,g1,g2,g3⟩:=gb (i-1) o ho;rw[List.getElem?_map]at g1;cases hk:κ[i-1]? with
    |none=>rw[hk]at g1;cases g1
    |some k=>
     rw[hk]at g1;simp only[Option.map_some,YO]at g1;obtain⟨m1,m2⟩:=mo g2;exact .inr ⟨i-1,k,o1,by omega,hk,g1,m1,m2,fun im ZL=>zX dnVR g2 g3 ZL⟩
  -- each of the caller's blocks, as it was
  have was:∀{j k:Nat},κ[j]? =some k->∃o1,Qs H k=some o1/\(live o1/\¬Wb o1)/\∀im,μ k=some im->im.rw=true:=fun {j k} hk=>by
   obtain⟨o0,ho0⟩:=ownAt hk;have Xh:j<κ.length:=(List.getElem?_eq_some_iff.1 hk).1;rcases Zn (j+1) o0 (by omega) (by rw[jG,if_neg (by omega)];simpa using ho0)with ⟨h,_⟩|⟨j',k',o1,hj',hk',hg,h1,h2,h3⟩
   ·omega
   ·obtain rfl:j=j':=by omega
    rw[hk]at hk';cases hk';refine⟨o1,hg,h1,fun im QF=> ?_⟩;obtain⟨im2,Wt,ZL⟩:=QC.rel k o1 (κS k (List.mem_of_getElem? hk)) hg h1.1;rw[QF]at Wt;cases Wt;exact(h3 im ZL).2
  have sep0:∀{j k:Nat} {o1:Obj} {im:aO} {x:Obj},κ[j]? =some k->Qs H k=some o1->live o1->μ k=some im->im.rw=true->K0 μ H w R im.Zn≠some x:=by
   intro j k o1 im x hk ho hl QF Wc hx;have hx':=hx;unfold K0 at hx';split at hx'
   ·rename_i hc;obtain⟨i,hi,o,Zz,hg,QP,Uz⟩:=hc;obtain⟨o',UD,hr'⟩:=ZB (Rreg i hi);rw[hg]at UD;cases UD;rcases Uz with ⟨_,Kw⟩|⟨hl',_⟩
    ·cases hy:Zz.fm im.Zn with
     |none=>exact Kw hy
     |some y=>exact QC.sep i k o o1 Zz im y (RS i hi) (κS k (List.mem_of_getElem? hk)) hg ho hr' hl QP QF Wc hy
    ·exact absurd hl' (by cases o <;> first|exact id|exact hr'.elim)
   ·cases hx'
  have hokc:Ok B.B (fun i=>i<a) μc (Qs (iC bs0)) w:=by
   refine⟨fun i o hi ho hl=> ?_,fun i o im hi ho hl QF=> ?_,fun i j oi oj x y hi hj Pa ZT ZS P0 VQ hx hy hrx hry=> ?_,fun i o hi ho hr=> ?_,fun i j oi oj x y z hi hj ZT ZS Yt VQ hx hy hry hz=> ?_⟩
   ·rcases Zn i o hi ho with ⟨_,rfl⟩|⟨j,k,o1,rfl,hk,hg,h1,h2,h3⟩
    ·exact hl.elim
    ·obtain⟨im,QF,ZL⟩:=QC.rel k o1 (κS k (List.mem_of_getElem? hk)) hg h1.1;exact⟨im,by rw[μs hk];exact QF,(h3 im ZL).1⟩
   ·rcases Zn i o hi ho with ⟨_,rfl⟩|⟨j,k,o1,rfl,hk,hg,h1,h2,h3⟩
    ·exact hl.elim
    ·rw[μs hk]at QF;exact QC.low k o1 im (κS k (List.mem_of_getElem? hk)) hg h1.1 QF
   ·rcases Zn i oi hi ZT with ⟨_,rfl⟩|⟨j1,k1,o1,rfl,hk1,hg1,h1,_,_⟩
    ·exact P0.elim
    ·rcases Zn j oj hj ZS with ⟨_,rfl⟩|⟨j2,k2,o2,rfl,hk2,hg2,h2,_,_⟩
     ·exact VQ.elim
     ·rw[μs hk1]at hx;rw[μs hk2]at hy;refine QC.inj k1 k2 o1 o2 x y (κS k1 (List.mem_of_getElem? hk1)) (κS k2 (List.mem_of_getElem? hk2)) (fun e=> ?_) hg1 hg2 h1.1 h2.1 hx hy hrx hry;subst e;exact Pa (by rw[κinj j1 j2 k1 hk1 hk2])
   ·rcases Zn i o hi ho with ⟨rfl,rfl⟩|⟨j,k,o1,rfl,hk,hg,h1,h2,h3⟩
    ·exact⟨_,μ0,fun b x hx=>WI hx⟩
    ·exact absurd hr h2.2
   ·rcases Zn i oi hi ZT with ⟨rfl,rfl⟩|⟨j1,k1,o1,rfl,hk1,hg1,h1,h2,_⟩
    ·rcases Zn j oj hj ZS with ⟨_,rfl⟩|⟨j2,k2,o2,rfl,hk2,hg2,h2,_,_⟩
     ·exact VQ.elim
     ·rw[μ0]at hx;cases hx;rw[μs hk2]at hy;exact sep0 hk2 hg2 h2.1 hy hry hz
    ·exact absurd Yt h2.2
  have hVRs:VRs μc args args':=by
   rw[<-ha];refine⟨by simpa[la]using hv.1,fun i u u' hu hu'=> ?_⟩;obtain⟨v,hv1,hv2⟩:=gaa i u (by simpa using hu);exact dnVR v u u' hv2 (hv.2 i v u' (by simpa using hv1) hu')
  have Vl:∀i,a<=i->μc i=none:=fun i hi=>by
   cases i with
   |zero=>omega
   |succ i=>
    show(match κ[i]? with|some k=>μ k|none=>none)=none;rw[List.getElem?_eq_none (by omega)]
  obtain⟨XY,w',μ',XC,hout,he⟩:=h B hJ μc w args' cs hokc hB Vl hVRs;have mu':∀i,i<a->μ' i=μc i:=fun i hi=>XC.ext i (by omega)
  let Gc:Nat->Option Obj:=Qs (QU 1 outs++((a,Xa)::(QU (a+1) news++iC bs0)))
  have okG:Ok B.B (fun i=>i<a\/a<=i/\i<bs0.length+2+news.length) μ' Gc w':=XC.ok;have aS:∀i,(i<a\/a<=i/\i<bs0.length+2+news.length)<->i<a+1+news.length:=fun i=>by omega
  have Gc_get:∀i,Gc i=match Qs (QU 1 outs) i with|some o=>some o|none=>if i=a then some Xa else match Qs (QU (a+1) news) i with|some o=>some o|none=>Qs (iC bs0) i:=fun i=>Nt i
  have hga:Gc a=some Xa:=by
   rw[Gc_get,Vd,if_pos (show 1<=a by omega),List.getElem?_eq_none (show outs.length<=a-1 by omega)];simp
  have XM:Gc 0=some Xa:=by
   rw[Gc_get,Vd,if_neg (by omega)];simp only;rw[if_neg (by omega),Vd,if_neg (by omega)];simp only;rw[jG,if_pos rfl]
  obtain⟨ima,hima,hrega⟩:=okG.KL a Xa ((aS a).2 (by omega)) hga trivial;obtain⟨im0,him0,hreg0⟩:=okG.KL 0 Xa ((aS 0).2 (by omega)) XM trivial;have e0:=him0;rw[mu' 0 (by omega),μ0]at e0;simp only[YO]at e0;let fm2:Nat->Option Obj:=fun b=>match K0 μ H w R b with
   |some x=>some x
   |none=>ima.fm b
  have fm2w:∀b x,fm2 b=some x->w'.heap[b]? =some x:=fun b x hx=>by
   have hx:(match K0 μ H w R b with|some x=>some x|none=>ima.fm b)=some x:=hx;cases hy:K0 μ H w R b with
   |some y=>rw[hy]at hx;cases hx;exact hreg0 b _ (by rw[<-e0];exact hy)
   |none=>rw[hy]at hx;exact hrega b x hx
  have fm2a:∀b x,ima.fm b=some x->fm2 b=some x:=fun b x hx=>by
   show(match K0 μ H w R b with|some x=>some x|none=>ima.fm b)=some x;cases hy:K0 μ H w R b with
   |some y=>
    have h1:=hrega b x hx;have h2:=hreg0 b y (by rw[<-e0];exact hy);rw[h1]at h2;exact h2.symm
   |none=>exact hx
  have fm20:∀b x,K0 μ H w R b=some x->fm2 b=some x:=fun b x hx=>by
   show(match K0 μ H w R b with|some x=>some x|none=>ima.fm b)=some x;rw[hx]
  let μ2:Mu:=fun i=>if i=n then some ⟨0,0,0,false,fm2⟩else if n<i/\i<n+1+news.length then μ' (a+1+(i-(n+1)))else μ i
  have hfn:∀i,n<=i->i<n+1+news.length->μ i=none:=fun i h1 h2=>hf i h1 h2
  have μ2n:μ2 n=some ⟨0,0,0,false,fm2⟩:=if_pos rfl;have μ2w:∀{i:Nat},n<i->i<n+1+news.length->μ2 i=μ' (a+1+(i-(n+1))):=fun {i} h1 h2=>by
   show(if i=n then some (⟨0,0,0,false,fm2⟩:aO)else if n<i/\i<n+1+news.length then μ' (a+1+(i-(n+1)))else μ i)=_;rw[if_neg (by omega),if_pos ⟨h1,h2⟩]
  have μ2o:∀{i:Nat},¬(n<=i/\i<n+1+news.length)->μ2 i=μ i:=fun {i} hi=>by
   show(if i=n then some (⟨0,0,0,false,fm2⟩:aO)else if n<i/\i<n+1+news.length then μ' (a+1+(i-(n+1)))else μ i)=_;rw[if_neg (by omega),if_neg (by omega)]
  have κno:∀{k:Nat},k∈κ->¬(n<=k/\k<n+1+news.length):=fun {k} hk=>by have:=κlt k hk;omega
  have Rno:∀{k:Nat},k∈R->¬(n<=k/\k<n+1+news.length):=fun {k} hk=>by have:=Rlt k hk;omega
  have μk:∀{j k:Nat},κ[j]? =some k->μ2 k=μ' (j+1):=fun {j k} hk=>by
   have:j<κ.length:=(List.getElem?_eq_some_iff.1 hk).1;rw[μ2o (κno (List.mem_of_getElem? hk)),mu' (j+1) (by omega),μs hk]
  have upVR:∀v v1 v',tB (O4 κ n) (NG (κ.length+1) n) 4 v=some v1->VR μ' v v'->VR μ2 v1 v':=fun v v1 v' hv=>by
   refine rV (fun i k hk im QF=> ?_) (fun r r' hr im QF=> ?_) 4 hv
   ·cases i with
    |zero=>cases hk
    |succ i=>
     have hk:(bif Nat.blt i κ.length then κ[i]? else bif Nat.beq i κ.length then none else some (n+(i-κ.length)))=some k:=hk;cases h1:Nat.blt i κ.length with
     |true=>
      rw[h1]at hk;simp only[cond_true]at hk;rw[μk hk];exact QF
     |false=>
      rw[h1]at hk;simp only[cond_false]at hk;cases h2:Nat.beq i κ.length with
      |true=>rw[h2]at hk;cases hk
      |false=>
       rw[h2]at hk;simp only[cond_false,YO]at hk;subst hk;have h1':¬i<κ.length:=fun hh=>by rw[show Nat.blt i κ.length=true from Nat.ble_eq_true_of_le hh]at h1;cases h1
       have h2':i≠κ.length:=fun hh=>by rw[hh]at h2;simp at h2
       have Xh:i+1<a+1+news.length:=by
        rcases Nat.lt_or_ge (i+1) (a+1+news.length)with h|h
        ·exact h
        ·have hex:=XC.ext (i+1) (by omega);rw[Vl (i+1) (by omega)]at hex;rw[hex]at QF;cases QF
       rw[μ2w (by omega) (by omega),show a+1+(n+(i-κ.length)-(n+1))=i+1 by omega];exact QF
   ·unfold NG at hr;cases hc:(Nat.beq r 0 || Nat.beq r (κ.length+1))with
    |false=>rw[hc]at hr;cases hr
    |true=>
     rw[hc]at hr;simp only[cond_true,YO]at hr;subst hr;refine⟨_,μ2n,fun b x hx=> ?_⟩;simp only[Bool.or_eq_true]at hc;rcases hc with hc|hc
     ·have:=YE hc;subst this;rw[him0]at QF;cases QF;exact fm20 b x (by rw[<-e0]at hx;exact hx)
     ·have:=YE hc;rw[this,<-lb]at QF;have QF:μ' a=some im:=QF;rw[hima]at QF;cases QF;exact fm2a b x hx
  have memκ:∀{k:Nat},k∈κ->∃j,κ[j]? =some k:=fun hk=>List.getElem?_of_mem hk
  have outW:∀{i:Nat},i∈List.range' 1 bs0.length->∃j k,i=j+1/\κ[j]? =some k:=fun {i} hi=>by
   rw[List.mem_range'_1]at hi;have:i-1<κ.length:=by omega
   exact⟨i-1,κ[i-1],by omega,by simp[this]⟩
  -- where a block of the caller's stands in the contract
  let Pt:Nat->Nat->Prop:=fun i j=>(∃q,κ[q]? =some i/\j=q+1)\/(n<i/\i<n+1+news.length/\j=a+1+(i-(n+1)))
  have pt_inj:∀{i1 i2 j:Nat},Pt i1 j->Pt i2 j->i1=i2:=fun {i1 i2 j} h1 h2=>by
   rcases h1 with ⟨q1,hq1,rfl⟩|⟨h1,h1',rfl⟩
   ·have:=(List.getElem?_eq_some_iff.1 hq1).1;rcases h2 with ⟨q2,hq2,e⟩|⟨h2,h2',e⟩
    ·obtain rfl:q1=q2:=by omega
     rw[hq1]at hq2;cases hq2;rfl
    ·omega
   ·rcases h2 with ⟨q2,hq2,e⟩|⟨h2,h2',e⟩
    ·have:=(List.getElem?_eq_some_iff.1 hq2).1;omega
    ·omega
  have after:∀{i j:Nat},Pt i j->∃o o2,Gc j=some o/\G2 i=some o2/\j<a+1+news.length/\μ2 i=μ' j/\(live o/\¬Wb o)/\(live o2/\¬Wb o2)/\∀im,OR μ' w' im o->OR μ2 w' im o2/\im.rw=true:=fun {i j} hp=>by
   rcases hp with ⟨q,hq,rfl⟩|⟨h1,h2,rfl⟩
   ·have hql:=(List.getElem?_eq_some_iff.1 hq).1;have hj:q<outs.length:=by omega
    obtain⟨o2,ho2⟩:=newAt hq;obtain⟨p,o',M,g1,g2,g3⟩:=go q o2 ho2;rw[List.getElem?_map,show outs[q]? =some outs[q]by simp[hj]]at g1;simp only[Option.map_some,YO]at g1;obtain⟨m1,m2⟩:=mo g2;refine⟨o',o2, ?_,by rw[gk hq,ho2],by omega,μk hq,m1,m2,fun im ZL=>zX upVR g2 g3 ZL⟩;rw[Gc_get,Vd,if_pos (by omega)];simp[hj,g1]
   ·have hi:i-(n+1)<news.length:=by omega
    have hi':i-(n+1)<ns.length:=by omega
    obtain⟨p,o',M,g1,g2,g3⟩:=gnw (i-(n+1)) ns[i-(n+1)] (by simp[hi']);rw[List.getElem?_map,show news[i-(n+1)]? =some news[i-(n+1)]by simp[hi]]at g1;simp only[Option.map_some,YO]at g1;obtain⟨m1,m2⟩:=mo g2;refine⟨o',ns[i-(n+1)], ?_,by rw[gw h1 h2];simp[hi'],by omega,μ2w h1 h2,m1,m2,fun im ZL=>zX upVR g2 g3 ZL⟩;rw[Gc_get,Vd,if_pos (by omega),List.getElem?_eq_none (by omega)];simp only;rw[if_neg (by omega),Vd,if_pos (by omega),show a+1+(i-(n+1))-(a+1)=i-(n+1)by omega];simp[hi,g1]
  have regNot:∀{i:Nat} {o:Obj},i∈κ->Qs H i=some o->live o/\¬Wb o:=fun {i o} hi ho=>by
   obtain⟨j,hj⟩:=memκ hi;obtain⟨o1,hg,h1,_⟩:=was hj;rw[ho]at hg;cases hg;exact h1
  have Rκ:∀{i:Nat},i∈R->i ∉ κ:=fun {i} hi hk=>by
   obtain⟨o,ho,hr⟩:=ZB (Rreg i hi);exact(regNot hk ho).2 hr
  -- what is live, and what is a region, behind the call
  have isPt:∀{i:Nat} {o:Obj},((i∈κ\/i∈R)\/(n<=i/\i<n+1+news.length))->G2 i=some o->live o->∃j,Pt i j:=fun {i o} hi ho hl=>by
   rcases hi with (hi|hi)|hi
   ·obtain⟨q,hq⟩:=memκ hi;exact⟨q+1,.inl ⟨q,hq,rfl⟩⟩
   ·rw[gr (Rκ hi) (Rno hi)]at ho;obtain⟨o',UD,hr⟩:=ZB (Rreg i hi);rw[ho]at UD;cases UD;exact absurd hl (by cases o <;> first|exact id|exact hr.elim)
   ·by_cases e:i=n
    ·subst e;rw[gn]at ho;cases ho;exact hl.elim
    ·exact⟨_,.inr ⟨by omega,hi.2,rfl⟩⟩
  have isR:∀{i:Nat} {o:Obj},((i∈κ\/i∈R)\/(n<=i/\i<n+1+news.length))->G2 i=some o->Wb o->(i∈R/\Qs H i=some o)\/(i=n/\o=Xa):=fun {i o} hi ho hr=>by
   rcases hi with (hi|hi)|hi
   ·obtain⟨q,hq⟩:=memκ hi;obtain⟨_,o2,_,h2,_,_,_,h5,_⟩:=after (.inl ⟨q,hq,rfl⟩);rw[h2]at ho;cases ho;exact absurd hr h5.2
   ·exact .inl ⟨hi,by rw[<-gr (Rκ hi) (Rno hi)];exact ho⟩
   ·by_cases e:i=n
    ·subst e;rw[gn]at ho;cases ho;exact .inr ⟨rfl,rfl⟩
    ·obtain⟨_,o2,_,h2,_,_,_,h5,_⟩:=after (i:=i) (.inr ⟨by omega,hi.2,rfl⟩);rw[h2]at ho;cases ho;exact absurd hr h5.2
  have frm:∀b,b<w.heap.size->(∀k∈κ,∀im,μ k=some im->im.Zn≠b)->w'.heap[b]? =w.heap[b]? :=fun b hb hx=>XC.frame b hb fun i hi hia im QF=>by
   obtain⟨j,k,rfl,hk⟩:=outW hi;rw[μs hk]at QF;exact hx k (List.mem_of_getElem? hk) im QF
  have newSz:∀{i j:Nat} {o:Obj} {im:aO},n<i->i<n+1+news.length->j=a+1+(i-(n+1))->Gc j=some o->live o->μ' j=some im->im.rw=true/\w.heap.size<=im.Zn:=fun {i j o im} h1 h2 hj ho hl QF=>by
   obtain⟨p,q⟩:=XC.fresh j im o (by omega) (by omega) ho hl QF;refine⟨p,q.elim id ?_⟩;rintro⟨k,hk,hka,QP,hd⟩;obtain⟨q',k',rfl,hk'⟩:=outW hk;obtain⟨o',_,h3,_,_,_,h4,_⟩:=after (.inl ⟨q',hk',rfl⟩);exact absurd h4.1 (hd o' h3)
  have hPG:PG B.B (fun i=>i∈κ\/i∈R) (fun i=>n<=i/\i<n+1+news.length) (fun i=>i∈κ) μ μ2 (Qs H) G2 w w':=by
   refine⟨⟨fun i o hi ho hl=> ?_,fun i o im hi ho hl QF=> ?_,fun i j oi oj x y hi hj Pa ZT ZS P0 VQ hx hy hrx hry=> ?_,fun i o hi ho hr=> ?_,fun i j oi oj x y z hi hj ZT ZS Yt VQ hx hy hry hz=> ?_⟩,fun i hi=>μ2o hi,fun i hi hw=>gr hw hi,XC.grow,fun b hb hx=>frm b hb hx,fun i hi=> ?_,fun i im o hi ho hl QF=> ?_,fun i im o hi ho hr QF b x hx=> ?_,XC.os,XC.tape,XC.output⟩
   ·obtain⟨j,hp⟩:=isPt hi ho hl;obtain⟨o',o2,h1,h2,h3,h4,h5,h6,h7⟩:=after hp;rw[h2]at ho;cases ho;obtain⟨im,QF,ZL⟩:=okG.rel j o' ((aS j).2 h3) h1 h5.1;exact⟨im,by rw[h4];exact QF,(h7 im ZL).1⟩
   ·obtain⟨j,hp⟩:=isPt hi ho hl;obtain⟨o',o2,h1,h2,h3,h4,h5,h6,h7⟩:=after hp;rw[h4]at QF;exact okG.low j o' im ((aS j).2 h3) h1 h5.1 QF
   ·obtain⟨j1,JE⟩:=isPt hi ZT P0;obtain⟨j2,KE⟩:=isPt hj ZS VQ;obtain⟨o1,_,g1,_,l1,m1,n1,_⟩:=after JE;obtain⟨o2,_,g2,_,l2,m2,n2,_⟩:=after KE;rw[m1]at hx;rw[m2]at hy;refine okG.inj j1 j2 o1 o2 x y ((aS j1).2 l1) ((aS j2).2 l2) (fun e=> ?_) g1 g2 n1.1 n2.1 hx hy hrx hry;subst e;exact Pa (pt_inj JE KE)
   ·rcases isR hi ho hr with ⟨hi,hg⟩|⟨rfl,rfl⟩
    ·obtain⟨im,QF,hx⟩:=QC.KL i o (RS i hi) hg hr;refine⟨im,by rw[μ2o (Rno hi)];exact QF,fun b x hb=> ?_⟩;have hw:=hx b x hb;rw[frm b (Array.getElem?_eq_some_iff.1 hw).1 fun k hk Zz QP hbb=> ?_]
     ·exact hw
     ·obtain⟨j,hj⟩:=memκ hk;obtain⟨o1,hg1,h1,h3⟩:=was hj;exact QC.sep i k o o1 im Zz x (RS i hi) (κS k hk) hg hg1 hr h1.1 QF QP (h3 Zz QP) (by rw[hbb];exact hb)
    ·exact⟨_,μ2n,fm2w⟩
   ·obtain⟨q,hp⟩:=isPt hj ZS VQ;obtain⟨o',o2,h1,h2,h3,h4,h5,h6,h7⟩:=after hp;rcases isR hi ZT Yt with ⟨hi,hg⟩|⟨rfl,rfl⟩
    ·rw[μ2o (Rno hi)]at hx;rcases hp with ⟨q',hq',rfl⟩|⟨g1,g2,rfl⟩
     ·obtain⟨o1,hg1,h1',_⟩:=was hq';rw[μ2o (κno (List.mem_of_getElem? hq'))]at hy;exact QC.sep i j oi o1 x y z (RS i hi) (κS j (List.mem_of_getElem? hq')) hg hg1 Yt h1'.1 hx hy hry hz
     ·rw[h4]at hy;have Zm:=(newSz g1 g2 rfl h1 h5.1 hy).2;have:=Yp QC (RS i hi) hg Yt hx hz;omega
    ·rw[μ2n]at hx;cases hx;rw[h4]at hy;have hz:(match K0 μ H w R y.Zn with|some x=>some x|none=>ima.fm y.Zn)=some z:=hz;cases hu:K0 μ H w R y.Zn with
     |some u=>exact okG.sep 0 q Xa o' im0 y u ((aS 0).2 (by omega)) ((aS q).2 h3) XM h1 trivial h5.1 him0 hy hry (by rw[<-e0];exact hu)
     |none=>
      rw[hu]at hz;exact okG.sep a q Xa o' ima y z ((aS a).2 (by omega)) ((aS q).2 h3) hga h1 trivial h5.1 hima hy hry hz
   ·obtain⟨j,hj⟩:=memκ hi;obtain⟨o1,hg1,h1,h3⟩:=was hj;obtain⟨im2,Wt,ZL⟩:=QC.rel i o1 (κS i hi) hg1 h1.1;exact⟨.inl hi,⟨o1,hg1,h1.1⟩,im2,Wt,h3 im2 Wt⟩
   ·obtain⟨j,hp⟩:=isPt (.inr hi) ho hl;obtain⟨o',o2,h1,h2,h3,h4,h5,h6,h7⟩:=after hp;rw[h4]at QF;rcases hp with ⟨q',hq',rfl⟩|⟨g1,g2,rfl⟩
    ·have:=κlt i (List.mem_of_getElem? hq');omega
    ·have:=newSz g1 g2 rfl h1 h5.1 QF;exact⟨this.1,.inl this.2⟩
   ·rcases isR (hi.elim .inr fun hi=>.inl (.inl hi)) ho hr with ⟨hiR,_⟩|⟨rfl,rfl⟩
    ·exact absurd (hi.elim (fun h=>absurd h (Rno hiR)) (fun h=>absurd h (Rκ hiR))) id
    rw[μ2n]at QF;cases QF;have ZH:∀y,K0 μ H w R b=some y->∃k VP ko,(k∈κ\/k∈R)/\Qs H k=some ko/\Wb ko/\μ k=some VP/\VP.fm b=some y:=fun y hy=>by
     have hw:=WI hy;unfold K0 at hy;split at hy
     ·rename_i hc;obtain⟨i,hi,o,Zz,hg,QP,Uz⟩:=hc;obtain⟨o',UD,hr'⟩:=ZB (Rreg i hi);rw[hg]at UD;cases UD;rcases Uz with ⟨_,Kw⟩|⟨hl',_⟩
      ·cases hz:Zz.fm b with
       |none=>exact absurd hz Kw
       |some z=>
        obtain⟨im3,him3,hf3⟩:=QC.KL i o (RS i hi) hg hr';rw[QP]at him3;cases him3;have:=hf3 b z hz;rw[hw]at this;cases this;exact⟨i,Zz,o,.inr hi,hg,hr',QP,hz⟩
      ·exact absurd hl' (by cases o <;> first|exact id|exact hr'.elim)
     ·cases hy
    have hx:(match K0 μ H w R b with|some x=>some x|none=>ima.fm b)=some x:=hx;cases hu:K0 μ H w R b with
    |some u=>
     rw[hu]at hx;cases hx;exact .inr (.inl (ZH _ hu))
    |none=>
     rw[hu]at hx;rcases XC.rf a ima Xa (.inl ⟨Nat.le_refl _,by omega⟩) hga trivial hima b x hx with q|⟨k,VP,ko,k1,_,k3,k4,k5,k6⟩|⟨k,hk,hka,QP,hd⟩
     ·exact .inl q
     ·rcases Zn k ko k1 k3 with ⟨rfl,rfl⟩|⟨_,_,_,_,_,_,_,k7,_⟩
      ·rw[μ0]at k5;cases k5;have:K0 μ H w R b=some x:=k6;rw[hu]at this;cases this
      ·exact absurd k4 k7.2
     ·obtain⟨j,k',rfl,hk'⟩:=outW hk;obtain⟨o',_,h3,_,_,_,h4,_⟩:=after (.inl ⟨j,hk',rfl⟩);exact absurd h4.1 (hd o' h3)
  have hthen:=PG.then (G2:=G2) (PG.refl QC) hPG (fun i hi=>.inl (hi.elim (κS i) (RS i))) (fun i _=>rfl) (fun i hi=>⟨fun hs=>by have:=hS i hs;omega,id⟩) (fun i hi=>hfn i hi.1 hi.2) (fun i _=>rfl) fun i hw hn=>gr hw hn
  have eW:(fun i=>False\/(i∈κ/\¬False))=fun i=>i∈κ/\i<n:=funext fun i=>propext ⟨fun hi=>hi.elim False.elim fun hi=>⟨hi.1,κlt i hi.1⟩,fun hi=>.inr ⟨hi.1,id⟩⟩
  have hthen:PG B.B S (fun i=>False\/(n<=i/\i<n+1+news.length)) (fun i=>False\/(i∈κ/\¬False)) μ μ2 (Qs H) G2 w w':=hthen;rw[eW]at hthen;refine⟨XY,w',μ2,hthen.post (fun i=>⟨fun hi=>hi.elim False.elim id,.inr⟩) (by omega) hS, ?_,he⟩;cases hout with
  |ret Vf=>
   unfold GG at e3;split at e3
   ·rename_i v0 q0;cases q0;split at e3
    ·rename_i u Sg;simp only[YO]at e3;subst e3;exact .ret (upVR _ _ _ Sg Vf)
    ·cases e3
   ·rename_i v0 q0;cases q0
  |Z6 Vf=>
   unfold GG at e3;split at e3
   ·rename_i v0 q0;cases q0
   ·rename_i v0 q0;cases q0;split at e3
    ·rename_i u Sg;simp only[YO]at e3;subst e3;exact .Z6 (upVR _ _ _ Sg Vf)
    ·cases e3
 ·cases e
end
end Go.CE
