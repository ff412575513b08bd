/- SE 5: heads of loops, ends of calls. -/
import Derived.Test.YtncjjangllkokaaZRS07
import Derived.IntWalk
set_option linter.all false
open Nat renaming beq->Lf,zero_add->LD,le_refl->LI,blt->Lr,ble_eq_true_of_le->LH,lt_or_ge->LK
open List renaming getElem?_cons_zero->Lu,mem_of_getElem? ->Lp,mem_cons_of_mem->Lt,mem_append_left->Ln,mem_append_right->Lw,range'->LM,getElem?_eq_none->LG,getElem?_map->LF
open Array renaming eq_empty_of_size_eq_zero->LO,mem_of_getElem? ->LN
open Option renaming map_some->LL
namespace Go.CE
open Go Go.RowKit

def distinct:List Nat->Bool
 |[]=>true
 |a::l=>l.all (fun b=> !(Lf a b)) && distinct l
theorem Pw{l:List Nat}(h:distinct l=true):∀(i j:Nat) a,l[i]? =some a->l[j]? =some a->i=j:=by
 induction l with
 |nil=>intro i j a hi;simp at hi
 |cons b l ih=>
  simp only[distinct,YB]at h;have JU:∀a∈l,a≠b:=by
   intro a ha e;have:=List.all_eq_true.1 h.1 a ha;rw[e]at this;simp at this
  intro i j a hi hj;cases i with
  |zero=>
   cases j with
   |zero=>rfl
   |succ j=>
    simp only[Lu,YO,List.getElem?_cons_succ]at hi hj;exact absurd hi.symm (JU a (Lp hj))
  |succ i=>
   cases j with
   |zero=>
    simp only[Lu,YO,List.getElem?_cons_succ]at hi hj;exact absurd hj.symm (JU a (Lp hi))
   |succ j=>
    simp only[List.getElem?_cons_succ]at hi hj;rw[ih h.2 i j a hi hj]
section
variable {P:Program} {F:FuncId->Bool} {B:Lo}
end
def Tl:Code->List Nat->Code
 |c,[]=>c
 | .seq a b,k::l=>bif Lf k 0 then Tl a l else Tl b l
 | .cond _ a b,k::l=>bif Lf k 0 then Tl a l else Tl b l
 | .block _ a,_::l=>Tl a l
 | .loop a,_::l=>Tl a l
 | .scope a,_::l=>Tl a l
 | .rangeFunc _ _ a b,k::l=>bif Lf k 0 then Tl a l else Tl b l
 |c,_=>c
def QG(P:Program)(f:FuncId):Code:=match nth P.funcs.toList f with
 |some fn=>match fn.body with
  |some c=>c
  |none=>.skip
 |none=>.skip
inductive It where
 |code (l:List Nat)
 |inBlock (k:Nat)
 |inLoop (l:List Nat)
 |inScope (l:List Nat)
def it(b:Code):It->Item
 | .code l=>.code (Tl b l)
 | .inBlock k=>.inBlock k
 | .inLoop l=>.inLoop (Tl b l)
 | .inScope l=>.inScope (Tl b l)
def Qx(P:Program)(f:FuncId)(len:Nat)(args:List Value):CF:=⟨f,ofList len args,[.code (QG P f)],[],.run,none⟩
end Go.CE

namespace Go.CE
open Go Go.RowKit

theorem QP{x:Int}(h1: -9223372036854775808<=x)(h2:x<=9223372036854775807):wq x=x:=by
 rw[MH];exact IntWalk.i64_in _ ⟨h1,h2⟩
theorem Jf{x:Int}(h1: -9223372036854775808<=x)(h2:x<=9223372036854775807):IntKind.i64.wrap x=x:=IntWalk.i64_in _ ⟨h1,h2⟩
theorem Xh{a b:Int}(h:a<b):XA a b=true:=by rw[rW];simpa using h
theorem X7{a b:Int}(h:b<=a):XA a b=false:=by rw[rW];simpa using h
theorem VS{a b:Int}(h:b<=a):(!XA a b)=true:=by rw[X7 h];rfl
theorem VT{a b:Int}(h:a<b):(!XA a b)=false:=by rw[Xh h];rfl
theorem bl{a b:Int}(h:a=b):Rx a b=true:=by rw[du];simpa using h
theorem cu{a b:Int}(h:a≠b):Rx a b=false:=by rw[du];simpa using h

section
variable {P:Program} {B:Lo}
end
end Go.CE
namespace Go.CE
open Go Go.RowKit
section
variable {P:Program} {B:Lo}
end
end Go.CE

namespace Go.CE
open Go Go.RowKit

theorem TRv.mono{fm fm':Nat->Option Obj}(h:∀b x,fm b=some x->fm' b=some x){t v:Value}(ht:TRv fm t v):TRv fm' t v:=by
 induction ht with
 |simple h=>exact .simple h
 |agg h1 _ ih=>exact .agg h1 ih
 |tuple h1 _ ih=>exact .tuple h1 ih
 |iface _ ih=>exact .iface ih
 |func h1 h2 _ _ ih1 ih2=>exact .func h1 h2 ih1 ih2
 |slice h1 h2 h3 h4 _ ih=>exact .slice h1 h2 (h _ _ h3) h4 ih
 |nil=>exact .nil
 |empty h=>exact .empty h
 |ptr h1 h2 _ ih=>exact .ptr (h _ _ h1) h2 ih
theorem TRv.simple_eq{fm:Nat->Option Obj}{t v:Value}(h:CE.simple t=true)(ht:TRv fm t v):v=t:=by
 cases ht with
 |simple _=>rfl
 |func h1 h2 _ _=>
  simp only[CE.simple,YB,beq_iff_eq]at h;have e1:=LO h.1;have e2:=LO h.2;subst e1 e2;rw[LO h1.symm,LO h2.symm]
 |agg _ _=>cases h
 |tuple _ _=>cases h
 |iface _=>cases h
 |slice _ _ _ _ _=>cases h
 |nil=>cases h
 |empty _=>cases h
 |ptr _ _ _=>cases h
def ZV(r:Nat)(v:Value):Value:=bif simple v then v else Q2 r v
def Q7(r:Nat):Nat->Value->Value
 |0,v=>ZV r v
 |f+1,v=>match v with
  | .agg xs=>.agg (xs.map (Q7 r f))
  | .tuple xs=>.tuple (xs.map (Q7 r f))
  | .iface t x=>.iface t (Q7 r f x)
  | .func (.func g) xs ys=>.func (.func g) (xs.map (Q7 r f)) (ys.map (Q7 r f))
  |v=>ZV r v
def rF:Nat->Value->Bool
 |0,v=>simple v || WI v
 |f+1,v=>match v with
  | .agg xs=>xs.all (rF f)
  | .tuple xs=>xs.all (rF f)
  | .iface _ x=>rF f x
  | .func (.func _) xs ys=>xs.all (rF f) && ys.all (rF f)
  |v=>simple v || WI v
section
variable {μ:Mu} {r:Nat} {im:c7}
theorem az(hr:μ r=some im){v v':Value}(ho:(simple v || WI v)=true)(h:TRv im.fm v v'):VR μ (ZV r v) v':=by
 unfold ZV;cases hs:simple v with
 |true=>rw[h.simple_eq hs];exact ZO hs
 |false=>
  rw[hs]at ho;exact .top (by simpa using ho) hr h
theorem SF(hr:μ r=some im):∀(f:Nat) (v v':Value),rF f v=true->TRv im.fm v v'->VR μ (Q7 r f v) v'
 |0,v,v',ho,h=>az hr ho h
 |f+1,v,v',ho,h=>by
  have arr:∀{xs xs':Array Value},xs.all (rF f)=true->xs.size=xs'.size->(∀(i:Nat) v v',xs[i]? =some v->xs'[i]? =some v'->TRv im.fm v v')->(xs.map (Q7 r f)).size=xs'.size/\∀(i:Nat) v v',(xs.map (Q7 r f))[i]? =some v->xs'[i]? =some v'->VR μ v v':=by
   intro xs xs' ha hs hx;refine⟨by simpa using hs,fun i v v' hv ZQ=> ?_⟩;rw[Array.getElem?_map]at hv;cases hy:xs[i]? with
   |none=>rw[hy]at hv;cases hv
   |some y=>
    rw[hy]at hv;simp only[LL,YO]at hv;subst hv;exact SF hr f y v' (Array.all_eq_true'.1 ha y (LN hy)) (hx i y v' hy ZQ)
  cases v with
  |agg xs=>
   cases h with
   |simple h=>cases h
   |agg h1 h2=>exact .agg (arr ho h1 h2).1 (arr ho h1 h2).2
  |tuple xs=>
   cases h with
   |simple h=>cases h
   |tuple h1 h2=>exact .tuple (arr ho h1 h2).1 (arr ho h1 h2).2
  |iface t x=>
   cases h with
   |simple h=>cases h
   |iface h=>exact .iface (SF hr f x _ ho h)
  |func fn xs ys=>
   cases fn with
   |func g=>
    have ho:(xs.all (rF f) && ys.all (rF f))=true:=ho;simp only[YB]at ho;cases h with
    |simple hs=>
     simp only[simple,YB,beq_iff_eq]at hs;have e1:=LO hs.1;have e2:=LO hs.2;subst e1 e2;exact .func (by simp) (by simp) (fun i v v' hv=>by simp at hv) (fun i v v' hv=>by simp at hv)
    |func h1 h2 h3 h4=>exact .func (arr ho.1 h1 h3).1 (arr ho.2 h2 h4).1 (arr ho.1 h1 h3).2 (arr ho.2 h2 h4).2
   |_=>exact az hr (by exact ho) h
  |_=>exact az hr ho h
end
def a8:Nat->Value->Bool
 |0,v=>simple v
 |f+1,v=>match v with
  | .agg xs=>xs.all (a8 f)
  | .tuple xs=>xs.all (a8 f)
  | .iface _ x=>a8 f x
  |v=>simple v
theorem gE{μ:Mu}{fm:Nat->Option Obj}:∀(f:Nat) (v v':Value),a8 f v=true->TRv fm v v'->VR μ v v'
 |0,v,v',ho,h=>by rw[h.simple_eq ho];exact ZO ho
 |f+1,v,v',ho,h=>by
  have arr:∀{xs xs':Array Value},xs.all (a8 f)=true->(∀(i:Nat) v v',xs[i]? =some v->xs'[i]? =some v'->TRv fm v v')->∀(i:Nat) v v',xs[i]? =some v->xs'[i]? =some v'->VR μ v v':=
   fun ha hx i v v' hv ZQ=>gE f v v' (Array.all_eq_true'.1 ha v (LN hv)) (hx i v v' hv ZQ)
  cases v with
  |agg xs=>
   cases h with
   |simple h=>cases h
   |agg h1 h2=>exact .agg h1 (arr ho h2)
  |tuple xs=>
   cases h with
   |simple h=>cases h
   |tuple h1 h2=>exact .tuple h1 (arr ho h2)
  |iface t x=>
   cases h with
   |simple h=>cases h
   |iface h=>exact .iface (gE f x _ ho h)
  |_=>
   rw[TRv.simple_eq (by exact ho) h];exact ZO (by exact ho)
def X2:Option Obj->Bool
 |some (.coro _)=>true
 |_=>false
theorem ZG{o:Option Obj}(h:X2 o=true):∃x,o=some x/\Wa x:=by
 cases o with
 |none=>cases h
 |some x=>cases x <;> first|exact⟨_,rfl,trivial⟩|cases h
def hQ:Value->Option (Nat×Nat×Array Value)
 | .func (.via r ⟨[]⟩ 0 true) ⟨[.func (.via n ⟨[]⟩ 0 false) ⟨[]⟩ cs]⟩ ⟨[]⟩=>some (r,n,cs)
 |_=>none
def sR:Value->Option (Nat×Nat×Array Value)
 | .func (.via r ⟨[]⟩ 0 true) ⟨[.func (.via off ⟨[]⟩ 1 true) ⟨[]⟩ cs]⟩ ⟨[]⟩=>some (r,off,cs)
 |_=>none
theorem Sx{v:Value}{r n:Nat}{cs:Array Value}(h:hQ v=some (r,n,cs)):v=Q2 r (QH n cs):=by
 unfold hQ at h;split at h
 ·simp only[YO,YR]at h;obtain⟨rfl,rfl,rfl⟩:=h;rfl
 ·cases h
theorem k9{v:Value}{r off:Nat}{cs:Array Value}(h:sR v=some (r,off,cs)):v=Q2 r (SK off cs):=by
 unfold sR at h;split at h
 ·simp only[YO,YR]at h;obtain⟨rfl,rfl,rfl⟩:=h;rfl
 ·cases h
theorem VR.top_inv{μ:Mu}{r:Nat}{t v':Value}(h:VR μ (Q2 r t) v'):∃im,μ r=some im/\TRv im.fm t v':=by
 cases h with
 |top _ h1 h2=>exact⟨_,h1,h2⟩
theorem TRv.slice_inv{fm:Nat->Option Obj}{n:Nat}{cs:Array Value}{v':Value}(h:TRv fm (QH n cs) v'):((∃b o c' arr t fl,v'=.slice (some ⟨b,o,none⟩) n c'/\n<=c'/\c'<=maxLen/\fm b=some (.cells arr t fl)/\(∀i,i<cs.size->o+i<arr.size)/\(∀(i:Nat) v v',cs[i]? =some v->arr[o+i]? =some v'->TRv fm v v'))\/
 (n=0/\cs=#[]/\∃a c',v'=.slice a 0 c'/\c'<=maxLen)):=by
 cases h with
 |simple h=>cases h
 |slice h1 h2 h3 h5 h6=>exact .inl ⟨_,_,_,_,_,_,rfl,h1,h2,h3,h5,h6⟩
 |nil=>exact .inr ⟨rfl,rfl,none,0,rfl,Nat.zero_le _⟩
 |empty h=>exact .inr ⟨rfl,rfl,_,_,rfl,h⟩
theorem TRv.ptr_inv{fm:Nat->Option Obj}{off:Nat}{cs:Array Value}{v':Value}(h:TRv fm (SK off cs) v'):∃b o arr t fl,v'=.pointer (some ⟨b,o+off,none⟩)/\fm b=some (.cells arr t fl)/\(∀i,i<cs.size->o+i<arr.size)/\(∀(i:Nat) v v',cs[i]? =some v->arr[o+i]? =some v'->TRv fm v v'):=by
 cases h with
 |simple h=>cases h
 |ptr h1 h2 h3=>exact⟨_,_,_,_,_,rfl,h1,h2,h3⟩
end Go.CE

namespace Go.CE
open Go Go.RowKit

def TRvs(fm:Nat->Option Obj)(xs xs':Array Value):Prop:=xs.size=xs'.size/\∀(i:Nat) v v',xs[i]? =some v->xs'[i]? =some v'->TRv fm v v'
def cm(fm:Nat->Option Obj)(w w':World)(b:Nat):Option Obj:=if b<w.heap.size then fm b else w'.heap[b]?
def Qr(P:Program)(J:World->Prop)(g:FuncId)(targs:Array Value)(out:Value):Prop:=
 ∀(fm:Nat->Option Obj) (w:World) (args':Array Value),J w->(∀b x,fm b=some x->w.heap[b]? =some x)->TRvs fm targs args'->
  Calls P g args' w fun e w'=> ∃v',e=.returned v'/\Below w.heap.size w w'/\TRv (cm fm w w') out v'
structure Fz where
 k:Nat
 rs:List Nat
 cs:Array Value
def iP:List Fz->Nat->Option Fz
 |[],_=>none
 |x::l,k=>bif Lf x.k k then some x else iP l k
def o9(rs:List Nat)(v v1:Value):Prop:=(simple v=true/\v1=v)\/∃r∈rs,v=Q2 r v1/\WI v1=true
def X4(rs:List Nat)(cs cs1:Array Value):Prop:=cs.size=cs1.size/\∀(i:Nat) v v1,cs[i]? =some v->cs1[i]? =some v1->o9 rs v v1
theorem cz{rs:List Nat}{cs:Array Value}(h:cs.all simple=true):X4 rs cs cs:=⟨rfl,fun i v v1 h1 h2=>by
 rw[h1]at h2;cases h2;exact .inl ⟨Array.all_eq_true'.1 h v (LN h1),rfl⟩⟩
def isNil:Value->Bool
 | .slice none 0 0=>true
 |_=>false
theorem Hn{v:Value}(h:isNil v=true):v=.slice none 0 0:=by
 unfold isNil at h;split at h
 ·rfl
 ·cases h
def qA(H:Qt)(fz:List Fz)(v:Value):Option (Value×List Nat×List Prop):=bif isNil v then some (QH 0 #[],[],[])else bif simple v then some (v,[],[])else match v with
 | .func (.via r ⟨[]⟩ 0 true) ⟨[t]⟩ ⟨[]⟩=>bif X2 (Qw H r)then some (t,[r],[])else none
 | .slice (some ⟨k,0,none⟩) n _=>match iP fz k,Qw H k with
   |some x,some (.cells cs _ (0,0))=>bif x.rs.all fun r=>X2 (Qw H r)then some (QH n x.cs,k::x.rs,[X4 x.rs cs x.cs])else none
   |_,_=>none
 | .pointer (some ⟨k,o,none⟩)=>match iP fz k,Qw H k with
   |some x,some (.cells cs _ (0,0))=>bif x.rs.all fun r=>X2 (Qw H r)then some (SK o x.cs,k::x.rs,[X4 x.rs cs x.cs])else none
   |_,_=>none
 |_=>none
def Kz(f:Value->Option (Value×List Nat×List Prop)):List Value->Option (List Value×List Nat×List Prop)
 |[]=>some ([],[],[])
 |v::l=>match f v with
  |some (t,R,L)=>match Kz f l with
   |some (ts,R2,L2)=>some (t::ts,R++R2,L++L2)
   |none=>none
  |none=>none
def VO(H:Qt)(fz:List Fz):Nat->Value->Option (Value×List Nat×List Prop)
 |0,v=>qA H fz v
 |f+1,v=>match v with
  | .agg xs=>match Kz (VO H fz f) xs.toList with
    |some (l,R,L)=>some (.agg l.toArray,R,L)
    |none=>none
  | .tuple xs=>match Kz (VO H fz f) xs.toList with
    |some (l,R,L)=>some (.tuple l.toArray,R,L)
    |none=>none
  | .iface t x=>match VO H fz f x with
    |some (x,R,L)=>some (.iface t x,R,L)
    |none=>none
  | .func (.func g) xs ys=>match Kz (VO H fz f) xs.toList with
    |some (l,R,L)=>match Kz (VO H fz f) ys.toList with
     |some (m,R2,L2)=>some (.func (.func g) l.toArray m.toArray,R++R2,L++L2)
     |none=>none
    |none=>none
  |v=>qA H fz v
theorem X5{a b:List Prop}(h:Q3 (a++b)):Q3 a/\Q3 b:=by
 induction a with
 |nil=>exact⟨trivial,h⟩
 |cons x a ih=>exact⟨⟨h.1,(ih h.2).1⟩,(ih h.2).2⟩
noncomputable def Y7(μ:Mu)(H:Qt)(w:World)(R:List Nat)(b:Nat):Option Obj:=
 open Classical in if ∃i∈R,∃o im,Qw H i=some o/\μ i=some im/\((Wa o/\im.fm b≠none)\/(live o/\im.Zt=b))then w.heap[b]? else none
section
variable {B:Nat} {S:Nat->Prop} {μ:Mu} {H:Qt} {w:World} {fz:List Fz}
theorem Vo{R:List Nat}{b:Nat}{x:Obj}(h:Y7 μ H w R b=some x):w.heap[b]? =some x:=by
 unfold Y7 at h;split at h
 ·exact h
 ·cases h
theorem fT{R R':List Nat}(hs:∀i∈R,i∈R'){b:Nat}{x:Obj}(h:Y7 μ H w R b=some x):Y7 μ H w R' b=some x:=by
 have hw:=Vo h;unfold Y7 at h ⊢;split at h
 ·rename_i hc;obtain⟨i,hi,r⟩:=hc;rw[if_pos ⟨i,hs i hi,r⟩];exact hw
 ·cases h
theorem jQ(QE:Ok B S μ (Qw H) w){R:List Nat}{r:Nat}(hr:r∈R)(hS:S r)(hg:X2 (Qw H r)=true){im:c7}(QK:μ r=some im){b:Nat}{x:Obj}(hx:im.fm b=some x):Y7 μ H w R b=some x:=by
 obtain⟨o,ho,WJ⟩:=ZG hg;obtain⟨Z9,QS,hf⟩:=QE.P1 r o hS ho WJ;rw[QK]at QS;cases QS;unfold Y7;rw[if_pos ⟨r,hr,o,im,ho,QK,.inl ⟨WJ,by rw[hx];simp⟩⟩];exact hf b x hx
theorem jR{R:List Nat}{k:Nat}(hk:k∈R){o:Obj}(hg:Qw H k=some o)(hl:live o){im:c7}(QK:μ k=some im):Y7 μ H w R im.Zt=w.heap[im.Zt]? :=by
 unfold Y7;rw[if_pos ⟨k,hk,o,im,hg,QK,.inr ⟨hl,rfl⟩⟩]
theorem bX(QE:Ok B S μ (Qw H) w){k:Nat}(hS:S k){cs:Array Value}{t:TypeId}(hg:Qw H k=some (.cells cs t (0,0))):∃im arr,μ k=some im/\im.rw=true/\im.off=0/\w.heap[im.Zt]? =some (.cells arr t (0,0))/\cs.size<=arr.size/\arr.size=im.cap/\∀(i:Nat) v,cs[i]? =some v->∃v',arr[i]? =some v'/\VR μ v v':=by
 obtain⟨im,QK,ZU⟩:=QE.rel k _ hS hg trivial;rcases ZU with ⟨_,h1,h2,arr,h3,h4,h5,h6⟩|⟨hz,_⟩
 ·exact⟨im,arr,QK,h1,h2,h3,h4,h5,h6⟩
 ·exact absurd rfl hz
theorem qk(QE:Ok B S μ (Qw H) w){R rs:List Nat}(hsub:∀r∈rs,r∈R)(hS:∀r∈R,S r)(WJ:(rs.all fun r=>X2 (Qw H r))=true){v v1 v':Value}(h:o9 rs v v1)(hv:VR μ v v'):TRv (Y7 μ H w R) v1 v':=by
 rcases h with ⟨h1,rfl⟩|⟨r,hr,rfl,_⟩
 ·rw[simple_eq h1 hv];exact .simple h1
 ·obtain⟨im,QK,ht⟩:=hv.top_inv;exact ht.mono fun b x hx=>jQ QE (hsub r hr) (hS r (hsub r hr)) (List.all_eq_true.1 WJ r hr) QK hx
theorem Tp(QE:Ok B S μ (Qw H) w){v v' t:Value}{R:List Nat}{L:List Prop}(h:qA H fz v=some (t,R,L))(hL:Q3 L)(hS:∀r∈R,S r)(hv:VR μ v v'):TRv (Y7 μ H w R) t v':=by
 unfold qA at h;cases hn:isNil v with
 |true=>
  rw[hn]at h;simp only[cond_true,YO,YR]at h;obtain⟨rfl,rfl,rfl⟩:=h;have:=Hn hn;subst this;cases hv;exact .nil
 |false=>
 rw[hn]at h;simp only[cond_false]at h;cases hs:simple v with
 |true=>
  rw[hs]at h;simp only[cond_true,YO,YR]at h;obtain⟨rfl,rfl,rfl⟩:=h;rw[simple_eq hs hv];exact .simple hs
 |false=>
  rw[hs]at h;simp only[cond_false]at h;split at h
  ·rename_i r t0;cases hg:X2 (Qw H r)with
   |false=>rw[hg]at h;cases h
   |true=>
    rw[hg]at h;simp only[cond_true,YO,YR]at h;obtain⟨rfl,rfl,rfl⟩:=h;obtain⟨im,QK,ht⟩:=VR.top_inv (r:=r) (t:=t0) hv;exact ht.mono fun b x hx=>jQ QE (by simp) (hS r (by simp)) hg QK hx
  ·rename_i k n _;split at h
   ·rename_i x cs ty hx hg;cases hr:(x.rs.all fun r=>X2 (Qw H r))with
    |false=>rw[hr]at h;cases h
    |true=>
     rw[hr]at h;simp only[cond_true,YO,YR]at h;obtain⟨rfl,rfl,rfl⟩:=h;obtain⟨⟨h2,h3⟩,_⟩:=hL;have hkS:=hS k (by simp);obtain⟨im,arr,QK,_,hoff,harr,hle,_,hcells⟩:=bX QE hkS hg;cases hv with
     |slice har a b _=>
      obtain⟨im2,WS,_,rfl⟩:=har;rw[QK]at WS;cases WS;rw[hoff];refine TRv.slice (o:=0) a b ((jR (by simp) hg trivial QK).trans harr) (fun i hi=>by omega) fun i v v' hv ZQ=> ?_
      simp only[LD]at ZQ;have hi:i<cs.size:=by rw[h2];exact(Array.getElem?_eq_some_iff.1 hv).1
      obtain⟨u,hu1,hu2⟩:=hcells i cs[i] (by simp[hi]);rw[ZQ]at hu1;cases hu1;exact qk QE (fun r hr=>Lt _ hr) hS hr (h3 i _ _ (by simp[hi]) hv) hu2
   ·cases h
  ·rename_i k o;split at h
   ·rename_i x cs ty hx hg;cases hr:(x.rs.all fun r=>X2 (Qw H r))with
    |false=>rw[hr]at h;cases h
    |true=>
     rw[hr]at h;simp only[cond_true,YO,YR]at h;obtain⟨rfl,rfl,rfl⟩:=h;obtain⟨⟨h2,h3⟩,_⟩:=hL;have hkS:=hS k (by simp);obtain⟨im,arr,QK,_,hoff,harr,hle,_,hcells⟩:=bX QE hkS hg;cases hv with
     |ptr har=>
      obtain⟨im2,WS,_,rfl⟩:=har;rw[QK]at WS;cases WS;rw[hoff];refine TRv.ptr (o:=0) ((jR (by simp) hg trivial QK).trans harr) (fun i hi=>by omega) fun i v v' hv ZQ=> ?_
      simp only[LD]at ZQ;have hi:i<cs.size:=by rw[h2];exact(Array.getElem?_eq_some_iff.1 hv).1
      obtain⟨u,hu1,hu2⟩:=hcells i cs[i] (by simp[hi]);rw[ZQ]at hu1;cases hu1;exact qk QE (fun r hr=>Lt _ hr) hS hr (h3 i _ _ (by simp[hi]) hv) hu2
   ·cases h
  ·cases h
theorem Tq{f:Value->Option (Value×List Nat×List Prop)}(hf:∀v v' t R L,f v=some (t,R,L)->Q3 L->(∀r∈R,S r)->VR μ v v'->TRv (Y7 μ H w R) t v'):∀(l:List Value) (ts:List Value) (R:List Nat) (L:List Prop) (l':List Value),Kz f l=some (ts,R,L)->Q3 L->(∀r∈R,S r)->l.length=l'.length->(∀(i:Nat) v v',l[i]? =some v->l'[i]? =some v'->VR μ v v')->
 ts.length=l'.length/\∀(i:Nat) v v',ts[i]? =some v->l'[i]? =some v'->TRv (Y7 μ H w R) v v'
 |[],ts,R,L,l',h,hL,hS,hl,hv=>by
  simp only[Kz,YO,YR]at h;obtain⟨rfl,rfl,rfl⟩:=h;exact⟨hl,fun i v v' h=>by simp at h⟩
 |v::l,ts,R,L,[],h,hL,hS,hl,hv=>by simp at hl
 |v::l,ts,R,L,v'::l',h,hL,hS,hl,hv=>by
  simp only[Kz]at h;split at h
  ·rename_i t R1 L1 h1;split at h
   ·rename_i ts2 R2 L2 h2;simp only[YO,YR]at h;obtain⟨rfl,rfl,rfl⟩:=h;obtain⟨a,b⟩:=X5 hL;have k1:=hf v v' t R1 L1 h1 a (fun r hr=>hS r (Ln _ hr)) (hv 0 v v' rfl rfl);obtain⟨k2,k3⟩:=Tq hf l ts2 R2 L2 l' h2 b (fun r hr=>hS r (Lw _ hr)) (by simpa using hl) fun i u u' x y=>hv (i+1) u u' (by simpa using x) (by simpa using y)
    refine⟨by simp[k2],fun i u u' x y=> ?_⟩;cases i with
    |zero=>
     simp only[Lu,YO]at x y;subst x y;exact k1.mono fun b x hx=>fT (fun i hi=>Ln _ hi) hx
    |succ i=>
     exact(k3 i u u' (by simpa using x) (by simpa using y)).mono fun b x hx=>fT (fun i hi=>Lw _ hi) hx
   ·cases h
  ·cases h
theorem Ph(QE:Ok B S μ (Qw H) w):∀(f:Nat) (v v' t:Value) (R:List Nat) (L:List Prop),VO H fz f v=some (t,R,L)->Q3 L->(∀r∈R,S r)->VR μ v v'->TRv (Y7 μ H w R) t v'
 |0,v,v',t,R,L,h,hL,hS,hv=>Tp QE h hL hS hv
 |f+1,v,v',t,R,L,h,hL,hS,hv=>by
  have arr:∀{xs xs':Array Value} {l:List Value} {R:List Nat} {L:List Prop},Kz (VO H fz f) xs.toList=some (l,R,L)->Q3 L->(∀r∈R,S r)->xs.size=xs'.size->(∀(i:Nat) v v',xs[i]? =some v->xs'[i]? =some v'->VR μ v v')->l.toArray.size=xs'.size/\∀(i:Nat) v v',l.toArray[i]? =some v->xs'[i]? =some v'->TRv (Y7 μ H w R) v v':=by
   intro xs xs' l R L h hL hS hs hx;obtain⟨a,b⟩:=Tq (fun v v' t R L=>Ph QE f v v' t R L) xs.toList l R L xs'.toList h hL hS (by simpa using hs) fun i v v' x y=>hx i v v' (by simpa using x) (by simpa using y)
   exact⟨by simpa using a,fun i v v' x y=>b i v v' (by simpa using x) (by simpa using y)⟩
  cases v with
  |agg xs=>
   simp only[VO]at h;split at h
   ·rename_i l R1 L1 hl;simp only[YO,YR]at h;obtain⟨rfl,rfl,rfl⟩:=h;cases hv with
    |agg h1 h2=>exact .agg (arr hl hL hS h1 h2).1 (arr hl hL hS h1 h2).2
   ·cases h
  |tuple xs=>
   simp only[VO]at h;split at h
   ·rename_i l R1 L1 hl;simp only[YO,YR]at h;obtain⟨rfl,rfl,rfl⟩:=h;cases hv with
    |tuple h1 h2=>exact .tuple (arr hl hL hS h1 h2).1 (arr hl hL hS h1 h2).2
   ·cases h
  |iface ty x=>
   simp only[VO]at h;split at h
   ·rename_i l R1 L1 hl;simp only[YO,YR]at h;obtain⟨rfl,rfl,rfl⟩:=h;cases hv with
    |iface hv=>exact .iface (Ph QE f _ _ _ _ _ hl hL hS hv)
   ·cases h
  |func fn xs ys=>
   cases fn with
   |func g=>
    simp only[VO]at h;split at h
    ·rename_i l R1 L1 hl;split at h
     ·rename_i m R2 L2 hm;simp only[YO,YR]at h;obtain⟨rfl,rfl,rfl⟩:=h;obtain⟨a,b⟩:=X5 hL;cases hv with
      |func h1 h2 h3 h4=>
       have k1:=arr hl a (fun r hr=>hS r (Ln _ hr)) h1 h3;have k2:=arr hm b (fun r hr=>hS r (Lw _ hr)) h2 h4;exact .func k1.1 k2.1 (fun i v v' x y=>(k1.2 i v v' x y).mono fun b x hx=>fT (fun i hi=>Ln _ hi) hx)
        (fun i v v' x y=>(k2.2 i v v' x y).mono fun b x hx=>fT (fun i hi=>Lw _ hi) hx)
     ·cases h
    ·cases h
   |_=>exact Tp (fz:=fz) QE (by exact h) hL hS hv
  |_=>exact Tp (fz:=fz) QE (by exact h) hL hS hv
end
theorem Post.region{B n:Nat}{S:Nat->Prop}{μ:Mu}{H:Qt}{w w':World}(QE:Ok B S μ (Qw H) w)(hS:∀i,S i->i<n)(hf:μ n=none)(hbel:Below w.heap.size w w')(fm:Nat->Option Obj)(hfm:∀b x,fm b=some x->w'.heap[b]? =some x)
 (XF:∀b x,fm b=some x->w.heap.size<=b\/∃k UT ko,S k/\Qw H k=some ko/\Wa ko/\μ k=some UT/\UT.fm b=some x):Post B S n (n+1) [] μ (upd μ n ⟨0,0,0,false,fm⟩) H ((n,X8)::H) w w':=by
 have hp:=Post.ofBelow (n:=n) QE hbel;have JU:∀i,S i->i≠n:=fun i hi=>by have:=hS i hi;omega
 have Rv:∀i,S i->upd μ n ⟨0,0,0,false,fm⟩ i=μ i:=fun i hi=>by simp[upd,JU i hi]
 have hg:∀i,S i->Qw ((n,X8)::H) i=Qw H i:=fun i hi=>by rw[QV,if_neg (JU i hi)]
 have Ku:Qw ((n,X8)::H) n=some X8:=by rw[QV,if_pos rfl]
 have isn:∀i,(n<=i/\i<n+1)->i=n:=fun i hi=>by omega
 refine⟨⟨fun i o hi ho hl=> ?_,fun i o im hi ho hl QK=> ?_,fun i j oi oj a b hi hj TS Wc Wb hli Ud ha hb hra Ym=> ?_,fun i o hi ho hr=> ?_,fun i j oi oj a b x hi hj Wc Wb Pa Ud ha hb Ym hx=> ?_⟩,by omega,fun i hi=> ?_,fun i hi _=> ?_,hbel.size,fun b hb _=>hbel.block b hb,fun i hi=>by simp at hi,
  fun i im o h1 h2 ho hl QK=> ?_,fun i im o hi ho hr QK b x hx=> ?_,hbel.os,hbel.tape,hbel.output⟩
 ·rcases hi with hi|hi
  ·rw[hg i hi]at ho;obtain⟨im,QK,hr⟩:=hp.ok.rel i o (.inl hi) ho hl;exact⟨im,by rw[Rv i hi];exact QK,hr.keep (Yn hf) rfl⟩
  ·rw[isn i hi,Ku]at ho;cases ho;exact hl.elim
 ·rcases hi with hi|hi
  ·rw[hg i hi]at ho;rw[Rv i hi]at QK;exact hp.ok.low i o im (.inl hi) ho hl QK
  ·rw[isn i hi,Ku]at ho;cases ho;exact hl.elim
 ·rcases hi with hi|hi
  ·rcases hj with hj|hj
   ·rw[hg i hi]at Wc;rw[hg j hj]at Wb;rw[Rv i hi]at ha;rw[Rv j hj]at hb;exact QE.inj i j oi oj a b hi hj TS Wc Wb hli Ud ha hb hra Ym
   ·rw[isn j hj,Ku]at Wb;cases Wb;exact Ud.elim
  ·rw[isn i hi,Ku]at Wc;cases Wc;exact hli.elim
 ·rcases hi with hi|hi
  ·rw[hg i hi]at ho;obtain⟨im,QK,h⟩:=hp.ok.P1 i o (.inl hi) ho hr;exact⟨im,by rw[Rv i hi];exact QK,h⟩
  ·rw[isn i hi];exact⟨_,X3,hfm⟩
 ·have hjS:S j:=hj.elim id fun h=>by rw[isn j h,Ku]at Wb;cases Wb;exact Ud.elim
  rw[hg j hjS]at Wb;rw[Rv j hjS]at hb;rcases hi with hi|hi
  ·rw[hg i hi]at Wc;rw[Rv i hi]at ha;exact QE.sep i j oi oj a b x hi hjS Wc Wb Pa Ud ha hb Ym hx
  ·rw[isn i hi,X3]at ha;cases ha;rcases XF _ _ hx with h|⟨k,UT,ko,h1,h2,h3,h4,h5⟩
   ·have:=(QE.low j oj b hjS Wb Ud hb).1;omega
   ·exact QE.sep k j ko oj UT b x h1 hjS h2 Wb h3 Ud h4 hb Ym h5
 ·simp only[upd];rw[if_neg (by omega)]
 ·rw[QV,if_neg (by omega)]
 ·rw[isn i ⟨h1,h2⟩,Ku]at ho;cases ho;exact hl.elim
 ·have Rw:=isn i (hi.elim id fun h=>by simp at h);subst Rw;rw[X3]at QK;cases QK;rcases XF b x hx with h|⟨k,UT,ko,h1,h2⟩
  ·exact .inl h
  ·exact .inr (.inl ⟨k,UT,ko,h1,hS k h1,h2⟩)
end Go.CE

namespace Go.CE
open Go Go.RowKit

def OV(ρ τ:Nat->Option Nat)(v:Value):Option Value:=bif simple v then some v else match v with
 | .func (.via r ⟨[]⟩ 0 true) ⟨[t]⟩ ⟨[]⟩=>match τ r with
   |some r'=>some (Q2 r' t)
   |none=>none
 | .pointer (some ⟨k,o,none⟩)=>match ρ k with
   |some k'=>some (.pointer (some ⟨k',o,none⟩))
   |none=>none
 | .slice (some ⟨k,o,none⟩) m s=>match ρ k with
   |some k'=>some (.slice (some ⟨k',o,none⟩) m s)
   |none=>none
 | .map (some k)=>match ρ k with
   |some k'=>some (.map (some k'))
   |none=>none
 | .chan (some 0)=>some bc
 |_=>none
def GY(f:Value->Option Value):List Value->Option (List Value)
 |[]=>some []
 |v::l=>match f v with
  |some u=>match GY f l with
   |some m=>some (u::m)
   |none=>none
  |none=>none
def sK(ρ τ:Nat->Option Nat):Nat->Value->Option Value
 |0,v=>OV ρ τ v
 |f+1,v=>match v with
  | .agg xs=>match GY (sK ρ τ f) xs.toList with
    |some l=>some (.agg l.toArray)
    |none=>none
  | .tuple xs=>match GY (sK ρ τ f) xs.toList with
    |some l=>some (.tuple l.toArray)
    |none=>none
  | .iface t x=>match sK ρ τ f x with
    |some y=>some (.iface t y)
    |none=>none
  | .func (.func g) xs ys=>match GY (sK ρ τ f) xs.toList with
    |some l=>match GY (sK ρ τ f) ys.toList with
     |some m=>some (.func (.func g) l.toArray m.toArray)
     |none=>none
    |none=>none
  |v=>OV ρ τ v
theorem jL{f:Value->Option Value}:∀{l m:List Value},GY f l=some m->m.length=l.length/\∀(i:Nat) u,m[i]? =some u->∃v,l[i]? =some v/\f v=some u
 |[],m,h=>by
  simp only[GY,YO]at h;subst h;exact⟨rfl,fun i u h=>by simp at h⟩
 |v::l,m,h=>by
  simp only[GY]at h;split at h
  ·rename_i u hu;split at h
   ·rename_i m' hm;simp only[YO]at h;subst h;obtain⟨a,b⟩:=jL hm;refine⟨by simp[a],fun i x hx=> ?_⟩;cases i with
    |zero=>
     simp only[Lu,YO]at hx;subst hx;exact⟨v,rfl,hu⟩
    |succ i=>exact b i x (by simpa using hx)
   ·cases h
  ·cases h
section
variable {μ μ1:Mu} {ρ τ:Nat->Option Nat}
theorem zY(hρ:∀k k',ρ k=some k'->∀im,μ k=some im->μ1 k'=some im)(hτ:∀r r',τ r=some r'->∀im,μ r=some im->∃Z9,μ1 r'=some Z9/\∀b x,im.fm b=some x->Z9.fm b=some x){v v1 v':Value}(h:OV ρ τ v=some v1)(hv:VR μ v v'):VR μ1 v1 v':=by
 unfold OV at h;cases hs:simple v with
 |true=>
  rw[hs]at h;simp only[cond_true,YO]at h;subst h;rw[simple_eq hs hv];exact ZO hs
 |false=>
  rw[hs]at h;simp only[cond_false]at h;split at h
  ·rename_i r t;split at h
   ·rename_i r' hr;simp only[YO]at h;subst h;have hv:VR μ (Q2 r t) v':=hv;cases hv with
    |top h0 h1 h2=>
     obtain⟨Z9,QS,hm⟩:=hτ r r' hr _ h1;exact .top h0 QS (h2.mono hm)
   ·cases h
  ·rename_i k o;split at h
   ·rename_i k' hk;simp only[YO]at h;subst h;cases hv with
    |ptr har=>
     obtain⟨im,h1,_,rfl⟩:=har;exact .ptr ⟨im,hρ k k' hk im h1,rfl,rfl⟩
   ·cases h
  ·rename_i k o m s;split at h
   ·rename_i k' hk;simp only[YO]at h;subst h;cases hv with
    |slice har h1 h2 h3=>
     obtain⟨im,hi,_,rfl⟩:=har;have hi1:=hρ k k' hk im hi;refine .slice ⟨im,hi1,rfl,rfl⟩ h1 h2 fun hs Z9 QS=> ?_
     rw[hi1]at QS;cases QS;exact h3 hs im hi
   ·cases h
  ·rename_i k;split at h
   ·rename_i k' hk;simp only[YO]at h;subst h;cases hv with
    |map hm=>exact .map (hρ k k' hk _ hm)
   ·cases h
  ·simp only[YO]at h;subst h;cases hv with
   |noCap=>exact .noCap
  ·cases h
theorem rG(hρ:∀k k',ρ k=some k'->∀im,μ k=some im->μ1 k'=some im)(hτ:∀r r',τ r=some r'->∀im,μ r=some im->∃Z9,μ1 r'=some Z9/\∀b x,im.fm b=some x->Z9.fm b=some x):∀(f:Nat) {v v1 v':Value},sK ρ τ f v=some v1->VR μ v v'->VR μ1 v1 v'
 |0,v,v1,v',h,hv=>zY hρ hτ h hv
 |f+1,v,v1,v',h,hv=>by
  have arr:∀{xs xs':Array Value} {l:List Value},GY (sK ρ τ f) xs.toList=some l->xs.size=xs'.size->(∀(i:Nat) v v',xs[i]? =some v->xs'[i]? =some v'->VR μ v v')->l.toArray.size=xs'.size/\∀(i:Nat) v v',l.toArray[i]? =some v->xs'[i]? =some v'->VR μ1 v v':=by
   intro xs xs' l hl hs hx;obtain⟨a,b⟩:=jL hl;refine⟨by simpa[a]using hs,fun i u u' hu hu'=> ?_⟩;obtain⟨v,hv1,hv2⟩:=b i u (by simpa using hu);exact rG hρ hτ f hv2 (hx i v u' (by simpa using hv1) hu')
  cases v with
  |agg xs=>
   simp only[sK]at h;split at h
   ·rename_i l hl;simp only[YO]at h;subst h;cases hv with
    |agg h1 h2=>exact .agg (arr hl h1 h2).1 (arr hl h1 h2).2
   ·cases h
  |tuple xs=>
   simp only[sK]at h;split at h
   ·rename_i l hl;simp only[YO]at h;subst h;cases hv with
    |tuple h1 h2=>exact .tuple (arr hl h1 h2).1 (arr hl h1 h2).2
   ·cases h
  |iface t x=>
   simp only[sK]at h;split at h
   ·rename_i y hy;simp only[YO]at h;subst h;cases hv with
    |iface hv=>exact .iface (rG hρ hτ f hy hv)
   ·cases h
  |func fn xs ys=>
   cases fn with
   |func g=>
    simp only[sK]at h;split at h
    ·rename_i l hl;split at h
     ·rename_i m hm;simp only[YO]at h;subst h;cases hv with
      |func h1 h2 h3 h4=>exact .func (arr hl h1 h3).1 (arr hm h2 h4).1 (arr hl h1 h3).2 (arr hm h2 h4).2
     ·cases h
    ·cases h
   |_=>exact zY hρ hτ (by exact h) hv
  |_=>exact zY hρ hτ (by exact h) hv
end
def Ei(cs:Array Value):Prop:=∀v∈cs,simple v=true
def OB(f:Value->Option Value):List MapEntry->Option (List MapEntry)
 |[]=>some []
 |e::l=>match f e.val with
  |some u=>match OB f l with
   |some m=>some ({e with val:=u}::m)
   |none=>none
  |none=>none
theorem B0{f:Value->Option Value}:∀{l m:List MapEntry},OB f l=some m->m.length=l.length/\∀(i:Nat) u,m[i]? =some u->∃v,l[i]? =some v/\u.key=v.key/\u.born=v.born/\f v.val=some u.val
 |[],m,h=>by
  simp only[OB,YO]at h;subst h;exact⟨rfl,fun i u h=>by simp at h⟩
 |v::l,m,h=>by
  simp only[OB]at h;split at h
  ·rename_i u hu;split at h
   ·rename_i m' hm;simp only[YO]at h;subst h;obtain⟨a,b⟩:=B0 hm;refine⟨by simp[a],fun i x hx=> ?_⟩;cases i with
    |zero=>
     simp only[Lu,YO]at hx;subst hx;exact⟨v,rfl,rfl,rfl,hu⟩
    |succ i=>exact b i x (by simpa using hx)
   ·cases h
  ·cases h
def u9:Array MapEntry->Prop:=fun es=> ∀(i:Nat) e,es[i]? =some e->af e.val=true
def Oh(f:Value->Option Value)(plain:Bool):Obj->Option (Obj×List Prop)
 | .cells cs t (0,0)=>bif plain then some (.cells cs t (0,0),[Ei cs])else match GY f cs.toList with
   |some l=>some (.cells l.toArray t (0,0),[])
   |none=>none
 | .map es RZ=>bif plain then some (.map es RZ,[u9 es])else match OB f es.toList with
   |some l=>some (.map l.toArray RZ,[])
   |none=>none
 |_=>none
theorem mA{f:Value->Option Value}{p:Bool}{o o1:Obj}{L:List Prop}(h:Oh f p o=some (o1,L)):(live o/\¬Wa o)/\live o1/\¬Wa o1:=by
 unfold Oh at h;split at h
 ·cases p with
  |true=>
   simp only[cond_true,YO,YR]at h;obtain⟨rfl,rfl⟩:=h;exact⟨⟨trivial,id⟩,trivial,id⟩
  |false=>
   simp only[cond_false]at h;split at h
   ·simp only[YO,YR]at h;obtain⟨rfl,rfl⟩:=h;exact⟨⟨trivial,id⟩,trivial,id⟩
   ·cases h
 ·cases p with
  |true=>
   simp only[cond_true,YO,YR]at h;obtain⟨rfl,rfl⟩:=h;exact⟨⟨trivial,id⟩,trivial,id⟩
  |false=>
   simp only[cond_false]at h;split at h
   ·simp only[YO,YR]at h;obtain⟨rfl,rfl⟩:=h;exact⟨⟨trivial,id⟩,trivial,id⟩
   ·cases h
 ·cases h
theorem zZ{μ μ1:Mu}{f:Value->Option Value}(hf:∀v v1 v',f v=some v1->VR μ v v'->VR μ1 v1 v'){p:Bool}{o o1:Obj}{L:List Prop}(h:Oh f p o=some (o1,L))(hL:Q3 L){w:World}{im:c7}(ZU:OR μ w im o):OR μ1 w im o1/\im.rw=true:=by
 unfold Oh at h;split at h
 ·rename_i cs t;rcases ZU with ⟨h1,h2,h3,arr,h4,h5,h6,h7⟩|⟨h1,_⟩
  ·refine⟨?_,h2⟩;cases p with
   |true=>
    simp only[cond_true,YO,YR]at h;obtain⟨rfl,rfl⟩:=h;refine .inl ⟨h1,h2,h3,arr,h4,h5,h6,fun i v hv=> ?_⟩;obtain⟨v',a,b⟩:=h7 i v hv;have hs:=hL.1 v (LN hv);refine⟨v',a, ?_⟩;rw[simple_eq hs b];exact ZO hs
   |false=>
    simp only[cond_false]at h;split at h
    ·rename_i l hl;simp only[YO,YR]at h;obtain⟨rfl,rfl⟩:=h;obtain⟨a,b⟩:=jL hl;refine .inl ⟨h1,h2,h3,arr,h4,by simpa[a]using h5,h6,fun i v hv=> ?_⟩;obtain⟨u,hu1,hu2⟩:=b i v (by simpa using hv);obtain⟨v',x,y⟩:=h7 i u (by simpa using hu1);exact⟨v',x,hf u v v' hu2 y⟩
    ·cases h
  ·exact absurd rfl h1
 ·rename_i es RZ;cases p with
  |true=>
   simp only[cond_true,YO,YR]at h;obtain⟨rfl,rfl⟩:=h;obtain⟨h1,KA,h2,h3,h4⟩:=ZU;refine⟨⟨h1,KA,h2,h3,fun i e e' he he'=> ?_⟩,h1⟩;obtain⟨q1,q2,q3,q4⟩:=h4 i e e' he he';have ha:=hL.1 i e he;exact⟨q1,q2,q3,by rw[Tj ha q4];exact PC ha⟩
  |false=>
  simp only[cond_false]at h;split at h
  ·rename_i l hl;simp only[YO,YR]at h;obtain⟨rfl,rfl⟩:=h;obtain⟨a,b⟩:=B0 hl;obtain⟨h1,KA,h2,h3,h4⟩:=ZU;refine⟨⟨h1,KA,h2,by simpa[a]using h3,fun i e e' he he'=> ?_⟩,h1⟩;obtain⟨u,hu1,hu2,hu3,hu4⟩:=b i e (by simpa using he);obtain⟨q1,q2,q3,q4⟩:=h4 i u e' (by simpa using hu1) he';exact⟨by rw[hu2];exact q1,by rw[hu3];exact q2,by rw[hu2];exact q3,hf u.val e.val e'.val hu4 q4⟩
  ·cases h
 ·cases h
def oG(f:Value->Option Value):List Bool->List (Option Obj)->Option (List Obj×List Prop)
 |[],[]=>some ([],[])
 |p::ps,some o::l=>match Oh f p o with
  |some (o1,L)=>match oG f ps l with
   |some (os,M)=>some (o1::os,L++M)
   |none=>none
  |none=>none
 |_,_=>none
theorem fM{f:Value->Option Value}:∀{ps:List Bool} {l:List (Option Obj)} {os:List Obj} {L:List Prop},oG f ps l=some (os,L)->Q3 L->os.length=l.length/\∀(i:Nat) o1,os[i]? =some o1->∃p o M,l[i]? =some (some o)/\Oh f p o=some (o1,M)/\Q3 M
 |[],[],os,L,h,_=>by
  simp only[oG,YO,YR]at h;obtain⟨rfl,rfl⟩:=h;exact⟨rfl,fun i u h=>by simp at h⟩
 |p::ps,some o::l,os,L,h,hL=>by
  simp only[oG]at h;split at h
  ·rename_i o1 L1 h1;split at h
   ·rename_i os' M hm;simp only[YO,YR]at h;obtain⟨rfl,rfl⟩:=h;obtain⟨hL1,hL2⟩:=X5 hL;obtain⟨a,b⟩:=fM hm hL2;refine⟨by simp[a],fun i x hx=> ?_⟩;cases i with
    |zero=>
     simp only[Lu,YO]at hx;subst hx;exact⟨p,o,L1,rfl,h1,hL1⟩
    |succ i=>exact b i x (by simpa using hx)
   ·cases h
  ·cases h
 |[],_::_,_,_,h,_=>by simp[oG]at h
 |_::_,[],_,_,h,_=>by simp[oG]at h
 |_::_,none::_,_,_,h,_=>by simp[oG]at h
def posOf:List Nat->Nat->Nat->Option Nat
 |[],_,_=>none
 |a::l,j,k=>bif Lf a k then some j else posOf l (j+1) k
theorem TD:∀(l:List Nat) (j k i:Nat),posOf l j k=some i->j<=i/\l[i-j]? =some k
 |[],j,k,i,h=>by cases h
 |a::l,j,k,i,h=>by
  simp only[posOf]at h;cases e:Lf a k with
  |true=>
   rw[e]at h;simp only[cond_true,YO]at h;subst h;exact⟨LI _,by simp[YE e]⟩
  |false=>
   rw[e]at h;simp only[cond_false]at h;obtain⟨h1,h2⟩:=TD l (j+1) k i h;refine⟨by omega, ?_⟩;rw[show i-j=(i-(j+1))+1 by omega];simpa using h2
def X0:Nat->List Obj->Qt
 |_,[]=>[]
 |i,o::l=>(i,o)::X0 (i+1) l
theorem Vm:∀(l:List Obj) (i j:Nat),Qw (X0 i l) j=if i<=j then l[j-i]? else none
 |[],i,j=>by simp[X0,Qw]
 |o::l,i,j=>by
  simp only[X0,QV];by_cases h:j=i
  ·subst h;simp
  ·rw[if_neg h,Vm l (i+1) j];by_cases h2:i<=j
   ·rw[if_pos h2,if_pos (by omega),show j-i=(j-(i+1))+1 by omega];simp
   ·rw[if_neg h2,if_neg (by omega)]
def jb(bs:List Obj):Qt:=X0 1 bs++[(0,X8)]
def WriC(P:Program)(J:World->Prop)(g:FuncId)(args:Array Value)(bs:List Obj)(out:OO)(outs news:List Obj):Prop:=
 ∀(B:Lo),(∀w,B.has w->J w)->∀(μ:Mu) (w:World) (args':Array Value) (cs:List Frame),Ok B (fun i=>i<bs.length+1) μ (Qw (jb bs)) w->B.has w->(∀i,bs.length+1<=i->μ i=none)->VRs μ args args'->
  ∃Zg w' μ',Post B (fun i=>i<bs.length+1) (bs.length+1) (bs.length+2+news.length) (LM 1 bs.length) μ μ' (jb bs) (X0 1 outs++((bs.length+1,X8)::(X0 (bs.length+2) news++jb bs))) w w'/\OR2 μ' out Zg/\EndsAs P (Frame.enter P g args' .normal) cs w Zg w'
theorem NQ{bs outs news:List Obj}{a:Nat}(i:Nat):Qw (X0 1 outs++((a,X8)::(X0 (a+1) news++jb bs))) i=match Qw (X0 1 outs) i with|some o=>some o|none=>if i=a then some X8 else match Qw (X0 (a+1) news) i with|some o=>some o|none=>Qw (jb bs) i:=by
 rw[ZI];cases Qw (X0 1 outs) i with
 |some o=>rfl
 |none=>simp only;rw[QV,ZI];rfl
theorem kh(bs:List Obj)(i:Nat):Qw (jb bs) i=if i=0 then some X8 else bs[i-1]? :=by
 unfold jb;rw[ZI,Vm];by_cases h:i=0
 ·subst h;simp[QV]
 ·rw[if_pos (by omega),if_neg h];cases hb:bs[i-1]? with
  |some o=>rfl
  |none=>simp only;rw[QV,if_neg h];rfl
def OW(κ:List Nat)(k:Nat):Option Nat:=posOf κ 1 k
def OI(R:List Nat)(r:Nat):Option Nat:=bif R.contains r then some 0 else none
def OU(κ:List Nat)(n:Nat)(i:Nat):Option Nat:=match i with
 |0=>none
 |i+1=>bif Lr i κ.length then κ[i]? else bif Lf i κ.length then none else some (n+(i-κ.length))
def On(a n r:Nat):Option Nat:=bif Lf r 0 || Lf r a then some n else none
def GX(f:Value->Option Value):OO->Option OO
 | .ret v=>match f v with
   |some u=>some (.ret u)
   |none=>none
 | .We v=>match f v with
   |some u=>some (.We u)
   |none=>none
def Ic(H:Qt)(n:Nat)(κ R:List Nat)(ps qs:List Bool)(args1:Array Value)(out:OO)(outs news:List Obj):Option (List Value×List Obj×OO×Qt×List Prop):=
 bif (κ.all fun k=>Lr k n) && distinct κ && (R.all fun r=>Lr r n && X2 (Qw H r)) && Lf outs.length κ.length then
  match GY (sK (OW κ) (OI R) 4) args1.toList,oG (sK (OW κ) (OI R) 4) ps (κ.map (Qw H)),GX (sK (OU κ n) (On (κ.length+1) n) 4) out,oG (sK (OU κ n) (On (κ.length+1) n) 4) ps (outs.map some),oG (sK (OU κ n) (On (κ.length+1) n) 4) qs (news.map some)with
  |some as,some (bs,L1),some o1,some (os,L2),some (ns,L3)=>some (as,bs,o1,κ.zip os++((n,X8)::X0 (n+1) ns),L1++(L2++L3))
  |_,_,_,_,_=>none
 else none
theorem Ib{κ:List Nat}{os:List Obj}(hd:distinct κ=true)(hl:os.length=κ.length){j k:Nat}(hk:κ[j]? =some k):Qw (κ.zip os) k=os[j]? :=by
 induction κ generalizing os j with
 |nil=>simp at hk
 |cons a κ ih=>
  cases os with
  |nil=>simp at hl
  |cons o os=>
   rw[List.zip_cons_cons,QV];have inj:=Pw hd;cases j with
   |zero=>
    simp only[Lu,YO]at hk;rw[if_pos hk.symm];rfl
   |succ j=>
    have JU:k≠a:=fun e=>by
     have:=inj (j+1) 0 k hk (by simp[e]);omega
    rw[if_neg JU];refine ih ?_ (by simpa using hl) (by simpa using hk);simp only[distinct,YB]at hd;exact hd.2
theorem kf:∀{κ:List Nat} {os:List Obj} {k:Nat},k ∉ κ->Qw (κ.zip os) k=none
 |[],_,_,_=>rfl
 |a::κ,[],_,_=>rfl
 |a::κ,o::os,k,h=>by
  rw[List.zip_cons_cons,QV,if_neg (fun e=>h (by simp[e]))];exact kf fun e=>h (Lt _ e)
section
variable {P:Program} {J:World->Prop} {B:Lo} {g:FuncId} {args args1:Array Value} {H:Qt} {n:Nat} {bs outs news:List Obj} {out out1:OO}
theorem WriC.callJ(h:WriC P J g args bs out outs news)(hJ:∀w,B.has w->J w)(κ R:List Nat)(ps qs:List Bool){as:List Value}{bs1:List Obj}{Yl:Qt}{L:List Prop}(e:Ic H n κ R ps qs args1 out outs news=some (as,bs1,out1,Yl,L))(hL:Q3 L)(ha:as.toArray=args)(hb:bs1=bs):oA P B g args1 H n out1 (Yl++H) (n+1+news.length) (κ++R) κ:=by
 subst hb;unfold Ic at e;cases hq:((κ.all fun k=>Lr k n) && distinct κ && (R.all fun r=>Lr r n && X2 (Qw H r)) && Lf outs.length κ.length)with
 |false=>rw[hq]at e;cases e
 |true=>
 rw[hq]at e;simp only[cond_true]at e;simp only[YB]at hq;obtain⟨⟨⟨q1,q2⟩,q3⟩,q4⟩:=hq;have q4:=YE q4;have κlt:∀k∈κ,k<n:=fun k hk=>YL (List.all_eq_true.1 q1 k hk)
 have Rlt:∀r∈R,r<n:=fun r hr=>by
  have:=List.all_eq_true.1 q3 r hr;simp only[YB]at this;exact YL this.1
 have Rreg:∀r∈R,X2 (Qw H r)=true:=fun r hr=>by
  have:=List.all_eq_true.1 q3 r hr;simp only[YB]at this;exact this.2
 have κinj:=Pw q2;split at e
 ·rename_i as0 bs0 L1 o1 os L2 ns L3 e1 e2 e3 e4 e5;simp only[YO,YR]at e;obtain⟨rfl,rfl,rfl,rfl,rfl⟩:=e;obtain⟨hL1,hLr⟩:=X5 hL;obtain⟨hL2,hL3⟩:=X5 hLr;obtain⟨lb,gb⟩:=fM e2 hL1;obtain⟨lo,go⟩:=fM e4 hL2;obtain⟨ln,gnw⟩:=fM e5 hL3;simp only[List.length_map]at lb lo ln;obtain⟨la,gaa⟩:=jL e1;let a:=bs0.length+1
  let G2:Nat->Option Obj:=Qw ((κ.zip os++((n,X8)::X0 (n+1) ns))++H)
  have upsG:∀i,G2 i=match Qw (κ.zip os) i with|some o=>some o|none=>if i=n then some X8 else if n<i/\i<n+1+news.length then ns[i-(n+1)]? else Qw H i:=by
   intro i;show Qw ((κ.zip os++((n,X8)::X0 (n+1) ns))++H) i=_;rw[ZI,ZI];cases hz:Qw (κ.zip os) i with
   |some o=>rfl
   |none=>
    simp only;rw[QV];by_cases hi:i=n
    ·rw[if_pos hi,if_pos hi]
    ·rw[if_neg hi,if_neg hi,Vm];by_cases h1:n+1<=i
     ·rw[if_pos h1];by_cases h2:i<n+1+news.length
      ·rw[if_pos ⟨by omega,h2⟩];have:i-(n+1)<ns.length:=by omega
       simp[this]
      ·rw[if_neg (by omega),LG (by omega)]
     ·rw[if_neg h1,if_neg (by omega)]
  have ownAt:∀{i k:Nat},κ[i]? =some k->∃o,bs0[i]? =some o:=fun {i k} hk=>by
   have:i<bs0.length:=by rw[lb];exact(List.getElem?_eq_some_iff.1 hk).1
   exact⟨bs0[i],by simp[this]⟩
  have newAt:∀{i k:Nat},κ[i]? =some k->∃o,os[i]? =some o:=fun {i k} hk=>by
   have:i<os.length:=by rw[lo,q4];exact(List.getElem?_eq_some_iff.1 hk).1
   exact⟨os[i],by simp[this]⟩
  have κne:∀k∈κ,k<n:=κlt;have zn:∀{i:Nat},n<=i->Qw (κ.zip os) i=none:=fun {i} hi=>kf fun hm=>absurd (κlt _ hm) (by omega)
  have gk:∀{j k:Nat},κ[j]? =some k->G2 k=os[j]? :=fun {j k} hk=>by
   rw[upsG,Ib q2 (by rw[lo,q4]) hk];obtain⟨o,ho⟩:=newAt hk;rw[ho]
  have gn:G2 n=some X8:=by rw[upsG,zn (LI _)];simp
  have gw:∀{i:Nat},n<i->i<n+1+news.length->G2 i=ns[i-(n+1)]? :=fun {i} h1 h2=>by
   rw[upsG,zn (by omega)];simp only;rw[if_neg (by omega),if_pos ⟨h1,h2⟩]
  have gr:∀{i:Nat},i ∉ κ->¬(n<=i/\i<n+1+news.length)->G2 i=Qw H i:=fun {i} hi hn=>by
   rw[upsG,kf hi];simp only;rw[if_neg (by omega),if_neg (by omega)]
  refine⟨⟨by omega,fun i hi hw=> ?_,fun i hi=> ?_,fun i hi=>Ln _ hi,fun i hi=>by have:=κlt i hi;omega⟩,fun S μ w args' cs QE hB hS hf hv hR=> ?_⟩
  ·exact gr hw (by omega)
  ·exact gr (fun hm=>absurd (κlt _ hm) (by omega)) (by omega)
  have κS:∀k∈κ,S k:=fun k hk=>hR k (Ln _ hk) (κlt k hk)
  have RS:∀r∈R,S r:=fun r hr=>hR r (Lw _ hr) (Rlt r hr)
  -- the contract's memory
  let μc:Mu:=fun i=>match i with
   |0=>some ⟨0,0,0,false,Y7 μ H w R⟩
   |i+1=>match κ[i]? with
    |some k=>μ k
    |none=>none
  have μ0:μc 0=some ⟨0,0,0,false,Y7 μ H w R⟩:=rfl;have μs:∀{i k:Nat},κ[i]? =some k->μc (i+1)=μ k:=fun {i k} hk=>by show(match κ[i]? with|some k=>μ k|none=>none)=μ k;rw[hk]
  have hρ:∀k k',OW κ k=some k'->∀im,μ k=some im->μc k'=some im:=fun k k' hk im QK=>by
   obtain⟨h1,h2⟩:=TD κ 1 k k' hk;obtain⟨i,rfl⟩:∃i,k'=i+1:=⟨k'-1,by omega⟩
   rw[μs (i:=i) (by simpa using h2)];exact QK
  have hτ:∀r r',OI R r=some r'->∀im,μ r=some im->∃Z9,μc r'=some Z9/\∀b x,im.fm b=some x->Z9.fm b=some x:=fun r r' hr im QK=>by
   unfold OI at hr;cases hc:R.contains r with
   |false=>rw[hc]at hr;cases hr
   |true=>
    rw[hc]at hr;simp only[cond_true,YO]at hr;subst hr;have hm:r∈R:=by simpa using hc
    exact⟨_,μ0,fun b x hx=>jQ QE hm (RS r hm) (Rreg r hm) QK hx⟩
  have dnVR:∀v v1 v',sK (OW κ) (OI R) 4 v=some v1->VR μ v v'->VR μc v1 v':=fun v v1 v'=>rG hρ hτ 4
  -- blocks of the contract
  have Zt:∀i o,i<a->Qw (jb bs0) i=some o->(i=0/\o=X8)\/∃j k o1,i=j+1/\κ[j]? =some k/\Qw H k=some o1/\(live o1/\¬Wa o1)/\(live o/\¬Wa o)/\∀im,OR μ w im o1->OR μc w im o/\im.rw=true:=by
   intro i o hi ho;rw[kh]at ho;by_cases h0:i=0
   ·rw[if_pos h0]at ho;cases ho;exact .inl ⟨h0,rfl⟩
   ·rw[if_neg h0]at ho;obtain⟨p,o1,M,g1,g2,g3⟩:=gb (i-1) o ho;rw[LF]at g1;cases hk:κ[i-1]? with
    |none=>rw[hk]at g1;cases g1
    |some k=>
     rw[hk]at g1;simp only[LL,YO]at g1;obtain⟨m1,m2⟩:=mA g2;exact .inr ⟨i-1,k,o1,by omega,hk,g1,m1,m2,fun im ZU=>zZ dnVR g2 g3 ZU⟩
  -- each of the caller's blocks, as it was
  have was:∀{j k:Nat},κ[j]? =some k->∃o1,Qw H k=some o1/\(live o1/\¬Wa o1)/\∀im,μ k=some im->im.rw=true:=fun {j k} hk=>by
   obtain⟨o0,ho0⟩:=ownAt hk;have Xp:j<κ.length:=(List.getElem?_eq_some_iff.1 hk).1;rcases Zt (j+1) o0 (by omega) (by rw[kh,if_neg (by omega)];simpa using ho0)with ⟨h,_⟩|⟨j',k',o1,hj',hk',hg,h1,h2,h3⟩
   ·omega
   ·obtain rfl:j=j':=by omega
    rw[hk]at hk';cases hk';refine⟨o1,hg,h1,fun im QK=> ?_⟩;obtain⟨im2,WS,ZU⟩:=QE.rel k o1 (κS k (Lp hk)) hg h1.1;rw[QK]at WS;cases WS;exact(h3 im ZU).2
  have sep0:∀{j k:Nat} {o1:Obj} {im:c7} {x:Obj},κ[j]? =some k->Qw H k=some o1->live o1->μ k=some im->im.rw=true->Y7 μ H w R im.Zt≠some x:=by
   intro j k o1 im x hk ho hl QK Ry hx;have hx':=hx;unfold Y7 at hx';split at hx'
   ·rename_i hc;obtain⟨i,hi,o,Z9,hg,QS,Yb⟩:=hc;obtain⟨o',Kt,hr'⟩:=ZG (Rreg i hi);rw[hg]at Kt;cases Kt;rcases Yb with ⟨_,JU⟩|⟨hl',_⟩
    ·cases hy:Z9.fm im.Zt with
     |none=>exact JU hy
     |some y=>exact QE.sep i k o o1 Z9 im y (RS i hi) (κS k (Lp hk)) hg ho hr' hl QS QK Ry hy
    ·exact absurd hl' (by cases o <;> first|exact id|exact hr'.elim)
   ·cases hx'
  have hokc:Ok B.B (fun i=>i<a) μc (Qw (jb bs0)) w:=by
   refine⟨fun i o hi ho hl=> ?_,fun i o im hi ho hl QK=> ?_,fun i j oi oj x y hi hj TS Wc Wb hli Ud hx hy hrx hry=> ?_,fun i o hi ho hr=> ?_,fun i j oi oj x y z hi hj Wc Wb Pa Ud hx hy hry hz=> ?_⟩
   ·rcases Zt i o hi ho with ⟨_,rfl⟩|⟨j,k,o1,rfl,hk,hg,h1,h2,h3⟩
    ·exact hl.elim
    ·obtain⟨im,QK,ZU⟩:=QE.rel k o1 (κS k (Lp hk)) hg h1.1;exact⟨im,by rw[μs hk];exact QK,(h3 im ZU).1⟩
   ·rcases Zt i o hi ho with ⟨_,rfl⟩|⟨j,k,o1,rfl,hk,hg,h1,h2,h3⟩
    ·exact hl.elim
    ·rw[μs hk]at QK;exact QE.low k o1 im (κS k (Lp hk)) hg h1.1 QK
   ·rcases Zt i oi hi Wc with ⟨_,rfl⟩|⟨j1,k1,o1,rfl,hk1,hg1,h1,_,_⟩
    ·exact hli.elim
    ·rcases Zt j oj hj Wb with ⟨_,rfl⟩|⟨j2,k2,o2,rfl,hk2,hg2,h2,_,_⟩
     ·exact Ud.elim
     ·rw[μs hk1]at hx;rw[μs hk2]at hy;refine QE.inj k1 k2 o1 o2 x y (κS k1 (Lp hk1)) (κS k2 (Lp hk2)) (fun e=> ?_) hg1 hg2 h1.1 h2.1 hx hy hrx hry;subst e;exact TS (by rw[κinj j1 j2 k1 hk1 hk2])
   ·rcases Zt i o hi ho with ⟨rfl,rfl⟩|⟨j,k,o1,rfl,hk,hg,h1,h2,h3⟩
    ·exact⟨_,μ0,fun b x hx=>Vo hx⟩
    ·exact absurd hr h2.2
   ·rcases Zt i oi hi Wc with ⟨rfl,rfl⟩|⟨j1,k1,o1,rfl,hk1,hg1,h1,h2,_⟩
    ·rcases Zt j oj hj Wb with ⟨_,rfl⟩|⟨j2,k2,o2,rfl,hk2,hg2,h2,_,_⟩
     ·exact Ud.elim
     ·rw[μ0]at hx;cases hx;rw[μs hk2]at hy;exact sep0 hk2 hg2 h2.1 hy hry hz
    ·exact absurd Pa h2.2
  have hVRs:VRs μc args args':=by
   rw[<-ha];refine⟨by simpa[la]using hv.1,fun i u u' hu hu'=> ?_⟩;obtain⟨v,hv1,hv2⟩:=gaa i u (by simpa using hu);exact dnVR v u u' hv2 (hv.2 i v u' (by simpa using hv1) hu')
  have UK:∀i,a<=i->μc i=none:=fun i hi=>by
   cases i with
   |zero=>omega
   |succ i=>
    show(match κ[i]? with|some k=>μ k|none=>none)=none;rw[LG (by omega)]
  obtain⟨Zg,w',μ',Zv,hout,he⟩:=h B hJ μc w args' cs hokc hB UK hVRs;have mu':∀i,i<a->μ' i=μc i:=fun i hi=>Zv.ext i (by omega)
  let Gc:Nat->Option Obj:=Qw (X0 1 outs++((a,X8)::(X0 (a+1) news++jb bs0)))
  have okG:Ok B.B (fun i=>i<a\/a<=i/\i<bs0.length+2+news.length) μ' Gc w':=Zv.ok;have aS:∀i,(i<a\/a<=i/\i<bs0.length+2+news.length)<->i<a+1+news.length:=fun i=>by omega
  have Gc_get:∀i,Gc i=match Qw (X0 1 outs) i with|some o=>some o|none=>if i=a then some X8 else match Qw (X0 (a+1) news) i with|some o=>some o|none=>Qw (jb bs0) i:=fun i=>NQ i
  have hga:Gc a=some X8:=by
   rw[Gc_get,Vm,if_pos (show 1<=a by omega),LG (show outs.length<=a-1 by omega)];simp
  have Xo:Gc 0=some X8:=by
   rw[Gc_get,Vm,if_neg (by omega)];simp only;rw[if_neg (by omega),Vm,if_neg (by omega)];simp only;rw[kh,if_pos rfl]
  obtain⟨ima,hima,hrega⟩:=okG.P1 a X8 ((aS a).2 (by omega)) hga trivial;obtain⟨im0,him0,hreg0⟩:=okG.P1 0 X8 ((aS 0).2 (by omega)) Xo trivial;have e0:=him0;rw[mu' 0 (by omega),μ0]at e0;simp only[YO]at e0;let fm2:Nat->Option Obj:=fun b=>match Y7 μ H w R b with
   |some x=>some x
   |none=>ima.fm b
  have fm2w:∀b x,fm2 b=some x->w'.heap[b]? =some x:=fun b x hx=>by
   have hx:(match Y7 μ H w R b with|some x=>some x|none=>ima.fm b)=some x:=hx;cases hy:Y7 μ H w R b with
   |some y=>rw[hy]at hx;cases hx;exact hreg0 b _ (by rw[<-e0];exact hy)
   |none=>rw[hy]at hx;exact hrega b x hx
  have fm2a:∀b x,ima.fm b=some x->fm2 b=some x:=fun b x hx=>by
   show(match Y7 μ H w R b with|some x=>some x|none=>ima.fm b)=some x;cases hy:Y7 μ H w R b with
   |some y=>
    have h1:=hrega b x hx;have h2:=hreg0 b y (by rw[<-e0];exact hy);rw[h1]at h2;exact h2.symm
   |none=>exact hx
  have fm20:∀b x,Y7 μ H w R b=some x->fm2 b=some x:=fun b x hx=>by
   show(match Y7 μ H w R b with|some x=>some x|none=>ima.fm b)=some x;rw[hx]
  let μ2:Mu:=fun i=>if i=n then some ⟨0,0,0,false,fm2⟩else if n<i/\i<n+1+news.length then μ' (a+1+(i-(n+1)))else μ i
  have hfn:∀i,n<=i->i<n+1+news.length->μ i=none:=fun i h1 h2=>hf i h1 h2
  have μ2n:μ2 n=some ⟨0,0,0,false,fm2⟩:=if_pos rfl;have μ2w:∀{i:Nat},n<i->i<n+1+news.length->μ2 i=μ' (a+1+(i-(n+1))):=fun {i} h1 h2=>by
   show(if i=n then some (⟨0,0,0,false,fm2⟩:c7)else if n<i/\i<n+1+news.length then μ' (a+1+(i-(n+1)))else μ i)=_;rw[if_neg (by omega),if_pos ⟨h1,h2⟩]
  have μ2o:∀{i:Nat},¬(n<=i/\i<n+1+news.length)->μ2 i=μ i:=fun {i} hi=>by
   show(if i=n then some (⟨0,0,0,false,fm2⟩:c7)else if n<i/\i<n+1+news.length then μ' (a+1+(i-(n+1)))else μ i)=_;rw[if_neg (by omega),if_neg (by omega)]
  have κno:∀{k:Nat},k∈κ->¬(n<=k/\k<n+1+news.length):=fun {k} hk=>by have:=κlt k hk;omega
  have Rno:∀{k:Nat},k∈R->¬(n<=k/\k<n+1+news.length):=fun {k} hk=>by have:=Rlt k hk;omega
  have μk:∀{j k:Nat},κ[j]? =some k->μ2 k=μ' (j+1):=fun {j k} hk=>by
   have:j<κ.length:=(List.getElem?_eq_some_iff.1 hk).1;rw[μ2o (κno (Lp hk)),mu' (j+1) (by omega),μs hk]
  have upVR:∀v v1 v',sK (OU κ n) (On (κ.length+1) n) 4 v=some v1->VR μ' v v'->VR μ2 v1 v':=fun v v1 v' hv=>by
   refine rG (fun i k hk im QK=> ?_) (fun r r' hr im QK=> ?_) 4 hv
   ·cases i with
    |zero=>cases hk
    |succ i=>
     have hk:(bif Lr i κ.length then κ[i]? else bif Lf i κ.length then none else some (n+(i-κ.length)))=some k:=hk;cases h1:Lr i κ.length with
     |true=>
      rw[h1]at hk;simp only[cond_true]at hk;rw[μk hk];exact QK
     |false=>
      rw[h1]at hk;simp only[cond_false]at hk;cases h2:Lf i κ.length with
      |true=>rw[h2]at hk;cases hk
      |false=>
       rw[h2]at hk;simp only[cond_false,YO]at hk;subst hk;have h1':¬i<κ.length:=fun hh=>by rw[show Lr i κ.length=true from LH hh]at h1;cases h1
       have h2':i≠κ.length:=fun hh=>by rw[hh]at h2;simp at h2
       have Xp:i+1<a+1+news.length:=by
        rcases LK (i+1) (a+1+news.length)with h|h
        ·exact h
        ·have hex:=Zv.ext (i+1) (by omega);rw[UK (i+1) (by omega)]at hex;rw[hex]at QK;cases QK
       rw[μ2w (by omega) (by omega),show a+1+(n+(i-κ.length)-(n+1))=i+1 by omega];exact QK
   ·unfold On at hr;cases hc:(Lf r 0 || Lf r (κ.length+1))with
    |false=>rw[hc]at hr;cases hr
    |true=>
     rw[hc]at hr;simp only[cond_true,YO]at hr;subst hr;refine⟨_,μ2n,fun b x hx=> ?_⟩;simp only[Bool.or_eq_true]at hc;rcases hc with hc|hc
     ·have:=YE hc;subst this;rw[him0]at QK;cases QK;exact fm20 b x (by rw[<-e0]at hx;exact hx)
     ·have:=YE hc;rw[this,<-lb]at QK;have QK:μ' a=some im:=QK;rw[hima]at QK;cases QK;exact fm2a b x hx
  have memκ:∀{k:Nat},k∈κ->∃j,κ[j]? =some k:=fun hk=>List.getElem?_of_mem hk
  have outW:∀{i:Nat},i∈LM 1 bs0.length->∃j k,i=j+1/\κ[j]? =some k:=fun {i} hi=>by
   rw[List.mem_range'_1]at hi;have:i-1<κ.length:=by omega
   exact⟨i-1,κ[i-1],by omega,by simp[this]⟩
  -- where a block of the caller's stands in the contract
  let Pt:Nat->Nat->Prop:=fun i j=>(∃q,κ[q]? =some i/\j=q+1)\/(n<i/\i<n+1+news.length/\j=a+1+(i-(n+1)))
  have pt_inj:∀{i1 i2 j:Nat},Pt i1 j->Pt i2 j->i1=i2:=fun {i1 i2 j} h1 h2=>by
   rcases h1 with ⟨q1,hq1,rfl⟩|⟨h1,h1',rfl⟩
   ·have:=(List.getElem?_eq_some_iff.1 hq1).1;rcases h2 with ⟨q2,hq2,e⟩|⟨h2,h2',e⟩
    ·obtain rfl:q1=q2:=by omega
     rw[hq1]at hq2;cases hq2;rfl
    ·omega
   ·rcases h2 with ⟨q2,hq2,e⟩|⟨h2,h2',e⟩
    ·have:=(List.getElem?_eq_some_iff.1 hq2).1;omega
    ·omega
  have after:∀{i j:Nat},Pt i j->∃o o2,Gc j=some o/\G2 i=some o2/\j<a+1+news.length/\μ2 i=μ' j/\(live o/\¬Wa o)/\(live o2/\¬Wa o2)/\∀im,OR μ' w' im o->OR μ2 w' im o2/\im.rw=true:=fun {i j} hp=>by
   rcases hp with ⟨q,hq,rfl⟩|⟨h1,h2,rfl⟩
   ·have hql:=(List.getElem?_eq_some_iff.1 hq).1;have hj:q<outs.length:=by omega
    obtain⟨o2,ho2⟩:=newAt hq;obtain⟨p,o',M,g1,g2,g3⟩:=go q o2 ho2;rw[LF,show outs[q]? =some outs[q]by simp[hj]]at g1;simp only[LL,YO]at g1;obtain⟨m1,m2⟩:=mA g2;refine⟨o',o2, ?_,by rw[gk hq,ho2],by omega,μk hq,m1,m2,fun im ZU=>zZ upVR g2 g3 ZU⟩;rw[Gc_get,Vm,if_pos (by omega)];simp[hj,g1]
   ·have hi:i-(n+1)<news.length:=by omega
    have hi':i-(n+1)<ns.length:=by omega
    obtain⟨p,o',M,g1,g2,g3⟩:=gnw (i-(n+1)) ns[i-(n+1)] (by simp[hi']);rw[LF,show news[i-(n+1)]? =some news[i-(n+1)]by simp[hi]]at g1;simp only[LL,YO]at g1;obtain⟨m1,m2⟩:=mA g2;refine⟨o',ns[i-(n+1)], ?_,by rw[gw h1 h2];simp[hi'],by omega,μ2w h1 h2,m1,m2,fun im ZU=>zZ upVR g2 g3 ZU⟩;rw[Gc_get,Vm,if_pos (by omega),LG (by omega)];simp only;rw[if_neg (by omega),Vm,if_pos (by omega),show a+1+(i-(n+1))-(a+1)=i-(n+1)by omega];simp[hi,g1]
  have regNot:∀{i:Nat} {o:Obj},i∈κ->Qw H i=some o->live o/\¬Wa o:=fun {i o} hi ho=>by
   obtain⟨j,hj⟩:=memκ hi;obtain⟨o1,hg,h1,_⟩:=was hj;rw[ho]at hg;cases hg;exact h1
  have Rκ:∀{i:Nat},i∈R->i ∉ κ:=fun {i} hi hk=>by
   obtain⟨o,ho,hr⟩:=ZG (Rreg i hi);exact(regNot hk ho).2 hr
  -- what is live, and what is a region, behind the call
  have isPt:∀{i:Nat} {o:Obj},((i∈κ\/i∈R)\/(n<=i/\i<n+1+news.length))->G2 i=some o->live o->∃j,Pt i j:=fun {i o} hi ho hl=>by
   rcases hi with (hi|hi)|hi
   ·obtain⟨q,hq⟩:=memκ hi;exact⟨q+1,.inl ⟨q,hq,rfl⟩⟩
   ·rw[gr (Rκ hi) (Rno hi)]at ho;obtain⟨o',Kt,hr⟩:=ZG (Rreg i hi);rw[ho]at Kt;cases Kt;exact absurd hl (by cases o <;> first|exact id|exact hr.elim)
   ·by_cases e:i=n
    ·subst e;rw[gn]at ho;cases ho;exact hl.elim
    ·exact⟨_,.inr ⟨by omega,hi.2,rfl⟩⟩
  have isR:∀{i:Nat} {o:Obj},((i∈κ\/i∈R)\/(n<=i/\i<n+1+news.length))->G2 i=some o->Wa o->(i∈R/\Qw H i=some o)\/(i=n/\o=X8):=fun {i o} hi ho hr=>by
   rcases hi with (hi|hi)|hi
   ·obtain⟨q,hq⟩:=memκ hi;obtain⟨_,o2,_,h2,_,_,_,h5,_⟩:=after (.inl ⟨q,hq,rfl⟩);rw[h2]at ho;cases ho;exact absurd hr h5.2
   ·exact .inl ⟨hi,by rw[<-gr (Rκ hi) (Rno hi)];exact ho⟩
   ·by_cases e:i=n
    ·subst e;rw[gn]at ho;cases ho;exact .inr ⟨rfl,rfl⟩
    ·obtain⟨_,o2,_,h2,_,_,_,h5,_⟩:=after (i:=i) (.inr ⟨by omega,hi.2,rfl⟩);rw[h2]at ho;cases ho;exact absurd hr h5.2
  have frm:∀b,b<w.heap.size->(∀k∈κ,∀im,μ k=some im->im.Zt≠b)->w'.heap[b]? =w.heap[b]? :=fun b hb hx=>Zv.frame b hb fun i hi hia im QK=>by
   obtain⟨j,k,rfl,hk⟩:=outW hi;rw[μs hk]at QK;exact hx k (Lp hk) im QK
  have newSz:∀{i j:Nat} {o:Obj} {im:c7},n<i->i<n+1+news.length->j=a+1+(i-(n+1))->Gc j=some o->live o->μ' j=some im->im.rw=true/\w.heap.size<=im.Zt:=fun {i j o im} h1 h2 hj ho hl QK=>by
   obtain⟨p,q⟩:=Zv.fresh j im o (by omega) (by omega) ho hl QK;refine⟨p,q.elim id ?_⟩;rintro⟨k,hk,hka,QS,hd⟩;obtain⟨q',k',rfl,hk'⟩:=outW hk;obtain⟨o',_,h3,_,_,_,h4,_⟩:=after (.inl ⟨q',hk',rfl⟩);exact absurd h4.1 (hd o' h3)
  have hPG:PG B.B (fun i=>i∈κ\/i∈R) (fun i=>n<=i/\i<n+1+news.length) (fun i=>i∈κ) μ μ2 (Qw H) G2 w w':=by
   refine⟨⟨fun i o hi ho hl=> ?_,fun i o im hi ho hl QK=> ?_,fun i j oi oj x y hi hj TS Wc Wb hli Ud hx hy hrx hry=> ?_,fun i o hi ho hr=> ?_,fun i j oi oj x y z hi hj Wc Wb Pa Ud hx hy hry hz=> ?_⟩,fun i hi=>μ2o hi,fun i hi hw=>gr hw hi,Zv.grow,fun b hb hx=>frm b hb hx,fun i hi=> ?_,fun i im o hi ho hl QK=> ?_,fun i im o hi ho hr QK b x hx=> ?_,Zv.os,Zv.tape,Zv.output⟩
   ·obtain⟨j,hp⟩:=isPt hi ho hl;obtain⟨o',o2,h1,h2,h3,h4,h5,h6,h7⟩:=after hp;rw[h2]at ho;cases ho;obtain⟨im,QK,ZU⟩:=okG.rel j o' ((aS j).2 h3) h1 h5.1;exact⟨im,by rw[h4];exact QK,(h7 im ZU).1⟩
   ·obtain⟨j,hp⟩:=isPt hi ho hl;obtain⟨o',o2,h1,h2,h3,h4,h5,h6,h7⟩:=after hp;rw[h4]at QK;exact okG.low j o' im ((aS j).2 h3) h1 h5.1 QK
   ·obtain⟨j1,Yi⟩:=isPt hi Wc hli;obtain⟨j2,Sm⟩:=isPt hj Wb Ud;obtain⟨o1,_,g1,_,l1,m1,n1,_⟩:=after Yi;obtain⟨o2,_,g2,_,l2,m2,n2,_⟩:=after Sm;rw[m1]at hx;rw[m2]at hy;refine okG.inj j1 j2 o1 o2 x y ((aS j1).2 l1) ((aS j2).2 l2) (fun e=> ?_) g1 g2 n1.1 n2.1 hx hy hrx hry;subst e;exact TS (pt_inj Yi Sm)
   ·rcases isR hi ho hr with ⟨hi,hg⟩|⟨rfl,rfl⟩
    ·obtain⟨im,QK,hx⟩:=QE.P1 i o (RS i hi) hg hr;refine⟨im,by rw[μ2o (Rno hi)];exact QK,fun b x hb=> ?_⟩;have hw:=hx b x hb;rw[frm b (Array.getElem?_eq_some_iff.1 hw).1 fun k hk Z9 QS hbb=> ?_]
     ·exact hw
     ·obtain⟨j,hj⟩:=memκ hk;obtain⟨o1,hg1,h1,h3⟩:=was hj;exact QE.sep i k o o1 im Z9 x (RS i hi) (κS k hk) hg hg1 hr h1.1 QK QS (h3 Z9 QS) (by rw[hbb];exact hb)
    ·exact⟨_,μ2n,fm2w⟩
   ·obtain⟨q,hp⟩:=isPt hj Wb Ud;obtain⟨o',o2,h1,h2,h3,h4,h5,h6,h7⟩:=after hp;rcases isR hi Wc Pa with ⟨hi,hg⟩|⟨rfl,rfl⟩
    ·rw[μ2o (Rno hi)]at hx;rcases hp with ⟨q',hq',rfl⟩|⟨g1,g2,rfl⟩
     ·obtain⟨o1,hg1,h1',_⟩:=was hq';rw[μ2o (κno (Lp hq'))]at hy;exact QE.sep i j oi o1 x y z (RS i hi) (κS j (Lp hq')) hg hg1 Pa h1'.1 hx hy hry hz
     ·rw[h4]at hy;have ZW:=(newSz g1 g2 rfl h1 h5.1 hy).2;have:=PI QE (RS i hi) hg Pa hx hz;omega
    ·rw[μ2n]at hx;cases hx;rw[h4]at hy;have hz:(match Y7 μ H w R y.Zt with|some x=>some x|none=>ima.fm y.Zt)=some z:=hz;cases hu:Y7 μ H w R y.Zt with
     |some u=>exact okG.sep 0 q X8 o' im0 y u ((aS 0).2 (by omega)) ((aS q).2 h3) Xo h1 trivial h5.1 him0 hy hry (by rw[<-e0];exact hu)
     |none=>
      rw[hu]at hz;exact okG.sep a q X8 o' ima y z ((aS a).2 (by omega)) ((aS q).2 h3) hga h1 trivial h5.1 hima hy hry hz
   ·obtain⟨j,hj⟩:=memκ hi;obtain⟨o1,hg1,h1,h3⟩:=was hj;obtain⟨im2,WS,ZU⟩:=QE.rel i o1 (κS i hi) hg1 h1.1;exact⟨.inl hi,⟨o1,hg1,h1.1⟩,im2,WS,h3 im2 WS⟩
   ·obtain⟨j,hp⟩:=isPt (.inr hi) ho hl;obtain⟨o',o2,h1,h2,h3,h4,h5,h6,h7⟩:=after hp;rw[h4]at QK;rcases hp with ⟨q',hq',rfl⟩|⟨g1,g2,rfl⟩
    ·have:=κlt i (Lp hq');omega
    ·have:=newSz g1 g2 rfl h1 h5.1 QK;exact⟨this.1,.inl this.2⟩
   ·rcases isR (hi.elim .inr fun hi=>.inl (.inl hi)) ho hr with ⟨hiR,_⟩|⟨rfl,rfl⟩
    ·exact absurd (hi.elim (fun h=>absurd h (Rno hiR)) (fun h=>absurd h (Rκ hiR))) id
    rw[μ2n]at QK;cases QK;have Xs:∀y,Y7 μ H w R b=some y->∃k UT ko,(k∈κ\/k∈R)/\Qw H k=some ko/\Wa ko/\μ k=some UT/\UT.fm b=some y:=fun y hy=>by
     have hw:=Vo hy;unfold Y7 at hy;split at hy
     ·rename_i hc;obtain⟨i,hi,o,Z9,hg,QS,Yb⟩:=hc;obtain⟨o',Kt,hr'⟩:=ZG (Rreg i hi);rw[hg]at Kt;cases Kt;rcases Yb with ⟨_,JU⟩|⟨hl',_⟩
      ·cases hz:Z9.fm b with
       |none=>exact absurd hz JU
       |some z=>
        obtain⟨im3,him3,hf3⟩:=QE.P1 i o (RS i hi) hg hr';rw[QS]at him3;cases him3;have:=hf3 b z hz;rw[hw]at this;cases this;exact⟨i,Z9,o,.inr hi,hg,hr',QS,hz⟩
      ·exact absurd hl' (by cases o <;> first|exact id|exact hr'.elim)
     ·cases hy
    have hx:(match Y7 μ H w R b with|some x=>some x|none=>ima.fm b)=some x:=hx;cases hu:Y7 μ H w R b with
    |some u=>
     rw[hu]at hx;cases hx;exact .inr (.inl (Xs _ hu))
    |none=>
     rw[hu]at hx;rcases Zv.rf a ima X8 (.inl ⟨LI _,by omega⟩) hga trivial hima b x hx with q|⟨k,UT,ko,k1,_,k3,k4,k5,k6⟩|⟨k,hk,hka,QS,hd⟩
     ·exact .inl q
     ·rcases Zt k ko k1 k3 with ⟨rfl,rfl⟩|⟨_,_,_,_,_,_,_,k7,_⟩
      ·rw[μ0]at k5;cases k5;have:Y7 μ H w R b=some x:=k6;rw[hu]at this;cases this
      ·exact absurd k4 k7.2
     ·obtain⟨j,k',rfl,hk'⟩:=outW hk;obtain⟨o',_,h3,_,_,_,h4,_⟩:=after (.inl ⟨j,hk',rfl⟩);exact absurd h4.1 (hd o' h3)
  have hthen:=PG.then (G2:=G2) (PG.refl QE) hPG (fun i hi=>.inl (hi.elim (κS i) (RS i))) (fun i _=>rfl) (fun i hi=>⟨fun hs=>by have:=hS i hs;omega,id⟩) (fun i hi=>hfn i hi.1 hi.2) (fun i _=>rfl) fun i hw hn=>gr hw hn
  have eW:(fun i=>False\/(i∈κ/\¬False))=fun i=>i∈κ/\i<n:=funext fun i=>propext ⟨fun hi=>hi.elim False.elim fun hi=>⟨hi.1,κlt i hi.1⟩,fun hi=>.inr ⟨hi.1,id⟩⟩
  have hthen:PG B.B S (fun i=>False\/(n<=i/\i<n+1+news.length)) (fun i=>False\/(i∈κ/\¬False)) μ μ2 (Qw H) G2 w w':=hthen;rw[eW]at hthen;refine⟨Zg,w',μ2,hthen.post (fun i=>⟨fun hi=>hi.elim False.elim id,.inr⟩) (by omega) hS, ?_,he⟩;cases hout with
  |ret VY=>
   unfold GX at e3;split at e3
   ·rename_i v0 q0;cases q0;split at e3
    ·rename_i u hu1;simp only[YO]at e3;subst e3;exact .ret (upVR _ _ _ hu1 VY)
    ·cases e3
   ·rename_i v0 q0;cases q0
  |We VY=>
   unfold GX at e3;split at e3
   ·rename_i v0 q0;cases q0
   ·rename_i v0 q0;cases q0;split at e3
    ·rename_i u hu1;simp only[YO]at e3;subst e3;exact .We (upVR _ _ _ hu1 VY)
    ·cases e3
 ·cases e
end
end Go.CE
