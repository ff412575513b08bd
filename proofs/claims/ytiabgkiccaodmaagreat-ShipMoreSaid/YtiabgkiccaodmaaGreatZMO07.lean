/- SE 5: heads of loops, ends of calls. -/
import Derived.Test.YtiabgkiccaodmaaGreatZMO06
import Derived.IntWalk
set_option linter.all false
namespace Go.CE
open Go Go.RowKit

def distinct:List Nat->Bool
 | []=> true
 | a::l=> l.all (fun b=> !(Nat.beq a b)) && distinct l
theorem Qkq {l:List Nat} (h:distinct l=true):∀(i j:Nat) a,l[i]? =some a->l[j]? =some a->i=j:=by
 induction l with
 | nil=> intro i j a hi;simp at hi
 | cons b l ih=>
   simp only [distinct,YB] at h;have hne:∀a∈l,a≠b:=by
    intro a ha e;have:=List.all_eq_true.1 h.1 a ha;rw [e] at this;simp at this
   intro i j a hi hj;cases i with
   | zero=>
     cases j with
     | zero=> rfl
     | succ j=>
       simp only [List.getElem?_cons_zero,YO,List.getElem?_cons_succ] at hi hj;exact absurd hi.symm (hne a (List.mem_of_getElem? hj))
   | succ i=>
     cases j with
     | zero=>
       simp only [List.getElem?_cons_zero,YO,List.getElem?_cons_succ] at hi hj;exact absurd hj.symm (hne a (List.mem_of_getElem? hi))
     | succ j=>
       simp only [List.getElem?_cons_succ] at hi hj;rw [ih h.2 i j a hi hj]
section
variable {P:Program} {F:FuncId->Bool} {B:Lo}
end
def nav:Code->List Nat->Code
 | c,[]=> c
 | .seq a b,k::l=> bif Nat.beq k 0 then nav a l else nav b l
 | .cond _ a b,k::l=> bif Nat.beq k 0 then nav a l else nav b l
 | .block _ a,_::l=> nav a l
 | .loop a,_::l=> nav a l
 | .scope a,_::l=> nav a l
 | .rangeFunc _ _ a b,k::l=> bif Nat.beq k 0 then nav a l else nav b l
 | c,_=> c
def Qaq (P:Program) (f:FuncId):Code:=match nth P.funcs.toList f with
 | some fn=> match fn.body with
   | some c=> c
   | none=> .skip
 | none=> .skip
inductive It where
 | code (l:List Nat)
 | inBlock (k:Nat)
 | inLoop (l:List Nat)
 | inScope (l:List Nat)
def it (b:Code):It->Item
 | .code l=> .code (nav b l)
 | .inBlock k=> .inBlock k
 | .inLoop l=> .inLoop (nav b l)
 | .inScope l=> .inScope (nav b l)
def Qae (P:Program) (f:FuncId) (len:Nat) (args:List Value):CF:=⟨f,ofList len args,[.code (Qaq P f)],[],.run,none⟩
end Go.CE

namespace Go.CE
open Go Go.RowKit

theorem QaR {x:Int} (h1: -9223372036854775808<=x) (h2:x<=9223372036854775807):wq x=x:=by
 rw [Q6S];exact IntWalk.i64_in _ ⟨h1,h2⟩
theorem Qjs {x:Int} (h1: -9223372036854775808<=x) (h2:x<=9223372036854775807):IntKind.i64.wrap x=x:=IntWalk.i64_in _ ⟨h1,h2⟩
theorem Qbq {a b:Int} (h:a < b):ltq a b=true:=by rw [Qu2];simpa using h
theorem Qbj {a b:Int} (h:b<=a):ltq a b=false:=by rw [Qu2];simpa using h
theorem Qcq {a b:Int} (h:b<=a):(!ltq a b)=true:=by rw [Qbj h];rfl
theorem Qcn {a b:Int} (h:a < b):(!ltq a b)=false:=by rw [Qbq h];rfl
theorem Qvr {a b:Int} (h:a=b):eqq a b=true:=by rw [QnU];simpa using h
theorem Qw1 {a b:Int} (h:a≠b):eqq a b=false:=by rw [QnU];simpa using h

section
variable {P:Program} {B:Lo}
end
end Go.CE
namespace Go.CE
open Go Go.RowKit
section
variable {P:Program} {B:Lo}
end
end Go.CE

namespace Go.CE
open Go Go.RowKit

theorem TRv.mono {fm fm':Nat->Option Obj} (h:∀b x,fm b=some x->fm' b=some x) {t v:Value} (ht:TRv fm t v):TRv fm' t v:=by
 induction ht with
 | simple h=> exact .simple h
 | agg h1 _ ih=> exact .agg h1 ih
 | tuple h1 _ ih=> exact .tuple h1 ih
 | iface _ ih=> exact .iface ih
 | func h1 h2 _ _ ih1 ih2=> exact .func h1 h2 ih1 ih2
 | slice h1 h2 h3 h4 _ ih=> exact .slice h1 h2 (h _ _ h3) h4 ih
 | nil=> exact .nil
 | empty h=> exact .empty h
 | ptr h1 h2 _ ih=> exact .ptr (h _ _ h1) h2 ih
theorem TRv.simple_eq {fm:Nat->Option Obj} {t v:Value} (h:CE.simple t=true) (ht:TRv fm t v):v=t:=by
 cases ht with
 | simple _=> rfl
 | func h1 h2 _ _=>
   simp only [CE.simple,YB,beq_iff_eq] at h;have e1:=Array.eq_empty_of_size_eq_zero h.1;have e2:=Array.eq_empty_of_size_eq_zero h.2;subst e1 e2;rw [Array.eq_empty_of_size_eq_zero h1.symm,Array.eq_empty_of_size_eq_zero h2.symm]
 | agg _ _=> cases h
 | tuple _ _=> cases h
 | iface _=> cases h
 | slice _ _ _ _ _=> cases h
 | nil=> cases h
 | empty _=> cases h
 | ptr _ _ _=> cases h
def Qf5 (r:Nat) (v:Value):Value:=bif simple v then v else Qat r v
def Qal (r:Nat):Nat->Value->Value
 | 0,v=> Qf5 r v
 | f+1,v=> match v with
   | .agg xs=> .agg (xs.map (Qal r f))
   | .tuple xs=> .tuple (xs.map (Qal r f))
   | .iface t x=> .iface t (Qal r f x)
   | .func (.func g) xs ys=> .func (.func g) (xs.map (Qal r f)) (ys.map (Qal r f))
   | v=> Qf5 r v
def okT:Nat->Value->Bool
 | 0,v=> simple v || Qf2 v
 | f+1,v=> match v with
   | .agg xs=> xs.all (okT f)
   | .tuple xs=> xs.all (okT f)
   | .iface _ x=> okT f x
   | .func (.func _) xs ys=> xs.all (okT f) && ys.all (okT f)
   | v=> simple v || Qf2 v
section
variable {μ:Mu} {r:Nat} {im:Img}
theorem QkR (hr:μ r=some im) {v v':Value} (ho:(simple v || Qf2 v)=true) (h:TRv im.fm v v'):VR μ (Qf5 r v) v':=by
 unfold Qf5;cases hs:simple v with
 | true=> rw [h.simple_eq hs];exact QbT hs
 | false=>
   rw [hs] at ho;exact .top (by simpa using ho) hr h
theorem Qhl (hr:μ r=some im):∀(f:Nat) (v v':Value),okT f v=true->TRv im.fm v v'->VR μ (Qal r f v) v'
 | 0,v,v',ho,h=> QkR hr ho h
 | f+1,v,v',ho,h=> by
   have arr:∀{xs xs':Array Value},xs.all (okT f)=true->xs.size=xs'.size->(∀(i:Nat) v v',xs[i]? =some v->xs'[i]? =some v'->TRv im.fm v v')->(xs.map (Qal r f)).size=xs'.size/\∀(i:Nat) v v',(xs.map (Qal r f))[i]? =some v->xs'[i]? =some v'->VR μ v v':=by
    intro xs xs' ha hs hx;refine ⟨by simpa using hs,fun i v v' hv hv'=> ?_⟩;rw [Array.getElem?_map] at hv;cases hy:xs[i]? with
    | none=> rw [hy] at hv;cases hv
    | some y=>
      rw [hy] at hv;simp only [Option.map_some,YO] at hv;subst hv;exact Qhl hr f y v' (Array.all_eq_true'.1 ha y (Array.mem_of_getElem? hy)) (hx i y v' hy hv')
   cases v with
   | agg xs=>
     cases h with
     | simple h=> cases h
     | agg h1 h2=> exact .agg (arr ho h1 h2).1 (arr ho h1 h2).2
   | tuple xs=>
     cases h with
     | simple h=> cases h
     | tuple h1 h2=> exact .tuple (arr ho h1 h2).1 (arr ho h1 h2).2
   | iface t x=>
     cases h with
     | simple h=> cases h
     | iface h=> exact .iface (Qhl hr f x _ ho h)
   | func fn xs ys=>
     cases fn with
     | func g=>
       have ho:(xs.all (okT f) && ys.all (okT f))=true:=ho;simp only [YB] at ho;cases h with
       | simple hs=>
         simp only [simple,YB,beq_iff_eq] at hs;have e1:=Array.eq_empty_of_size_eq_zero hs.1;have e2:=Array.eq_empty_of_size_eq_zero hs.2;subst e1 e2;exact .func (by simp) (by simp) (fun i v v' hv=> by simp at hv) (fun i v v' hv=> by simp at hv)
       | func h1 h2 h3 h4=> exact .func (arr ho.1 h1 h3).1 (arr ho.2 h2 h4).1 (arr ho.1 h1 h3).2 (arr ho.2 h2 h4).2
     | _=> exact QkR hr (by exact ho) h
   | _=> exact QkR hr ho h
end
def Qkt:Nat->Value->Bool
 | 0,v=> simple v
 | f+1,v=> match v with
   | .agg xs=> xs.all (Qkt f)
   | .tuple xs=> xs.all (Qkt f)
   | .iface _ x=> Qkt f x
   | v=> simple v
theorem QlV {μ:Mu} {fm:Nat->Option Obj}:∀(f:Nat) (v v':Value),Qkt f v=true->TRv fm v v'->VR μ v v'
 | 0,v,v',ho,h=> by rw [h.simple_eq ho];exact QbT ho
 | f+1,v,v',ho,h=> by
   have arr:∀{xs xs':Array Value},xs.all (Qkt f)=true->(∀(i:Nat) v v',xs[i]? =some v->xs'[i]? =some v'->TRv fm v v')->∀(i:Nat) v v',xs[i]? =some v->xs'[i]? =some v'->VR μ v v':=
    fun ha hx i v v' hv hv'=> QlV f v v' (Array.all_eq_true'.1 ha v (Array.mem_of_getElem? hv)) (hx i v v' hv hv')
   cases v with
   | agg xs=>
     cases h with
     | simple h=> cases h
     | agg h1 h2=> exact .agg h1 (arr ho h2)
   | tuple xs=>
     cases h with
     | simple h=> cases h
     | tuple h1 h2=> exact .tuple h1 (arr ho h2)
   | iface t x=>
     cases h with
     | simple h=> cases h
     | iface h=> exact .iface (QlV f x _ ho h)
   | _=>
     rw [TRv.simple_eq (by exact ho) h];exact QbT (by exact ho)
def Qbf:Option Obj->Bool
 | some (.coro _)=> true
 | _=> false
theorem Qd3 {o:Option Obj} (h:Qbf o=true):∃x,o=some x/\QeK x:=by
 cases o with
 | none=> cases h
 | some x=> cases x <;> first | exact ⟨_,rfl,trivial⟩ | cases h
def QwJ:Value->Option (Nat×Nat×Array Value)
 | .func (.via r ⟨[]⟩ 0 true) ⟨[.func (.via n ⟨[]⟩ 0 false) ⟨[]⟩ cs]⟩ ⟨[]⟩=> some (r,n,cs)
 | _=> none
def Q2x:Value->Option (Nat×Nat×Array Value)
 | .func (.via r ⟨[]⟩ 0 true) ⟨[.func (.via off ⟨[]⟩ 1 true) ⟨[]⟩ cs]⟩ ⟨[]⟩=> some (r,off,cs)
 | _=> none
theorem Qk6 {v:Value} {r n:Nat} {cs:Array Value} (h:QwJ v=some (r,n,cs)):v=Qat r (slT n cs):=by
 unfold QwJ at h;split at h
 ·simp only [YO,YR] at h;obtain ⟨rfl,rfl,rfl⟩:=h;rfl
 ·cases h
theorem QuI {v:Value} {r off:Nat} {cs:Array Value} (h:Q2x v=some (r,off,cs)):v=Qat r (ptT off cs):=by
 unfold Q2x at h;split at h
 ·simp only [YO,YR] at h;obtain ⟨rfl,rfl,rfl⟩:=h;rfl
 ·cases h
theorem VR.top_inv {μ:Mu} {r:Nat} {t v':Value} (h:VR μ (Qat r t) v'):∃im,μ r=some im/\TRv im.fm t v':=by
 cases h with
 | top _ h1 h2=> exact ⟨_,h1,h2⟩
theorem TRv.slice_inv {fm:Nat->Option Obj} {n:Nat} {cs:Array Value} {v':Value} (h:TRv fm (slT n cs) v'):((∃b o c' arr t fl,v'=.slice (some ⟨b,o,none⟩) n c'/\n<=c'/\c'<=maxLen/\fm b=some (.cells arr t fl)/\(∀i,i < cs.size->o+i < arr.size)/\(∀(i:Nat) v v',cs[i]? =some v->arr[o+i]? =some v'->TRv fm v v'))\/
 (n=0/\cs=#[]/\∃a c',v'=.slice a 0 c'/\c'<=maxLen)):=by
 cases h with
 | simple h=> cases h
 | slice h1 h2 h3 h5 h6=> exact .inl ⟨_,_,_,_,_,_,rfl,h1,h2,h3,h5,h6⟩
 | nil=> exact .inr ⟨rfl,rfl,none,0,rfl,Nat.zero_le _⟩
 | empty h=> exact .inr ⟨rfl,rfl,_,_,rfl,h⟩
theorem TRv.ptr_inv {fm:Nat->Option Obj} {off:Nat} {cs:Array Value} {v':Value} (h:TRv fm (ptT off cs) v'):∃b o arr t fl,v'=.pointer (some ⟨b,o+off,none⟩)/\fm b=some (.cells arr t fl)/\(∀i,i < cs.size->o+i < arr.size)/\(∀(i:Nat) v v',cs[i]? =some v->arr[o+i]? =some v'->TRv fm v v'):=by
 cases h with
 | simple h=> cases h
 | ptr h1 h2 h3=> exact ⟨_,_,_,_,_,rfl,h1,h2,h3⟩
end Go.CE

namespace Go.CE
open Go Go.RowKit

def TRvs (fm:Nat->Option Obj) (xs xs':Array Value):Prop:=xs.size=xs'.size/\∀(i:Nat) v v',xs[i]? =some v->xs'[i]? =some v'->TRv fm v v'
def Qny (fm:Nat->Option Obj) (w w':World) (b:Nat):Option Obj:=if b < w.heap.size then fm b else w'.heap[b]?
def Qai (P:Program) (J:World->Prop) (g:FuncId) (targs:Array Value) (out:Value):Prop:=
 ∀(fm:Nat->Option Obj) (w:World) (args':Array Value),J w->(∀b x,fm b=some x->w.heap[b]? =some x)->TRvs fm targs args'->
  Calls P g args' w fun e w'=> ∃v',e=.returned v'/\Below w.heap.size w w'/\TRv (Qny fm w w') out v'
structure Fz where
 k:Nat
 rs:List Nat
 cs:Array Value
def Qs0:List Fz->Nat->Option Fz
 | [],_=> none
 | x::l,k=> bif Nat.beq x.k k then some x else Qs0 l k
def Q3G (rs:List Nat) (v v1:Value):Prop:=(simple v=true/\v1=v)\/∃r∈rs,v=Qat r v1/\Qf2 v1=true
def Qbl (rs:List Nat) (cs cs1:Array Value):Prop:=cs.size=cs1.size/\∀(i:Nat) v v1,cs[i]? =some v->cs1[i]? =some v1->Q3G rs v v1
theorem QfZ {rs:List Nat} {cs:Array Value} (h:cs.all simple=true):Qbl rs cs cs:=⟨rfl,fun i v v1 h1 h2=> by
 rw [h1] at h2;cases h2;exact .inl ⟨Array.all_eq_true'.1 h v (Array.mem_of_getElem? h1),rfl⟩⟩
def isNil:Value->Bool
 | .slice none 0 0=> true
 | _=> false
theorem Q3a {v:Value} (h:isNil v=true):v=.slice none 0 0:=by
 unfold isNil at h;split at h
 ·rfl
 ·cases h
def Qvb (H:Qar) (fz:List Fz) (v:Value):Option (Value×List Nat×List Prop):=bif isNil v then some (slT 0 #[],[],[]) else bif simple v then some (v,[],[]) else match v with
 | .func (.via r ⟨[]⟩ 0 true) ⟨[t]⟩ ⟨[]⟩=> bif Qbf (Qaw H r) then some (t,[r],[]) else none
 | .slice (some ⟨k,0,none⟩) n _=> match Qs0 fz k,Qaw H k with
   | some x,some (.cells cs _ (0,0))=> bif x.rs.all fun r=> Qbf (Qaw H r) then some (slT n x.cs,k::x.rs,[Qbl x.rs cs x.cs]) else none
   | _,_=> none
 | .pointer (some ⟨k,o,none⟩)=> match Qs0 fz k,Qaw H k with
   | some x,some (.cells cs _ (0,0))=> bif x.rs.all fun r=> Qbf (Qaw H r) then some (ptT o x.cs,k::x.rs,[Qbl x.rs cs x.cs]) else none
   | _,_=> none
 | _=> none
def Qfl (f:Value->Option (Value×List Nat×List Prop)):List Value->Option (List Value×List Nat×List Prop)
 | []=> some ([],[],[])
 | v::l=> match f v with
   | some (t,R,L)=> match Qfl f l with
     | some (ts,R2,L2)=> some (t::ts,R++R2,L++L2)
     | none=> none
   | none=> none
def Qea (H:Qar) (fz:List Fz):Nat->Value->Option (Value×List Nat×List Prop)
 | 0,v=> Qvb H fz v
 | f+1,v=> match v with
   | .agg xs=> match Qfl (Qea H fz f) xs.toList with
     | some (l,R,L)=> some (.agg l.toArray,R,L)
     | none=> none
   | .tuple xs=> match Qfl (Qea H fz f) xs.toList with
     | some (l,R,L)=> some (.tuple l.toArray,R,L)
     | none=> none
   | .iface t x=> match Qea H fz f x with
     | some (x,R,L)=> some (.iface t x,R,L)
     | none=> none
   | .func (.func g) xs ys=> match Qfl (Qea H fz f) xs.toList with
     | some (l,R,L)=> match Qfl (Qea H fz f) ys.toList with
       | some (m,R2,L2)=> some (.func (.func g) l.toArray m.toArray,R++R2,L++L2)
       | none=> none
     | none=> none
   | v=> Qvb H fz v
theorem QaI {a b:List Prop} (h:Qas (a++b)):Qas a/\Qas b:=by
 induction a with
 | nil=> exact ⟨trivial,h⟩
 | cons x a ih=> exact ⟨⟨h.1,(ih h.2).1⟩,(ih h.2).2⟩
noncomputable def fmU (μ:Mu) (H:Qar) (w:World) (R:List Nat) (b:Nat):Option Obj:=
 open Classical in if ∃i∈R,∃o im,Qaw H i=some o/\μ i=some im/\((QeK o/\im.fm b≠none)\/(live o/\im.blk=b)) then w.heap[b]? else none
section
variable {B:Nat} {S:Nat->Prop} {μ:Mu} {H:Qar} {w:World} {fz:List Fz}
theorem Qdm {R:List Nat} {b:Nat} {x:Obj} (h:fmU μ H w R b=some x):w.heap[b]? =some x:=by
 unfold fmU at h;split at h
 ·exact h
 ·cases h
theorem QkB {R R':List Nat} (hs:∀i∈R,i∈R') {b:Nat} {x:Obj} (h:fmU μ H w R b=some x):fmU μ H w R' b=some x:=by
 have hw:=Qdm h;unfold fmU at h ⊢;split at h
 ·rename_i hc;obtain ⟨i,hi,r⟩:=hc;rw [if_pos ⟨i,hs i hi,r⟩];exact hw
 ·cases h
theorem Qt3 (hok:Ok B S μ (Qaw H) w) {R:List Nat} {r:Nat} (hr:r∈R) (hS:S r) (hg:Qbf (Qaw H r)=true) {im:Img} (him:μ r=some im) {b:Nat} {x:Obj} (hx:im.fm b=some x):fmU μ H w R b=some x:=by
 obtain ⟨o,ho,hreg⟩:=Qd3 hg;obtain ⟨im',him',hf⟩:=hok.reg r o hS ho hreg;rw [him] at him';cases him';unfold fmU;rw [if_pos ⟨r,hr,o,im,ho,him,.inl ⟨hreg,by rw [hx];simp⟩⟩];exact hf b x hx
theorem QoS {R:List Nat} {k:Nat} (hk:k∈R) {o:Obj} (hg:Qaw H k=some o) (hl:live o) {im:Img} (him:μ k=some im):fmU μ H w R im.blk=w.heap[im.blk]? :=by
 unfold fmU;rw [if_pos ⟨k,hk,o,im,hg,him,.inr ⟨hl,rfl⟩⟩]
theorem QiS (hok:Ok B S μ (Qaw H) w) {k:Nat} (hS:S k) {cs:Array Value} {t:TypeId} (hg:Qaw H k=some (.cells cs t (0,0))):∃im arr,μ k=some im/\im.rw=true/\im.off=0/\w.heap[im.blk]? =some (.cells arr t (0,0))/\cs.size<=arr.size/\arr.size=im.cap/\∀(i:Nat) v,cs[i]? =some v->∃v',arr[i]? =some v'/\VR μ v v':=by
 obtain ⟨im,him,hor⟩:=hok.rel k _ hS hg trivial;rcases hor with ⟨_,h1,h2,arr,h3,h4,h5,h6⟩ | ⟨hz,_⟩
 ·exact ⟨im,arr,him,h1,h2,h3,h4,h5,h6⟩
 ·exact absurd rfl hz
theorem Qqm (hok:Ok B S μ (Qaw H) w) {R rs:List Nat} (hsub:∀r∈rs,r∈R) (hS:∀r∈R,S r) (hreg:(rs.all fun r=> Qbf (Qaw H r))=true) {v v1 v':Value} (h:Q3G rs v v1) (hv:VR μ v v'):TRv (fmU μ H w R) v1 v':=by
 rcases h with ⟨h1,rfl⟩ | ⟨r,hr,rfl,_⟩
 ·rw [simple_eq h1 hv];exact .simple h1
 ·obtain ⟨im,him,ht⟩:=hv.top_inv;exact ht.mono fun b x hx=> Qt3 hok (hsub r hr) (hS r (hsub r hr)) (List.all_eq_true.1 hreg r hr) him hx
theorem Qg1 (hok:Ok B S μ (Qaw H) w) {v v' t:Value} {R:List Nat} {L:List Prop} (h:Qvb H fz v=some (t,R,L)) (hL:Qas L) (hS:∀r∈R,S r) (hv:VR μ v v'):TRv (fmU μ H w R) t v':=by
 unfold Qvb at h;cases hn:isNil v with
 | true=>
   rw [hn] at h;simp only [cond_true,YO,YR] at h;obtain ⟨rfl,rfl,rfl⟩:=h;have:=Q3a hn;subst this;cases hv;exact .nil
 | false=>
 rw [hn] at h;simp only [cond_false] at h;cases hs:simple v with
 | true=>
   rw [hs] at h;simp only [cond_true,YO,YR] at h;obtain ⟨rfl,rfl,rfl⟩:=h;rw [simple_eq hs hv];exact .simple hs
 | false=>
   rw [hs] at h;simp only [cond_false] at h;split at h
   ·rename_i r t0;cases hg:Qbf (Qaw H r) with
    | false=> rw [hg] at h;cases h
    | true=>
      rw [hg] at h;simp only [cond_true,YO,YR] at h;obtain ⟨rfl,rfl,rfl⟩:=h;obtain ⟨im,him,ht⟩:=VR.top_inv (r:=r) (t:=t0) hv;exact ht.mono fun b x hx=> Qt3 hok (by simp) (hS r (by simp)) hg him hx
   ·rename_i k n _;split at h
    ·rename_i x cs ty hx hg;cases hr:(x.rs.all fun r=> Qbf (Qaw H r)) with
     | false=> rw [hr] at h;cases h
     | true=>
       rw [hr] at h;simp only [cond_true,YO,YR] at h;obtain ⟨rfl,rfl,rfl⟩:=h;obtain ⟨⟨h2,h3⟩,_⟩:=hL;have hkS:=hS k (by simp);obtain ⟨im,arr,him,_,hoff,harr,hle,_,hcells⟩:=QiS hok hkS hg;cases hv with
       | slice har a b _=>
         obtain ⟨im2,him2,_,rfl⟩:=har;rw [him] at him2;cases him2;rw [hoff];refine TRv.slice (o:=0) a b ((QoS (by simp) hg trivial him).trans harr) (fun i hi=> by omega) fun i v v' hv hv'=> ?_
         simp only [Nat.zero_add] at hv';have hi:i < cs.size:=by rw [h2];exact (Array.getElem?_eq_some_iff.1 hv).1
         obtain ⟨u,hu1,hu2⟩:=hcells i cs[i] (by simp [hi]);rw [hv'] at hu1;cases hu1;exact Qqm hok (fun r hr=> List.mem_cons_of_mem _ hr) hS hr (h3 i _ _ (by simp [hi]) hv) hu2
    ·cases h
   ·rename_i k o;split at h
    ·rename_i x cs ty hx hg;cases hr:(x.rs.all fun r=> Qbf (Qaw H r)) with
     | false=> rw [hr] at h;cases h
     | true=>
       rw [hr] at h;simp only [cond_true,YO,YR] at h;obtain ⟨rfl,rfl,rfl⟩:=h;obtain ⟨⟨h2,h3⟩,_⟩:=hL;have hkS:=hS k (by simp);obtain ⟨im,arr,him,_,hoff,harr,hle,_,hcells⟩:=QiS hok hkS hg;cases hv with
       | ptr har=>
         obtain ⟨im2,him2,_,rfl⟩:=har;rw [him] at him2;cases him2;rw [hoff];refine TRv.ptr (o:=0) ((QoS (by simp) hg trivial him).trans harr) (fun i hi=> by omega) fun i v v' hv hv'=> ?_
         simp only [Nat.zero_add] at hv';have hi:i < cs.size:=by rw [h2];exact (Array.getElem?_eq_some_iff.1 hv).1
         obtain ⟨u,hu1,hu2⟩:=hcells i cs[i] (by simp [hi]);rw [hv'] at hu1;cases hu1;exact Qqm hok (fun r hr=> List.mem_cons_of_mem _ hr) hS hr (h3 i _ _ (by simp [hi]) hv) hu2
    ·cases h
   ·cases h
theorem QgJ {f:Value->Option (Value×List Nat×List Prop)} (hf:∀v v' t R L,f v=some (t,R,L)->Qas L->(∀r∈R,S r)->VR μ v v'->TRv (fmU μ H w R) t v'):∀(l:List Value) (ts:List Value) (R:List Nat) (L:List Prop) (l':List Value),Qfl f l=some (ts,R,L)->Qas L->(∀r∈R,S r)->l.length=l'.length->(∀(i:Nat) v v',l[i]? =some v->l'[i]? =some v'->VR μ v v')->
 ts.length=l'.length/\∀(i:Nat) v v',ts[i]? =some v->l'[i]? =some v'->TRv (fmU μ H w R) v v'
 | [],ts,R,L,l',h,hL,hS,hl,hv=> by
   simp only [Qfl,YO,YR] at h;obtain ⟨rfl,rfl,rfl⟩:=h;exact ⟨hl,fun i v v' h=> by simp at h⟩
 | v::l,ts,R,L,[],h,hL,hS,hl,hv=> by simp at hl
 | v::l,ts,R,L,v'::l',h,hL,hS,hl,hv=> by
   simp only [Qfl] at h;split at h
   ·rename_i t R1 L1 h1;split at h
    ·rename_i ts2 R2 L2 h2;simp only [YO,YR] at h;obtain ⟨rfl,rfl,rfl⟩:=h;obtain ⟨a,b⟩:=QaI hL;have k1:=hf v v' t R1 L1 h1 a (fun r hr=> hS r (List.mem_append_left _ hr)) (hv 0 v v' rfl rfl);obtain ⟨k2,k3⟩:=QgJ hf l ts2 R2 L2 l' h2 b (fun r hr=> hS r (List.mem_append_right _ hr)) (by simpa using hl) fun i u u' x y=> hv (i+1) u u' (by simpa using x) (by simpa using y)
     refine ⟨by simp [k2],fun i u u' x y=> ?_⟩;cases i with
     | zero=>
       simp only [List.getElem?_cons_zero,YO] at x y;subst x y;exact k1.mono fun b x hx=> QkB (fun i hi=> List.mem_append_left _ hi) hx
     | succ i=>
       exact (k3 i u u' (by simpa using x) (by simpa using y)).mono fun b x hx=> QkB (fun i hi=> List.mem_append_right _ hi) hx
    ·cases h
   ·cases h
theorem QeC (hok:Ok B S μ (Qaw H) w):∀(f:Nat) (v v' t:Value) (R:List Nat) (L:List Prop),Qea H fz f v=some (t,R,L)->Qas L->(∀r∈R,S r)->VR μ v v'->TRv (fmU μ H w R) t v'
 | 0,v,v',t,R,L,h,hL,hS,hv=> Qg1 hok h hL hS hv
 | f+1,v,v',t,R,L,h,hL,hS,hv=> by
   have arr:∀{xs xs':Array Value} {l:List Value} {R:List Nat} {L:List Prop},Qfl (Qea H fz f) xs.toList=some (l,R,L)->Qas L->(∀r∈R,S r)->xs.size=xs'.size->(∀(i:Nat) v v',xs[i]? =some v->xs'[i]? =some v'->VR μ v v')->l.toArray.size=xs'.size/\∀(i:Nat) v v',l.toArray[i]? =some v->xs'[i]? =some v'->TRv (fmU μ H w R) v v':=by
    intro xs xs' l R L h hL hS hs hx;obtain ⟨a,b⟩:=QgJ (fun v v' t R L=> QeC hok f v v' t R L) xs.toList l R L xs'.toList h hL hS (by simpa using hs) fun i v v' x y=> hx i v v' (by simpa using x) (by simpa using y)
    exact ⟨by simpa using a,fun i v v' x y=> b i v v' (by simpa using x) (by simpa using y)⟩
   cases v with
   | agg xs=>
     simp only [Qea] at h;split at h
     ·rename_i l R1 L1 hl;simp only [YO,YR] at h;obtain ⟨rfl,rfl,rfl⟩:=h;cases hv with
      | agg h1 h2=> exact .agg (arr hl hL hS h1 h2).1 (arr hl hL hS h1 h2).2
     ·cases h
   | tuple xs=>
     simp only [Qea] at h;split at h
     ·rename_i l R1 L1 hl;simp only [YO,YR] at h;obtain ⟨rfl,rfl,rfl⟩:=h;cases hv with
      | tuple h1 h2=> exact .tuple (arr hl hL hS h1 h2).1 (arr hl hL hS h1 h2).2
     ·cases h
   | iface ty x=>
     simp only [Qea] at h;split at h
     ·rename_i l R1 L1 hl;simp only [YO,YR] at h;obtain ⟨rfl,rfl,rfl⟩:=h;cases hv with
      | iface hv=> exact .iface (QeC hok f _ _ _ _ _ hl hL hS hv)
     ·cases h
   | func fn xs ys=>
     cases fn with
     | func g=>
       simp only [Qea] at h;split at h
       ·rename_i l R1 L1 hl;split at h
        ·rename_i m R2 L2 hm;simp only [YO,YR] at h;obtain ⟨rfl,rfl,rfl⟩:=h;obtain ⟨a,b⟩:=QaI hL;cases hv with
         | func h1 h2 h3 h4=>
           have k1:=arr hl a (fun r hr=> hS r (List.mem_append_left _ hr)) h1 h3;have k2:=arr hm b (fun r hr=> hS r (List.mem_append_right _ hr)) h2 h4;exact .func k1.1 k2.1 (fun i v v' x y=> (k1.2 i v v' x y).mono fun b x hx=> QkB (fun i hi=> List.mem_append_left _ hi) hx)
            (fun i v v' x y=> (k2.2 i v v' x y).mono fun b x hx=> QkB (fun i hi=> List.mem_append_right _ hi) hx)
        ·cases h
       ·cases h
     | _=> exact Qg1 (fz:=fz) hok (by exact h) hL hS hv
   | _=> exact Qg1 (fz:=fz) hok (by exact h) hL hS hv
end
theorem Post.region {B n:Nat} {S:Nat->Prop} {μ:Mu} {H:Qar} {w w':World} (hok:Ok B S μ (Qaw H) w) (hS:∀i,S i->i < n) (hf:μ n=none) (hbel:Below w.heap.size w w') (fm:Nat->Option Obj) (hfm:∀b x,fm b=some x->w'.heap[b]? =some x)
 (hfr:∀b x,fm b=some x->w.heap.size<=b\/∃k kim ko,S k/\Qaw H k=some ko/\QeK ko/\μ k=some kim/\kim.fm b=some x):Post B S n (n+1) [] μ (upd μ n ⟨0,0,0,false,fm⟩) H ((n,Qbc)::H) w w':=by
 have hp:=Post.ofBelow (n:=n) hok hbel;have hne:∀i,S i->i≠n:=fun i hi=> by have:=hS i hi;omega
 have hmu:∀i,S i->upd μ n ⟨0,0,0,false,fm⟩ i=μ i:=fun i hi=> by simp [upd,hne i hi]
 have hg:∀i,S i->Qaw ((n,Qbc)::H) i=Qaw H i:=fun i hi=> by rw [QaD,if_neg (hne i hi)]
 have hgn:Qaw ((n,Qbc)::H) n=some Qbc:=by rw [QaD,if_pos rfl]
 have isn:∀i,(n<=i/\i < n+1)->i=n:=fun i hi=> by omega
 refine ⟨⟨fun i o hi ho hl=> ?_,fun i o im hi ho hl him=> ?_,fun i j oi oj a b hi hj hij hoi hoj hli hlj ha hb hra hrb=> ?_,fun i o hi ho hr=> ?_,fun i j oi oj a b x hi hj hoi hoj hri hlj ha hb hrb hx=> ?_⟩,by omega,fun i hi=> ?_,fun i hi _=> ?_,hbel.size,fun b hb _=> hbel.block b hb,fun i hi=> by simp at hi,
  fun i im o h1 h2 ho hl him=> ?_,fun i im o hi ho hr him b x hx=> ?_,hbel.os,hbel.tape,hbel.output⟩
 ·rcases hi with hi | hi
  ·rw [hg i hi] at ho;obtain ⟨im,him,hr⟩:=hp.ok.rel i o (.inl hi) ho hl;exact ⟨im,by rw [hmu i hi];exact him,hr.keep (Qfa hf) rfl⟩
  ·rw [isn i hi,hgn] at ho;cases ho;exact hl.elim
 ·rcases hi with hi | hi
  ·rw [hg i hi] at ho;rw [hmu i hi] at him;exact hp.ok.low i o im (.inl hi) ho hl him
  ·rw [isn i hi,hgn] at ho;cases ho;exact hl.elim
 ·rcases hi with hi | hi
  ·rcases hj with hj | hj
   ·rw [hg i hi] at hoi;rw [hg j hj] at hoj;rw [hmu i hi] at ha;rw [hmu j hj] at hb;exact hok.inj i j oi oj a b hi hj hij hoi hoj hli hlj ha hb hra hrb
   ·rw [isn j hj,hgn] at hoj;cases hoj;exact hlj.elim
  ·rw [isn i hi,hgn] at hoi;cases hoi;exact hli.elim
 ·rcases hi with hi | hi
  ·rw [hg i hi] at ho;obtain ⟨im,him,h⟩:=hp.ok.reg i o (.inl hi) ho hr;exact ⟨im,by rw [hmu i hi];exact him,h⟩
  ·rw [isn i hi];exact ⟨_,QaP,hfm⟩
 ·have hjS:S j:=hj.elim id fun h=> by rw [isn j h,hgn] at hoj;cases hoj;exact hlj.elim
  rw [hg j hjS] at hoj;rw [hmu j hjS] at hb;rcases hi with hi | hi
  ·rw [hg i hi] at hoi;rw [hmu i hi] at ha;exact hok.sep i j oi oj a b x hi hjS hoi hoj hri hlj ha hb hrb hx
  ·rw [isn i hi,QaP] at ha;cases ha;rcases hfr _ _ hx with h | ⟨k,kim,ko,h1,h2,h3,h4,h5⟩
   ·have:=(hok.low j oj b hjS hoj hlj hb).1;omega
   ·exact hok.sep k j ko oj kim b x h1 hjS h2 hoj h3 hlj h4 hb hrb h5
 ·simp only [upd];rw [if_neg (by omega)]
 ·rw [QaD,if_neg (by omega)]
 ·rw [isn i ⟨h1,h2⟩,hgn] at ho;cases ho;exact hl.elim
 ·have hin:=isn i (hi.elim id fun h=> by simp at h);subst hin;rw [QaP] at him;cases him;rcases hfr b x hx with h | ⟨k,kim,ko,h1,h2⟩
  ·exact .inl h
  ·exact .inr (.inl ⟨k,kim,ko,h1,hS k h1,h2⟩)
end Go.CE

namespace Go.CE
open Go Go.RowKit

inductive Qaf where
 | old (h:Hint)
 | tidx (k:Nat) (es:Array Value)
 | tslc (k m':Nat) (cs':Array Value)
 | tapp (cs':Array Value)
 | tapp0
 | pure (out:Value) (fz:List Fz)
 | pureK (out:Value) (fz:List Fz)
 | bin (v:Value)
 | call (keys:List Nat) (out:OO) (ups:Qar) (n':Nat) (W:List Nat)
 | eval (s:Rs)
def killL (H:Qar):List Nat->Qar
 | []=> H
 | k::K=> QlO (killL H K) (some k)
def Qmo:Option Obj->Bool
 | some (.cells _ _ (0,0))=> true
 | _=> false
def Q0z (P:Program) (T:Tm) (o:Oper):Option (Value×Nat):=match o.op with
 | .call c=> match c.callee with
   | .builtin .len=> match c.args.toList,c.argTypes.toList with
     | [x],[t]=> match evC T x with
       | some v=> match QwJ v,und P t with
         | some (r,k,_),some (.slice _)=> some (.int .i64 k,r)
         | _,_=> none
       | none=> none
     | _,_=> none
   | _=> none
 | .fieldAddr s x f=> match evC T x with
   | some v=> match Q2x v with
     | some (r,off,cs)=> match QbY P s f (.pointer (some ⟨0,off,none⟩)) with
       | some (.pointer (some ⟨0,off',none⟩))=> some (Qat r (ptT off' cs),r)
       | _=> none
     | none=> none
   | none=> none
 | .load t x=> match evC T x with
   | some v=> match Q2x v with
     | some (r,off,cs)=> match Qga P t cs off with
       | some v=> bif okT 4 v then some (Qal r 4 v,r) else none
       | none=> none
     | none=> none
   | none=> none
 | _=> none
def Qg8:Value->Bool
 | .slice none 0 0 | .chan (some 0)=> true
 | _=> false
def Qj2 (P:Program) (T:Tm) (o:Oper):Option (Value×Nat×Nat×Array Value×TypeId×Nat×Nat×Value):=match o.op with
 | .call c=> match c.callee with
   | .builtin .append=> match c.args.toList,c.argTypes.toList with
     | [s,x],[t,t']=> match evC T s,evC T x with
       | some sv,some xv=> match QwJ xv,und P t with
         | some (r,k,cs),some (.slice e)=> match inf P e with
           | some i=> match i.zero,i.size with
             | some zv,z+1=> bif Nat.beq t t' && Qg8 sv && Nat.beq zv.cells.size (z+1) then some (sv,r,k,cs,e,z+1,i.bytes,zv) else none
             | _,_=> none
           | none=> none
         | _,_=> none
       | _,_=> none
     | _,_=> none
   | _=> none
 | _=> none
def Qi6 (P:Program) (op:BinOp) (t:TypeId) (a b v:Value):Prop:=∀(x y:Operand) (w:World),(do eqGuard op t x y a b;binOp op t a b:Sem Value).run P w=.ok v w
def opT (P:Program) (F:FuncId->Bool) (J:World->Prop) (B:Lo) (T:Tm) (o:Oper) (H:Qar) (n:Nat):Option Qaf->Option Told
 | none=> match Q0z P T o with
   | some (v,r)=> bif Nat.blt r n && Qbf (Qaw H r) then some ⟨⟨.ret v,H,n,[r],[]⟩,none⟩ else none
   | none=> opH P F B T o H n none
 | some (.old h)=> opH P F B T o H n (some h)
 | some (.tidx k es)=> match o.op with
   | .indexAddr t x i=> match evC T x,evC T i with
     | some v,some (.int _ q)=> match QwJ v,und P t with
       | some (r,m,cs),some (.slice e)=> match Qfv P e with
         | some z=> bif Nat.blt r n && Qbf (Qaw H r) then some ⟨⟨.ret (Qat r (ptT 0 es)),H,n,[r],[]⟩,some (q=(k:Int)/\k < m/\cs.extract (k * z) (k * z+z)=es)⟩ else none
         | none=> none
       | _,_=> none
     | _,_=> none
   | _=> none
 | some (.tslc k m' cs')=> match o.op with
   | .slice t x (some lo) none none=> match evC T x,evC T lo with
     | some v,some (.int _ q)=> match QwJ v,und P t with
       | some (r,m,cs),some (.slice e)=> match Qfv P e with
         | some z=> bif Nat.blt r n && Qbf (Qaw H r) then some ⟨⟨.ret (Qat r (slT m' cs')),H,n,[r],[]⟩,some (q=(k:Int)/\k < m/\m'=m - k/\cs.extract (k * z) cs.size=cs')⟩ else none
         | none=> none
       | _,_=> none
     | _,_=> none
   | _=> none
 | some (.tapp cs')=> match Qj2 P T o with
   | some (_,r,k,cs,e,z,by',_)=> bif Nat.blt r n && Qbf (Qaw H r) then
    some ⟨⟨.ret (.slice (some ⟨n,0,none⟩) k z),(n,.cells cs' e (0,0))::H,n+1,[r],[]⟩,some (0 < k/\k<=maxLen/\k * by'<=140737488355328/\cs.size=k * z/\cs.map (Qf5 r)=cs'/\(cs.all fun v=> simple v || Qf2 v)=true/\ones cs'=true)⟩ else none
   | none=> none
 | some .tapp0=> match Qj2 P T o with
   | some (sv,r,k,_,_,_,_,_)=> bif Nat.blt r n && Qbf (Qaw H r) then some ⟨⟨.ret sv,H,n,[r],[]⟩,some (k=0)⟩ else none
   | none=> none
 | some (.eval s)=> some ⟨s,some (opS P F Qb3 (fun _ _ _=> none) T o H n=some s)⟩
 | some (.bin v)=> match o.op with
   | .binOp op t x y _=> match evC T x,evC T y with
     | some a,some b=> bif af a && af b && af v then some ⟨⟨.ret v,H,n,[],[]⟩,some (Qi6 P op t a b v)⟩ else none
     | _,_=> none
   | _=> none
 | some (.call keys out ups n' W)=> match o.op with
   | .call _=> match Qng P F (evC T) o H n with
     | some ⟨.enter g args,H1,n1,R,W1⟩=> bif Nat.beq n1 n && W1.isEmpty then
      match Qc7 P g args with
      | some c1=> some ⟨⟨out,ups++H1,n',R++keys,W⟩,some (FJ P B c1 H1 n out (ups++H1) n' keys W)⟩
      | none=> none
       else none
     | some ⟨.round l fn tm a b,H1,n1,R,W1⟩=> bif Nat.beq n1 n && W1.isEmpty && Nat.ble tm.size 16000 then some ⟨⟨out,ups++H1,n',R++keys,W⟩,some (FJ P B ⟨fn,ofList tm.size tm.toList,[.code a,.beginRound,.code b],[],.run,some l⟩ H1 n out (ups++H1) n' keys W)⟩ else none
     | _=> none
   | _=> none
 | some (.pure out fz)=> match o.op with
   | .call _=> match Qng P F (evC T) o H n with
     | some ⟨.enter g args,H1,n1,R,W1⟩=> bif Nat.beq n1 n && W1.isEmpty then
      match Qfl (Qea H1 fz 3) args.toList with
      | some (ts,R2,L)=> bif R2.all fun i=> Nat.blt i n then
       bif Qkt 2 out then some ⟨⟨.ret out,H1,n,R++R2,[]⟩,some (Qas L/\Qai P J g ts.toArray out)⟩
       else bif (R2.all fun i=> Qbf (Qaw H1 i)) && okT 4 out then some ⟨⟨.ret (Qal n 4 out),(n,Qbc)::H1,n+1,R++R2,[]⟩,some (Qas L/\Qai P J g ts.toArray out)⟩ else none
        else none
      | none=> none
       else none
     | _=> none
   | _=> none
 | some (.pureK out fz)=> match o.op with
   | .call _=> match Qng P F (evC T) o H n with
     | some ⟨.enter g args,H1,n1,R,W1⟩=> bif Nat.beq n1 n && W1.isEmpty then
      match Qfl (Qea H1 fz 3) args.toList with
      | some (ts,R2,L)=> bif (R2.all fun i=> Nat.blt i n) && (R2.all fun i=> Qbf (Qaw H1 i) || Qmo (Qaw H1 i)) && okT 4 out then
       some ⟨⟨.ret (Qal n 4 out),(n,Qbc)::killL H1 (R2.filter fun i=> Qmo (Qaw H1 i)),n+1,R++R2,R2.filter fun i=> Qmo (Qaw H1 i)⟩,some (Qas L/\Qai P J g ts.toArray out)⟩ else none
      | none=> none
       else none
     | _=> none
   | _=> none
section
variable {P:Program} {F:FuncId->Bool} {J:World->Prop} {B:Lo} {T:Tm} {o:Oper} {H:Qar} {n:Nat}
theorem Qhz (hF:∀g,F g=true->Qau P g=true) {c:Call} (hop:o.op=.call c) (hu:Under H n) {g:FuncId} {args:Array Value} {H1 H2:Qar} {R keys W:List Nat} {n':Nat} {out:OO} (hcr:Qng P F (evC T) o H n=some ⟨.enter g args,H1,n,R,[]⟩) (hcj:Qx2 P B g args H1 n out H2 n' keys W):
 Qs4 P B o (evC T) H n out H2 n' (R++keys) W/\Shape H n H2 n' (R++keys) W:=by
 have horc:Qiq P B (fun g' a' H' m'=> open Classical in if g'=g/\a'=args/\H'=H1/\m'=n then some ⟨out,H2,n',keys,W⟩ else none):=by
  intro g' a' H' m' s _ h;simp only at h;split at h
  ·rename_i q;obtain ⟨rfl,rfl,rfl,rfl⟩:=q;simp only [YO] at h;subst h;exact hcj
  ·cases h
 have:=Qff hF QfB horc hu (T:=T) (o:=o) (s:=⟨out,H2,n',R++keys,W⟩) (by simp [opS,hop,hcr]);exact this
theorem FJ.callJ {g:FuncId} {args:Array Value} {c0:CF} {H':Qar} {n':Nat} {R W:List Nat} {out:OO} (hc:Qc7 P g args=some c0) (h:FJ P B c0 H n out H' n' R W):Qx2 P B g args H n out H' n' R W:=
 ⟨h.shape,fun S μ w args' cs hok hB hS hf ha hR=> h.sem S μ w (Frame.enter P g args' .normal) cs hok hB hS hf (Qen hc ha) hR⟩
theorem FJ.recS {c:CF} {H1:Qar} {n n':Nat} {out:OO} {ups:Qar} {W keys:List Nat} (h:FJ P B c H1 n out (ups++H1) n' keys W):QwH P B (Qi1 c H1 n ⟨out,ups++H1,n',keys,W⟩):=by
 intro c' H' m' s _ hs;unfold Qi1 at hs;split at hs
 ·rename_i q;obtain ⟨rfl,rfl,rfl⟩:=q;simp only [YO] at hs;subst hs;exact h
 ·cases hs
theorem Qj7 (hJ:∀w,B.has w->J w) {g:FuncId} {args:Array Value} {fz:List Fz} {H1:Qar} {ts:List Value} {R2:List Nat} {L:List Prop} {out:Value} (hst:Qfl (Qea H1 fz 3) args.toList=some (ts,R2,L)) (hL:Qas L) (hp:Qai P J g ts.toArray out)
 {S:Nat->Prop} {μ:Mu} {w:World} {args':Array Value} (hok:Ok B.B S μ (Qaw H1) w) (hB:B.has w) (hv:VRs μ args args') (hS:∀r∈R2,S r):Calls P g args' w fun e w'=> ∃v',e=.returned v'/\Below w.heap.size w w'/\TRv (Qny (fmU μ H1 w R2) w w') out v':=by
 obtain ⟨a,b⟩:=QgJ (fun v v' t R L h1 h2 h3 h4=> QeC hok 3 v v' t R L h1 h2 h3 h4) args.toList ts R2 L args'.toList hst hL hS (by simpa using hv.1) fun i v v' x y=> hv.2 i v v' (by simpa using x) (by simpa using y)
 exact hp (fmU μ H1 w R2) w args' (hJ w hB) (fun b x h=> Qdm h) ⟨by simpa using a,fun i v v' x y=> b i v v' (by simpa using x) (by simpa using y)⟩
theorem Qv4 (hJ:∀w,B.has w->J w) {g:FuncId} {args:Array Value} {fz:List Fz} {H1:Qar} {ts:List Value} {R2:List Nat} {L:List Prop} {out:Value} (hst:Qfl (Qea H1 fz 3) args.toList=some (ts,R2,L)) (hL:Qas L) (hp:Qai P J g ts.toArray out) (hpl:Qkt 2 out=true) (hlt:(R2.all fun i=> Nat.blt i n)=true):
 Qx2 P B g args H1 n (.ret out) H1 n R2 []:=by
 refine ⟨Shape.same _ _ _,fun S μ w args' cs hok hB hS _ ha hR=> ?_⟩;obtain ⟨e,w1,fr,⟨v',rfl,hb,ht⟩,hc,hf,hl⟩:=Qj7 hJ hst hL hp hok hB ha (fun r hr=> hR r hr (YL (List.all_eq_true.1 hlt r hr))) cs;refine ⟨.ret v',w1,μ,Post.ofBelow hok hb,.ret (QlV 2 out v' hpl ht),fun _=> ⟨fr,hc,by rw [hf];rfl,hl⟩,fun c cs' e=> ?_⟩;subst e;exact Steps.trans hc (.one (step_leave_returned hl))
theorem QtB (hJ:∀w,B.has w->J w) {g:FuncId} {args:Array Value} {fz:List Fz} {H1:Qar} {ts:List Value} {R2:List Nat} {L:List Prop} {out:Value} (hst:Qfl (Qea H1 fz 3) args.toList=some (ts,R2,L)) (hL:Qas L) (hp:Qai P J g ts.toArray out) (hlt:(R2.all fun i=> Nat.blt i n)=true)
 (hreg:(R2.all fun i=> Qbf (Qaw H1 i))=true) (ho:okT 4 out=true):Qx2 P B g args H1 n (.ret (Qal n 4 out)) ((n,Qbc)::H1) (n+1) R2 []:=by
 refine ⟨Shape.new _ _ _ _,fun S μ w args' cs hok hB hS hf ha hR=> ?_⟩;have hSR:∀r∈R2,S r:=fun r hr=> hR r hr (YL (List.all_eq_true.1 hlt r hr))
 obtain ⟨e,w1,fr,⟨v',rfl,hb,ht⟩,hc,hfn,hl⟩:=Qj7 hJ hst hL hp hok hB ha hSR cs;have hfm:∀b x,Qny (fmU μ H1 w R2) w w1 b=some x->w1.heap[b]? =some x:=by
  intro b x h;unfold Qny at h;split at h
  ·rename_i hlt;rw [hb.block b hlt];exact Qdm h
  ·exact h
 have hpost:=Post.region (n:=n) hok hS (hf n (Nat.le_refl _) (by omega)) hb (Qny (fmU μ H1 w R2) w w1) hfm fun b x h=> by
  unfold Qny at h;split at h
  ·refine .inr ?_;have hw:=Qdm h;unfold fmU at h;split at h
   ·rename_i hc;obtain ⟨i,hi,o,im,ho,him,hcase⟩:=hc;obtain ⟨o',ho',hr'⟩:=Qd3 (List.all_eq_true.1 hreg i hi);rw [ho] at ho';cases ho';rcases hcase with ⟨_,hne⟩ | ⟨hl,_⟩
    ·cases hx:im.fm b with
     | none=> exact absurd hx hne
     | some y=>
       obtain ⟨im',him',hf'⟩:=hok.reg i o (hSR i hi) ho hr';rw [him] at him';cases him';have:=hf' b y hx;rw [hw] at this;cases this;exact ⟨i,im,o,hSR i hi,ho,hr',him,hx⟩
    ·exact absurd hl (by cases o <;> first | exact id | exact hr'.elim)
   ·cases h
  ·rename_i hge;exact .inl (Nat.le_of_not_lt hge)
 refine ⟨.ret v',w1,_,hpost,.ret (Qhl QaP 4 out v' ho ht),fun _=> ⟨fr,hc,by rw [hfn];rfl,hl⟩,fun c cs' e=> ?_⟩;subst e;exact Steps.trans hc (.one (step_leave_returned hl))
theorem QeW (H:Qar) (K:List Nat) (i:Nat):Qaw (killL H K) i=if i∈K/\(Qaw H i).isSome then some (.pending #[] 0) else Qaw H i:=by
 induction K with
 | nil=> simp [killL]
 | cons k K ih=>
   simp only [killL];rw [Qd4,ih];by_cases e:i=k
   ·subst e;cases hs:Qaw H i with
    | none=> simp
    | some o=> by_cases hm:i∈K <;> simp [hm]
   ·simp [e]
theorem Post.regionK {B n:Nat} {S:Nat->Prop} {μ:Mu} {H:Qar} {w w':World} (K:List Nat) (hok:Ok B S μ (Qaw H) w) (hS:∀i,S i->i < n) (hf:μ n=none) (hbel:Below w.heap.size w w') (hK:∀k∈K,S k/\(∃o,Qaw H k=some o/\live o)/\∃im,μ k=some im/\im.rw=true)
 (fm:Nat->Option Obj) (hfm:∀b x,fm b=some x->w'.heap[b]? =some x)
 (hfr:∀b x,fm b=some x->w.heap.size<=b\/(∃k kim ko,S k/\Qaw H k=some ko/\QeK ko/\μ k=some kim/\kim.fm b=some x)\/∃k∈K,∃im,μ k=some im/\im.blk=b):Post B S n (n+1) K μ (upd μ n ⟨0,0,0,false,fm⟩) H ((n,Qbc)::killL H K) w w':=by
 have hp:=Post.ofBelow (n:=n) hok hbel;have hne:∀i,S i->i≠n:=fun i hi=> by have:=hS i hi;omega
 have hmu:∀i,S i->upd μ n ⟨0,0,0,false,fm⟩ i=μ i:=fun i hi=> by simp [upd,hne i hi]
 have hg0:∀i,S i->Qaw ((n,Qbc)::killL H K) i=Qaw (killL H K) i:=fun i hi=> by rw [QaD,if_neg (hne i hi)]
 have hgl:∀i o,S i->Qaw ((n,Qbc)::killL H K) i=some o->live o\/QeK o->Qaw H i=some o/\(live o->i ∉ K):=fun i o hi ho hl=> by
  rw [hg0 i hi,QeW] at ho;split at ho
  ·cases ho;exact (hl.elim id id).elim
  ·rename_i hn;exact ⟨ho,fun _ hm=> hn ⟨hm,by rw [ho];rfl⟩⟩
 have hgn:Qaw ((n,Qbc)::killL H K) n=some Qbc:=by rw [QaD,if_pos rfl]
 have isn:∀i,(n<=i/\i < n+1)->i=n:=fun i hi=> by omega
 refine ⟨⟨fun i o hi ho hl=> ?_,fun i o im hi ho hl him=> ?_,fun i j oi oj a b hi hj hij hoi hoj hli hlj ha hb hra hrb=> ?_,fun i o hi ho hr=> ?_,fun i j oi oj a b x hi hj hoi hoj hri hlj ha hb hrb hx=> ?_⟩,by omega,fun i hi=> ?_,fun i hi hw=> ?_,hbel.size,fun b hb _=> hbel.block b hb,fun i hi _=> hK i hi,
  fun i im o h1 h2 ho hl him=> ?_,fun i im o hi ho hr him b x hx=> ?_,hbel.os,hbel.tape,hbel.output⟩
 ·rcases hi with hi | hi
  ·have ho:=(hgl i o hi ho (.inl hl)).1;obtain ⟨im,him,hr⟩:=hp.ok.rel i o (.inl hi) ho hl;exact ⟨im,by rw [hmu i hi];exact him,hr.keep (Qfa hf) rfl⟩
  ·rw [isn i hi,hgn] at ho;cases ho;exact hl.elim
 ·rcases hi with hi | hi
  ·have ho:=(hgl i o hi ho (.inl hl)).1;rw [hmu i hi] at him;exact hp.ok.low i o im (.inl hi) ho hl him
  ·rw [isn i hi,hgn] at ho;cases ho;exact hl.elim
 ·rcases hi with hi | hi
  ·rcases hj with hj | hj
   ·have hoi:=(hgl i oi hi hoi (.inl hli)).1;have hoj:=(hgl j oj hj hoj (.inl hlj)).1;rw [hmu i hi] at ha;rw [hmu j hj] at hb;exact hok.inj i j oi oj a b hi hj hij hoi hoj hli hlj ha hb hra hrb
   ·rw [isn j hj,hgn] at hoj;cases hoj;exact hlj.elim
  ·rw [isn i hi,hgn] at hoi;cases hoi;exact hli.elim
 ·rcases hi with hi | hi
  ·have ho:=(hgl i o hi ho (.inr hr)).1;obtain ⟨im,him,h⟩:=hp.ok.reg i o (.inl hi) ho hr;exact ⟨im,by rw [hmu i hi];exact him,h⟩
  ·rw [isn i hi];exact ⟨_,QaP,hfm⟩
 ·have hjS:S j:=hj.elim id fun h=> by rw [isn j h,hgn] at hoj;cases hoj;exact hlj.elim
  obtain ⟨hoj,hjK⟩:=hgl j oj hjS hoj (.inl hlj);rw [hmu j hjS] at hb;rcases hi with hi | hi
  ·have hoi:=(hgl i oi hi hoi (.inr hri)).1;rw [hmu i hi] at ha;exact hok.sep i j oi oj a b x hi hjS hoi hoj hri hlj ha hb hrb hx
  ·rw [isn i hi,QaP] at ha;cases ha;rcases hfr _ _ hx with h | ⟨k,kim,ko,h1,h2,h3,h4,h5⟩ | ⟨k,hk,kim,h1,h2⟩
   ·have:=(hok.low j oj b hjS hoj hlj hb).1;omega
   ·exact hok.sep k j ko oj kim b x h1 hjS h2 hoj h3 hlj h4 hb hrb h5
   ·obtain ⟨k1,⟨ko,k2,k3⟩,kim',k4,k5⟩:=hK k hk;rw [h1] at k4;cases k4;have hkj:k≠j:=fun e=> hjK hlj (e ▸ hk)
    exact hok.inj k j ko oj kim b k1 hjS hkj k2 hoj k3 hlj h1 hb k5 hrb h2
 ·simp only [upd];rw [if_neg (by omega)]
 ·rw [QaD,if_neg (by omega),QeW,if_neg (fun h=> hw h.1)]
 ·rw [isn i ⟨h1,h2⟩,hgn] at ho;cases ho;exact hl.elim
 ·rcases hi with hi | hi
  ·have hin:=isn i hi;subst hin;rw [QaP] at him;cases him;rcases hfr b x hx with h | ⟨k,kim,ko,h1,h2⟩ | ⟨k,hk,kim,h1,h2⟩
   ·exact .inl h
   ·exact .inr (.inl ⟨k,kim,ko,h1,hS k h1,h2⟩)
   ·refine .inr (.inr ⟨k,hk,hS k (hK k hk).1,⟨kim,h1,h2⟩,fun o' ho'=> ?_⟩);have hks:=(hK k hk).1;obtain ⟨ko,k2,_⟩:=(hK k hk).2.1;rw [hg0 k hks,QeW,if_pos ⟨hk,by rw [k2];rfl⟩] at ho';cases ho';exact id
  ·obtain ⟨hiK,hin⟩:=hi;have hks:=(hK i hiK).1;obtain ⟨ko,k2,_⟩:=(hK i hiK).2.1;rw [hg0 i hks,QeW,if_pos ⟨hiK,by rw [k2];rfl⟩] at ho;cases ho;exact hr.elim
theorem Shape.killL {H:Qar} {n:Nat} {K R:List Nat} (o:Obj) (hK:∀k∈K,k < n) (hs:∀k∈K,k∈R):Shape H n ((n,o)::killL H K) (n+1) R K:=by
 refine ⟨by omega,fun i hi hw=> ?_,fun i hi=> ?_,hs,fun i hi=> by have:=hK i hi;omega⟩
 ·rw [QaD,if_neg (by omega),QeW,if_neg (fun h=> hw h.1)]
 ·rw [QaD,if_neg (by omega),QeW,if_neg (fun h=> by have:=hK i h.1;omega)]
theorem QwG {o:Option Obj} (h:Qmo o=true):∃cs t,o=some (.cells cs t (0,0)):=by
 unfold Qmo at h;split at h
 ·exact ⟨_,_,rfl⟩
 ·cases h
theorem Qsf (hJ:∀w,B.has w->J w) {g:FuncId} {args:Array Value} {fz:List Fz} {H1:Qar} {ts:List Value} {R2:List Nat} {L:List Prop} {out:Value} (hst:Qfl (Qea H1 fz 3) args.toList=some (ts,R2,L)) (hL:Qas L) (hp:Qai P J g ts.toArray out) (hlt:(R2.all fun i=> Nat.blt i n)=true)
 (hreg:(R2.all fun i=> Qbf (Qaw H1 i) || Qmo (Qaw H1 i))=true) (ho:okT 4 out=true):Qx2 P B g args H1 n (.ret (Qal n 4 out)) ((n,Qbc)::killL H1 (R2.filter fun i=> Qmo (Qaw H1 i))) (n+1) R2 (R2.filter fun i=> Qmo (Qaw H1 i)):=by
 have hltn:∀r∈R2,r < n:=fun r hr=> YL (List.all_eq_true.1 hlt r hr)
 refine ⟨Shape.killL _ (fun k hk=> hltn k ((List.mem_filter.1 hk).1)) (fun k hk=> (List.mem_filter.1 hk).1),fun S μ w args' cs hok hB hS hf ha hR=> ?_⟩;have hSR:∀r∈R2,S r:=fun r hr=> hR r hr (hltn r hr)
 obtain ⟨e,w1,fr,⟨v',rfl,hb,ht⟩,hc,hfn,hl⟩:=Qj7 hJ hst hL hp hok hB ha hSR cs;have hfm:∀b x,Qny (fmU μ H1 w R2) w w1 b=some x->w1.heap[b]? =some x:=by
  intro b x h;unfold Qny at h;split at h
  ·rename_i hlt;rw [hb.block b hlt];exact Qdm h
  ·exact h
 have hK:∀k∈R2.filter fun i=> Qmo (Qaw H1 i),S k/\(∃o,Qaw H1 k=some o/\live o)/\∃im,μ k=some im/\im.rw=true:=fun k hk=> by
  obtain ⟨h1,h2⟩:=List.mem_filter.1 hk;obtain ⟨cs0,t0,h3⟩:=QwG h2;obtain ⟨im,him,hor⟩:=hok.rel k _ (hSR k h1) h3 trivial;refine ⟨hSR k h1,⟨_,h3,trivial⟩,im,him, ?_⟩;rcases hor with ⟨_,h,_⟩ | ⟨h,_⟩
  ·exact h
  ·exact absurd rfl h
 have hpost:=Post.regionK (n:=n) (R2.filter fun i=> Qmo (Qaw H1 i)) hok hS (hf n (Nat.le_refl _) (by omega)) hb hK (Qny (fmU μ H1 w R2) w w1) hfm fun b x h=> by
  unfold Qny at h;split at h
  ·refine .inr ?_;have hw:=Qdm h;unfold fmU at h;split at h
   ·rename_i hc;obtain ⟨i,hi,o,im,ho,him,hcase⟩:=hc;have hor:=List.all_eq_true.1 hreg i hi;rw [Bool.or_eq_true] at hor;rcases hcase with ⟨hr',hne⟩ | ⟨hl,hblk⟩
    ·left;cases hx:im.fm b with
     | none=> exact absurd hx hne
     | some y=>
       obtain ⟨im',him',hf'⟩:=hok.reg i o (hSR i hi) ho hr';rw [him] at him';cases him';have:=hf' b y hx;rw [hw] at this;cases this;exact ⟨i,im,o,hSR i hi,ho,hr',him,hx⟩
    ·right;rcases hor with hor | hor
     ·obtain ⟨o',ho',hr'⟩:=Qd3 hor;rw [ho] at ho';cases ho';exact absurd hl (by cases o <;> first | exact id | exact hr'.elim)
     ·exact ⟨i,List.mem_filter.2 ⟨hi,hor⟩,im,him,hblk⟩
   ·cases h
  ·rename_i hge;exact .inl (Nat.le_of_not_lt hge)
 refine ⟨.ret v',w1,_,hpost,.ret (Qhl QaP 4 out v' ho ht),fun _=> ⟨fr,hc,by rw [hfn];rfl,hl⟩,fun c cs' e=> ?_⟩;subst e;exact Steps.trans hc (.one (step_leave_returned hl))
theorem QfQ {r:Nat} {v:Value} (hlt:r < n) (hreg:Qbf (Qaw H r)=true) (hd:∀c,o.op≠.defer c)
 (h:∀(μ:Mu) (w:World) (ρ:Operand->Value) (im:Img),μ r=some im->(∀b x,im.fm b=some x->w.heap[b]? =some x)->(∀x∈o.op.operands,∀v,evC T x=some v->VR μ v (ρ x))->∃v',(execOp ρ o).run P w=.ok (.value v') w/\VR μ v v'):
 Qs4 P B o (evC T) H n (.ret v) H n [r] []:=fun S μ w fr _ _ _ _ _ hok hB _ _ hev hR hm ht ho hw=> by
 obtain ⟨x,hx,hr⟩:=Qd3 hreg;obtain ⟨im,him,hf⟩:=hok.reg r x (hR r (by simp) hlt) hx hr;obtain ⟨v',h1,h2⟩:=h μ w fr.eval im him hf hev;exact ⟨.ret v',w,μ,Post.refl hok,.ret h2,Qhq hm ht ho hw hd h1⟩
theorem Qwh {fm:Nat->Option Obj} {w:World} (hw:∀b x,fm b=some x->w.heap[b]? =some x) {off:Nat} {cs:Array Value} {u v:Value} {t:TypeId} (hu:TRv fm (ptT off cs) u) (h:Qga P t cs off=some v):∃v',(Instr.loadAt t u).run P w=.ok v' w/\TRv fm v v':=by
 obtain ⟨b,o,arr,ty,fl,rfl,h1,h2,h3⟩:=hu.ptr_inv;have hb:=hw _ _ h1;have hcell:∀i,i < cs.size->∃v',w.cell? ⟨b,o+i,none⟩=some v'/\∀v,cs[i]? =some v->TRv fm v v':=by
  intro i hi;have hlt:=h2 i hi;exact ⟨arr[o+i],by simp [World.cell?,hb,hlt],fun v hv=> h3 i v _ hv (by simp [hlt])⟩
 unfold Qga at h;cases hag:Qy8 P t with
 | none=> rw [hag] at h;cases h
 | some g=>
   rw [hag] at h;cases g with
   | true=>
     cases hz:Qfv P t with
     | none=> rw [hz] at h;cases h
     | some z=>
       rw [hz] at h;dsimp only at h;cases hb2:Nat.ble (off+z) cs.size with
       | false=> rw [hb2] at h;cases h
       | true=>
         rw [hb2] at h;simp only [cond_true,YO] at h;subst h;have hle:=YL hb2;have hr:=run_loadCells (P:=P) w ⟨b,o+off,none⟩ z (fun j=> (w.cell? ⟨b,o+(off+j),none⟩).getD undef) (fun j hj=> by
          obtain ⟨v',hv',_⟩:=hcell (off+j) (by omega);rw [QcO,show o+off+j=o+(off+j) by omega,hv'];rfl)
         refine ⟨.agg _,by simp [Instr.loadAt,Instr.sureAddr,loadVar,Qey hag,QbE hz,hr];rfl,.agg (by simp;omega) fun i v v' hv hv'=> ?_⟩;have hi:i < z:=by
          have:=(Array.getElem?_eq_some_iff.1 hv).1;simp at this;omega
         obtain ⟨u,h4,h5⟩:=hcell (off+i) (by omega);simp [hi,h4] at hv';subst hv';refine h5 v ?_;rw [Array.getElem?_extract] at hv;split at hv
         ·exact hv
         ·cases hv
   | false=>
     simp only at h;have hi:=(Array.getElem?_eq_some_iff.1 h).1;obtain ⟨v',hv',ht⟩:=hcell off hi;exact ⟨v',by simp [Instr.loadAt,Instr.sureAddr,loadVar,Qey hag,run_load,hv'],ht v h⟩
theorem Qsh {v:Value} {r:Nat} (e:Q0z P T o=some (v,r)) (hlt:r < n) (hreg:Qbf (Qaw H r)=true):Qs4 P B o (evC T) H n (.ret v) H n [r] []:=by
 unfold Q0z at e;split at e
 ·rename_i c hop;split at e
  ·rename_i hc;split at e
   ·rename_i x t ha ht;split at e
    ·rename_i u hx;split at e
     ·rename_i r0 k cs el htop hue;rw [Qcl] at hue;simp only [YO,YR] at e;obtain ⟨rfl,rfl⟩:=e;refine QfQ hlt hreg (fun c h=> by rw [hop] at h;cases h) fun μ w ρ im him hf hev=> ?_
      have ea:c.args=#[x]:=by rw [<-ha]
      have et:c.argTypes=#[t]:=by rw [<-ht]
      have hv:=hev x (by simp [hop,Op.operands,Call.operands,hc,ea]) _ hx;rw [Qk6 htop] at hv;obtain ⟨im',_,htr⟩:=hv.top_inv;have hlen:∃a c,ρ x=.slice a k c:=by
       rcases htr.slice_inv with ⟨b,o',c',arr,t',fl,h1,_⟩ | ⟨rfl,_,a',c',h1,_⟩
       ·exact ⟨_,_,h1⟩
       ·exact ⟨_,_,h1⟩
      obtain ⟨a,cp,hv⟩:=hlen;refine ⟨.int .i64 k, ?_,.int _ _⟩;simp [execOp,hop,resolve,hc,invoke,builtin,ea,et,hv,Builtin.len_,run_underlying hue,goInt]
     ·cases e
    ·cases e
   ·cases e
  ·cases e
 ·rename_i s x f hop;split at e
  ·rename_i u hx;split at e
   ·rename_i r0 off cs htop;split at e
    ·rename_i off' hc;simp only [YO,YR] at e;obtain ⟨rfl,rfl⟩:=e;refine QfQ hlt hreg (fun c h=> by rw [hop] at h;cases h) fun μ w ρ im him hf hev=> ?_
     have hv:=hev x (by simp [hop,Op.operands]) _ hx;rw [QuI htop] at hv;obtain ⟨im',him',htr⟩:=hv.top_inv;rw [him] at him';cases him';obtain ⟨b,o',arr,ty,fl,h1,h2,h3,h4⟩:=htr.ptr_inv;have hc2:∃d,off'=off+d/\QbY P s f (.pointer (some ⟨b,o'+off,none⟩))=some (.pointer (some ⟨b,o'+off+d,none⟩)):=by
      unfold QbY at hc ⊢;simp only at hc ⊢;split at hc
      ·split at hc
       ·split at hc
        ·simp only [YO,Value.pointer.injEq,Addr.mk.injEq,true_and,and_true] at hc;rename_i fd hfd _ _ hz;refine ⟨fd.offset,hc.symm, ?_⟩;simp_all
        ·cases hc
       ·cases hc
      ·cases hc
     obtain ⟨d,rfl,hc2⟩:=hc2;obtain ⟨_,hr⟩:=Qh5 (P:=P) hc2 w;refine ⟨.pointer (some ⟨b,o'+off+d,none⟩),by simp [execOp,hop,h1,hr],.top rfl him ?_⟩;rw [Nat.add_assoc];exact .ptr h2 h3 h4
    ·cases e
   ·cases e
  ·cases e
 ·rename_i t x hop;split at e
  ·rename_i u hx;split at e
   ·rename_i r0 off cs htop;split at e
    ·rename_i v0 hc;cases hok:okT 4 v0 with
     | false=> rw [hok] at e;cases e
     | true=>
       rw [hok] at e;simp only [cond_true,YO,YR] at e;obtain ⟨rfl,rfl⟩:=e;refine QfQ hlt hreg (fun c h=> by rw [hop] at h;cases h) fun μ w ρ im him hf hev=> ?_
       have hv:=hev x (by simp [hop,Op.operands]) _ hx;rw [QuI htop] at hv;obtain ⟨im',him',htr⟩:=hv.top_inv;rw [him] at him';cases him';obtain ⟨v',h1,h2⟩:=Qwh hf htr hc;exact ⟨v',by simp [execOp,hop,h1],Qhl him 4 v0 v' hok h2⟩
    ·cases e
   ·cases e
  ·cases e
 ·cases e
theorem Q4Y {P:Program} {t:TypeId} {a b q:Int} (h:b≠0) (hq:a.tdiv b=q) (h1: -9223372036854775808<=q) (h2:q<=9223372036854775807):Qi6 P .quo t (.int .i64 a) (.int .i64 b) (.int .i64 q):=fun x y w=> by
 subst hq;simp [eqGuard,binOp,Op.intDiv,h,Qjs h1 h2]
theorem Q1c {P:Program} {t:TypeId} {a b:Int} (h:b≠0):Qi6 P .rem t (.int .i64 a) (.int .i64 b) (.int .i64 (a.tmod b)):=fun x y w=> by
 simp [eqGuard,binOp,Op.intDiv,h]
theorem Qtq {P:Program} {t e:TypeId} {b off m c z k:Nat} {q:Int} {kk:IntKind} (hu:und P t=some (.slice e)) (hz:Qfv P e=some z) (hq:q=(k:Int)) (hk:k < m) (hc:m<=c) (w:World):
 (Instr.sliceAt t (.slice (some ⟨b,off,none⟩) m c) (some (.int kk q)) none none).run P w=.ok (.slice (some ⟨b,off+k * z,none⟩) (m - k) (c - k)) w:=by
 rw [Qcl] at hu;subst hq;have hb:Q2a m (some (.int kk (k:Int))) none=some (k,m):=by
  simp only [Q2a,bnd,decide_eq_true (show (0:Int)<=(k:Int) by omega),decide_eq_true (show (k:Int)<=(m:Int) by omega),Bool.and_self,cond_true,Int.toNat_natCast]
 obtain ⟨hr,_,_⟩:=QoQ (P:=P) (μ:=fun _=> none) (sl:=true) (lo':=some (.int kk (k:Int))) (hi':=none) hb (show VR _ _ _ from .int _ _) trivial hc w;simp only [Instr.sliceAt,Instr.slice,Sem.run_bind,run_underlying hu,Result.andThen_ok,hr,QbE hz,Sem.run_pure,Option.map_some,QcO];rw [if_neg (by omega)]
theorem QlQ {sv:Value} {r k z by':Nat} {cs:Array Value} {e:TypeId} {zv:Value} (h:Qj2 P T o=some (sv,r,k,cs,e,z,by',zv)):
 ∃c s x t i,o.op=.call c/\c.callee=.builtin .append/\c.args=#[s,x]/\c.argTypes=#[t,t]/\evC T s=some sv/\evC T x=some (Qat r (slT k cs))/\Qg8 sv=true/\P.underlying t=some (.slice e)/\P.info? e=some i/\i.zero=some zv/\i.size=z/\i.bytes=by'/\zv.cells.size=z/\0 < z:=by
 unfold Qj2 at h;split at h
 ·rename_i c hop;split at h
  ·rename_i hc;split at h
   ·rename_i s x t t' ha ht;split at h
    ·rename_i sv' xv hs hx;split at h
     ·rename_i r' k' cs' e' htop hu;split at h
      ·rename_i i hi;split at h
       ·rename_i zv' z' hz hsz;cases hq:(Nat.beq t t' && Qg8 sv' && Nat.beq zv'.cells.size (z'+1)) with
        | false=> rw [hq] at h;cases h
        | true=>
          rw [hq] at h;simp only [cond_true,YO,YR] at h;obtain ⟨rfl,rfl,rfl,rfl,rfl,rfl,rfl,rfl⟩:=h;simp only [YB] at hq;obtain ⟨⟨q1,q2⟩,q3⟩:=hq;obtain rfl:=YE q1;rw [Qcl] at hu;rw [Qgv] at hi;exact ⟨c,s,x,t,i,hop,hc,by rw [<-ha],by rw [<-ht],hs,by rw [hx,Qk6 htop],q2,hu,hi,hz,hsz,rfl,YE q3,by omega⟩
       ·cases h
      ·cases h
     ·cases h
    ·cases h
   ·cases h
  ·cases h
 ·cases h
theorem QmO {μ:Mu} {s s':Value} (h:Qg8 s=true) (hs:VR μ s s'):∃a,s'=.slice a 0 0:=by
 unfold Qg8 at h;split at h
 ·cases hs;exact ⟨_,rfl⟩
 ·cases hs;exact ⟨_,rfl⟩
 ·cases h
theorem Qrb {sv:Value} {r k z by':Nat} {cs cs':Array Value} {e:TypeId} {zv:Value} (h:Qj2 P T o=some (sv,r,k,cs,e,z,by',zv)) (hlt:r < n) (hreg:Qbf (Qaw H r)=true)
 (hp:0 < k/\k<=maxLen/\k * by'<=140737488355328/\cs.size=k * z/\cs.map (Qf5 r)=cs'/\(cs.all fun v=> simple v || Qf2 v)=true/\ones cs'=true):
 Qs4 P B o (evC T) H n (.ret (.slice (some ⟨n,0,none⟩) k z)) ((n,.cells cs' e (0,0))::H) (n+1) [r] []:=by
 intro S μ w fr _ _ _ _ _ hok hB hS hf hev hR hm ht ho hw;obtain ⟨c,s,x,t,i,hop,hc,ea,et,hs,hx,hbn,hu,hi,hz,hsz,hby,hzs,hzp⟩:=QlQ h;obtain ⟨p1,p2,p3,p4,p5,p6,p7⟩:=hp;obtain ⟨xr,hxr,hr⟩:=Qd3 hreg;obtain ⟨im,him,hfm⟩:=hok.reg r xr (hR r (by simp) hlt) hxr hr;have hvs:=hev s (by simp [hop,Op.operands,Call.operands,hc,ea]) _ hs;have hvx:=hev x (by simp [hop,Op.operands,Call.operands,hc,ea]) _ hx;obtain ⟨a,hsa⟩:=QmO hbn hvs;obtain ⟨im',him',htr⟩:=hvx.top_inv;rw [him] at him';cases him';rcases htr.slice_inv with ⟨b,o',c',arr,ty,fl,h1,h2,h3,h4,h5,h6⟩ | ⟨h0,_⟩
 ·have hb:=hfm _ _ h4;obtain ⟨news,hnews⟩:∃news,news=(arr.toList.drop o').take (k * z):=⟨_,rfl⟩
  have hnl:news.length=k * z:=by
   rw [hnews,List.length_take,List.length_drop,Array.length_toList];have:∀j,j < k * z->o'+j < arr.size:=fun j hj=> h5 j (by omega)
   have:=this (k * z - 1) (by have:=Nat.mul_pos p1 hzp;omega);have:=Nat.mul_pos p1 hzp;omega
  have Qaw:∀(j:Nat) u,news[j]? =some u->arr[o'+j]? =some u:=by
   intro j u hj;rw [hnews,List.getElem?_take] at hj;split at hj
   ·rw [List.getElem?_drop] at hj;simpa using hj
   ·cases hj
  have hcell:∀(j:Nat) u,news[j]? =some u->w.cell? ((⟨b,o',none⟩:Addr).add j)=some u:=by
   intro j u hj;rw [QcO];have:=Qaw j u hj;simp [World.cell?,hb];exact this
  have hV:VRs μ cs' news.toArray:=by
   refine ⟨by rw [<-p5];simp [hnl,p4],fun j v v' hv hv'=> ?_⟩;rw [<-p5,Array.getElem?_map] at hv;cases hy:cs[j]? with
   | none=> rw [hy] at hv;cases hv
   | some y=>
     rw [hy] at hv;simp only [Option.map_some,YO] at hv;subst hv;exact QkR him (Array.all_eq_true'.1 p6 y (Array.mem_of_getElem? hy)) (h6 j y v' hy (Qaw j v' (by simpa using hv')))
  have hrun:∃C,k<=C/\C<=maxLen/\(Builtin.append_ #[t,t] o.type #[fr.eval s,fr.eval x]).run P w=.ok (.slice (some ⟨w.heap.size,0,none⟩) k C) (w.drew.alloc (.cells (news.toArray++Builtin.zeroCells zv.cells (C - k)) e)):=by
   have hk63:(k:Int)<=9223372036854775807:=by simp only [maxLen] at p2;omega
   have hr0:=run_append_nil (P:=P) w t o.type e i zv hu hi hz ⟨b,o',none⟩ k c' news (by rw [hnl,hsz]) hcell p1 hk63 (by rw [hby];omega);refine ⟨grownCap w k 0 e,grownCap_ge w k 0 e,grownCap_le_maxLen w k 0 e p2, ?_⟩;rw [hsa,h1];cases a with
   | none=> exact hr0
   | some a=> rw [Qlk hu hi hz w a ⟨b,o',none⟩ k c' news (by rw [hnl,hsz]) hcell p1 p2 (by rw [hby];exact p3)];exact hr0
  obtain ⟨C,hC1,hC2,hrun⟩:=hrun;have hfn:=hf n (Nat.le_refl _) (by omega);have harr:(news.toArray++Builtin.zeroCells zv.cells (C - k)).size=C * z:=by
   rw [Array.size_append,size_zeroCells,hzs,List.size_toArray,hnl,<-Nat.add_mul];congr 1;omega
  refine ⟨.ret (.slice (some ⟨w.heap.size,0,none⟩) k C),_,_,QmI hok hS hfn none (fun _ h=> by cases h) w.heap.size (news.toArray++Builtin.zeroCells zv.cells (C - k)).size _ hB.le (by simp) (.inl (Nat.le_refl _)) (by simp) (fun b hb _=> Below.heap_alloc w.drew _ b hb) (.ofCells (heap_alloc_new w.drew _) ?_ rfl fun j v hv=> ?_) ⟨rfl,rfl,rfl⟩,.ret ?_,Qhq hm ht ho hw (fun c h=> by rw [hop] at h;cases h) (w':=w.drew.alloc _) ?_⟩
  ·rw [Array.size_append];have:=hV.1;simp only [List.size_toArray] at this ⊢;omega
  ·obtain ⟨u,e1,e2⟩:=hV.get hv;have hj:j < news.toArray.size:=(Array.getElem?_eq_some_iff.1 e1).1;exact ⟨u,by rw [Array.getElem?_append_left hj];exact e1,e2.mono (Qfa hfn)⟩
  ·refine .slice ⟨_,QaP,rfl,rfl⟩ hC1 hC2 (fun _ im him _ _=> ?_);rw [QaP] at him;cases him;exact harr.symm
  ·simp [execOp,hop,resolve,hc,invoke,builtin,ea,et,hrun]
 ·omega
theorem QpA {sv:Value} {r k z by':Nat} {cs:Array Value} {e:TypeId} {zv:Value} (h:Qj2 P T o=some (sv,r,k,cs,e,z,by',zv)) (hlt:r < n) (hreg:Qbf (Qaw H r)=true) (hk:k=0):
 Qs4 P B o (evC T) H n (.ret sv) H n [r] []:=by
 obtain ⟨c,s,x,t,i,hop,hc,ea,et,hs,hx,hbn,hu,hi,hz,hsz,hby,hzs,hzp⟩:=QlQ h;refine QfQ hlt hreg (fun c h=> by rw [hop] at h;cases h) fun μ w ρ im him hf hev=> ?_
 have hvs:=hev s (by simp [hop,Op.operands,Call.operands,hc,ea]) _ hs;have hvx:=hev x (by simp [hop,Op.operands,Call.operands,hc,ea]) _ hx;obtain ⟨a,hsa⟩:=QmO hbn hvs;obtain ⟨im',him',htr⟩:=hvx.top_inv;rw [him] at him';cases him';subst hk;have hxx:∃b d,ρ x=.slice b 0 d:=by
  rcases htr.slice_inv with ⟨b,o',c',arr,ty,fl,h1,_⟩ | ⟨_,_,a',c',h1,_⟩
  ·exact ⟨_,_,h1⟩
  ·exact ⟨_,_,h1⟩
 obtain ⟨b,d,hxx⟩:=hxx;refine ⟨.slice a 0 0, ?_,by rw [<-hsa];exact hvs⟩;have hszp:Qfv P e=some z:=by simp [Qfv,Qgv,hi,hsz]
 have hr:=Qmu (ty:=o.type) hu hszp w a b 0 0 d (Nat.le_refl _);simp [execOp,hop,resolve,hc,invoke,builtin,ea,et,hsa,hxx,hr]
theorem Qrt (hF:∀g,F g=true->Qau P g=true) (hJ:∀w,B.has w->J w) (hu:Under H n) {h:Option Qaf} {a:Told} (e:opT P F J B T o H n h=some a) (hp:∀p,a.p=some p->p):
 Qs4 P B o (evC T) H n a.s.out a.s.H a.s.n a.s.R a.s.W/\Shape H n a.s.H a.s.n a.s.R a.s.W:=by
 unfold opT at e;split at e
 ·split at e
  ·rename_i v r htr;cases hq:(Nat.blt r n && Qbf (Qaw H r)) with
   | false=> rw [hq] at e;cases e
   | true=>
     rw [hq] at e;simp only [cond_true,YO] at e;subst e;simp only [YB] at hq;exact ⟨Qsh htr (YL hq.1) hq.2,Shape.same _ _ _⟩
  ·exact Qqh hF hu e hp
 ·exact Qqh hF hu e hp
 ·rename_i k es;split at e
  ·rename_i t x i hop;split at e
   ·rename_i u kk q hx hi;split at e
    ·rename_i r m cs el htop hue;split at e
     ·rename_i z hz;cases hq:(Nat.blt r n && Qbf (Qaw H r)) with
      | false=> rw [hq] at e;cases e
      | true=>
        rw [hq] at e;simp only [cond_true,YO] at e;subst e;simp only [YB] at hq;obtain ⟨hlt,hreg⟩:=hq;obtain ⟨hqk,hkm,hes⟩:=hp _ rfl;refine ⟨QfQ (YL hlt) hreg (fun c h=> by rw [hop] at h;cases h) fun μ w ρ im him hf hev=> ?_,Shape.same _ _ _⟩;have hv:=hev x (by simp [hop,Op.operands]) _ hx;have hiv:=Qug (hev i (by simp [hop,Op.operands]) _ hi);rw [Qk6 htop] at hv;obtain ⟨im',him',htr⟩:=hv.top_inv;rw [him] at him';cases him';have hcase:=htr.slice_inv;rcases hcase with ⟨b,o',c',arr,ty,fl,h1,h2,h3,h4,h5,h6⟩ | ⟨rfl,_⟩
        ·have hess:k * z+es.size<=cs.size\/es.size=0:=by rw [<-hes];simp;omega
         refine ⟨.pointer (some ⟨b,o'+k * z,none⟩),by simp [execOp,hop,h1,hiv,Qqo hue hz hqk hkm],.top rfl him ?_⟩;refine TRv.ptr (o:=o'+k * z) (off:=0) h4 (fun i hi=> ?_) fun i v v' hv hv'=> ?_
         ·have:=h5 (k * z+i) (by omega);omega
         ·rw [<-hes,Array.getElem?_extract] at hv;split at hv
          ·refine h6 (k * z+i) v v' hv ?_;rw [<-hv',Nat.add_assoc]
          ·cases hv
        ·omega
     ·cases e
    ·cases e
   ·cases e
  ·cases e
 ·rename_i k m' cs';split at e
  ·rename_i t x lo hop;split at e
   ·rename_i u kk q hx hi;split at e
    ·rename_i r m cs el htop hue;split at e
     ·rename_i z hz;cases hq:(Nat.blt r n && Qbf (Qaw H r)) with
      | false=> rw [hq] at e;cases e
      | true=>
        rw [hq] at e;simp only [cond_true,YO] at e;subst e;simp only [YB] at hq;obtain ⟨hlt,hreg⟩:=hq;obtain ⟨hqk,hkm,hm',hes⟩:=hp _ rfl;refine ⟨QfQ (YL hlt) hreg (fun c h=> by rw [hop] at h;cases h) fun μ w ρ im him hf hev=> ?_,Shape.same _ _ _⟩;have hv:=hev x (by simp [hop,Op.operands]) _ hx;have hiv:=Qug (hev lo (by simp [hop,Op.operands]) _ hi);rw [Qk6 htop] at hv;obtain ⟨im',him',htr⟩:=hv.top_inv;rw [him] at him';cases him';have hcase:=htr.slice_inv;rcases hcase with ⟨b,o',c',arr,ty,fl,h1,h2,h3,h4,h5,h6⟩ | ⟨rfl,_⟩
        ·refine ⟨.slice (some ⟨b,o'+k * z,none⟩) (m - k) (c' - k),by simp [execOp,hop,h1,hiv,Qtq hue hz hqk hkm h2],.top rfl him ?_⟩;rw [hm'];refine TRv.slice (o:=o'+k * z) (by omega) (by omega) h4 (fun i hi=> ?_) fun i v v' hv hv'=> ?_
         ·rw [<-hes,Array.size_extract] at hi;have:=h5 (k * z+i) (by omega);omega
         ·rw [<-hes,Array.getElem?_extract] at hv;split at hv
          ·refine h6 (k * z+i) v v' hv ?_;rw [<-hv',Nat.add_assoc]
          ·cases hv
        ·omega
     ·cases e
    ·cases e
   ·cases e
  ·cases e
 ·rename_i cs';split at e
  ·rename_i u1 r k cs el z by' u2 hta
   cases hq:(Nat.blt r n && Qbf (Qaw H r)) with
   | false=> rw [hq] at e;cases e
   | true=>
     rw [hq] at e;simp only [cond_true,YO] at e;subst e;simp only [YB] at hq;exact ⟨Qrb hta (YL hq.1) hq.2 (hp _ rfl),Shape.new _ _ _ _⟩
  ·cases e
 ·split at e
  ·rename_i sv r k cs el z by' u2 hta
   cases hq:(Nat.blt r n && Qbf (Qaw H r)) with
   | false=> rw [hq] at e;cases e
   | true=>
     rw [hq] at e;simp only [cond_true,YO] at e;subst e;simp only [YB] at hq;exact ⟨QpA hta (YL hq.1) hq.2 (hp _ rfl),Shape.same _ _ _⟩
  ·cases e
 ·rename_i s;simp only [YO] at e;subst e;exact Qff hF QfB (QaM P B) hu (hp _ rfl)
 ·rename_i v;split at e
  ·rename_i op t x y yt hop;split at e
   ·rename_i a b hx hy;cases hq:(af a && af b && af v) with
    | false=> rw [hq] at e;cases e
    | true=>
      rw [hq] at e;simp only [cond_true,YO] at e;subst e;simp only [YB] at hq;have hb:=hp _ rfl;refine ⟨Qeq (fun c h=> by rw [hop] at h;cases h) fun μ w ρ _ hev=> ?_,Shape.same _ _ _⟩;have e1:=Qje hq.1.1 (hev x (by simp [hop,Op.operands]) _ hx);have e2:=Qje hq.1.2 (hev y (by simp [hop,Op.operands]) _ hy);refine ⟨v, ?_,Qiv hq.2⟩;simp only [execOp,hop,e1,e2];rw [Sem.run_bind,hb x y w];rfl
   ·cases e
  ·cases e
 ·rename_i keys out ups n' W;split at e
  ·rename_i c hop;split at e
   ·rename_i g args H1 n1 R W1 hcr;cases hn:(Nat.beq n1 n && W1.isEmpty) with
    | false=> rw [hn] at e;cases e
    | true=>
      rw [hn] at e;simp only [cond_true] at e;simp only [YB,List.isEmpty_iff] at hn;obtain ⟨hn1,rfl⟩:=hn;have hn1:=YE hn1;subst hn1;split at e
      ·rename_i c1 hc1;simp only [YO] at e;subst e;exact Qhz hF hop hu hcr ((hp _ rfl).callJ hc1)
      ·cases e
   ·rename_i l fn tm cda cdb H1 n1 R W1 hcr;cases hn:(Nat.beq n1 n && W1.isEmpty && Nat.ble tm.size 16000) with
    | false=> rw [hn] at e;cases e
    | true=>
      rw [hn] at e;simp only [cond_true,YO] at e;subst e;simp only [YB,List.isEmpty_iff] at hn;obtain ⟨⟨hn1,rfl⟩,hsz⟩:=hn;have hn1:=YE hn1;subst hn1;have hrec:=FJ.recS (hp _ rfl);have:=Qff hF hrec (QaM P B) hu (T:=T) (o:=o) (s:=⟨out,ups++H1,n',R++keys,W⟩) (by
       simp [opS,hop,hcr,hsz,QgB])
      exact this
   ·cases e
  ·cases e
 ·rename_i out fz;split at e
  ·rename_i c hop;split at e
   ·rename_i g args H1 n1 R W1 hcr;cases hn:(Nat.beq n1 n && W1.isEmpty) with
    | false=> rw [hn] at e;cases e
    | true=>
      rw [hn] at e;simp only [cond_true] at e;simp only [YB,List.isEmpty_iff] at hn;obtain ⟨hn1,rfl⟩:=hn;have hn1:=YE hn1;subst hn1;split at e
      ·rename_i ts R2 L hst;cases hlt:(R2.all fun i=> Nat.blt i n1) with
       | false=> rw [hlt] at e;cases e
       | true=>
         rw [hlt] at e;simp only [cond_true] at e;cases hpl:Qkt 2 out with
         | true=>
           rw [hpl] at e;simp only [cond_true,YO] at e;subst e;obtain ⟨hL,hpc⟩:=hp _ rfl;exact Qhz hF hop hu hcr (Qv4 hJ hst hL hpc hpl hlt)
         | false=>
           rw [hpl] at e;simp only [cond_false] at e;cases hq:((R2.all fun i=> Qbf (Qaw H1 i)) && okT 4 out) with
           | false=> rw [hq] at e;cases e
           | true=>
             rw [hq] at e;simp only [cond_true,YO] at e;subst e;simp only [YB] at hq;obtain ⟨hL,hpc⟩:=hp _ rfl;exact Qhz hF hop hu hcr (QtB hJ hst hL hpc hlt hq.1 hq.2)
      ·cases e
   ·cases e
  ·cases e
 ·rename_i out fz;split at e
  ·rename_i c hop;split at e
   ·rename_i g args H1 n1 R W1 hcr;cases hn:(Nat.beq n1 n && W1.isEmpty) with
    | false=> rw [hn] at e;cases e
    | true=>
      rw [hn] at e;simp only [cond_true] at e;simp only [YB,List.isEmpty_iff] at hn;obtain ⟨hn1,rfl⟩:=hn;have hn1:=YE hn1;subst hn1;split at e
      ·rename_i ts R2 L hst;cases hq:((R2.all fun i=> Nat.blt i n1) && (R2.all fun i=> Qbf (Qaw H1 i) || Qmo (Qaw H1 i)) && okT 4 out) with
       | false=> rw [hq] at e;cases e
       | true=>
         rw [hq] at e;simp only [cond_true,YO] at e;subst e;simp only [YB] at hq;obtain ⟨hL,hpc⟩:=hp _ rfl;exact Qhz hF hop hu hcr (Qsf hJ hst hL hpc hq.1.1 hq.1.2 hq.2)
      ·cases e
   ·cases e
  ·cases e
end
end Go.CE

namespace Go.CE
open Go Go.RowKit

abbrev Qan:=List (Nat×Qaf)
def Q7r (sc:Qan) (q:Nat):Option Qaf×Qan:=match sc with
 | (k,h)::l=> bif Nat.beq k q then (some h,l) else (none,sc)
 | []=> (none,[])
structure RRT where
 recs:List Rec
 T:Tm
 H:Qar
 n:Nat
 sc:Qan
 q:Nat
 L:List Prop
 pan:Option (Value×List Nat×List Nat)
def QoK (P:Program) (F:FuncId->Bool) (J:World->Prop) (B:Lo) (ops:Array Oper):List Oper->Tm->Qar->Nat->Qan->Nat->List Prop->Option RRT
 | [],T,H,n,sc,q,L=> some ⟨[],T,H,n,sc,q,L,none⟩
 | o::l,T,H,n,sc,q,L=>
   bif Qiy T o.dst then
    bif Region.wanted o (Qbs ops T) then
     match Q7r sc q with
     | (h,sc')=> match opT P F J B T o H n h with
       | some ⟨⟨.ret v,H1,n1,R,W⟩,p⟩=> match QoK P F J B ops l (Qgy T o.dst v) H1 n1 sc' (q+1) (more p L) with
         | some r=> some {r with recs:=⟨o,true,v,T,H,H1,n,n1,R,W⟩::r.recs}
         | none=> none
       | some ⟨⟨.pan v,H1,n1,R,W⟩,p⟩=> some ⟨[],T,H1,n1,sc',q+1,more p L,some (v,R,W)⟩
       | none=> none
    else match QoK P F J B ops l (Qgy T o.dst undef) H n sc (q+1) L with
     | some r=> some {r with recs:=⟨o,false,undef,T,H,H,n,n,[],[]⟩::r.recs}
     | none=> none
   else none
def Q4U (P:Program) (F:FuncId->Bool) (B:Lo) (c:CF) (H:Qar) (n:Nat) (f:Operand) (params:Array Tmp) (assign body:Code) (k:List Item) (keys:List Nat) (out:OO) (ups:Qar) (n':Nat) (W:List Nat):Option (CF×Qar×Prop):=
 match evC c.tmps f with
 | some fv=> match Qeu c H n params assign body with
   | some (H1,l,ds,_)=> match QiH F H1 fv #[.func (.yield l) #[] #[]] with
     | some (.enter g args,_)=> match Qc7 P g args with
       | some c1=> match out with
         | .ret _=> some ({c with todo:=.endRangeFunc l::k,defers:=ds++c.defers},ups++H1,FJ P B c1 H1 (l+1) out (ups++H1) n' keys W)
         | .pan v=> some ({c with mode:=.pan v,defers:=ds++c.defers},ups++H1,FJ P B c1 H1 (l+1) out (ups++H1) n' keys W)
       | none=> none
     | _=> none
   | none=> none
 | none=> none
def Qah (P:Program) (F:FuncId->Bool) (J:World->Prop) (B:Lo):Nat->Nat->CF->Qar->Nat->Qan->Nat->List Nat->List Prop->Option ST
 | 0,_,c,H,n,_,_,W,L=> some ⟨.at c H n,W,L⟩
 | k+1,b,c,H,n,sc,q,W,L=>
   match c.mode,c.todo with
   | .run,.code (.region _ ops draw)::todo=> match QoK P F J B ops ops.toList c.tmps H n sc q L with
     | some r=> match r.pan with
       | none=> bif !draw || (Qd1 0 ops.toList && indep ops 0 r.recs (QnF ops.toList [])) then Qah P F J B k b {c with tmps:=r.T,todo:=todo} r.H r.n r.sc r.q (Qeb b (QiL r.recs) W) r.L else none
       | some (v,_,W1)=> bif draw then none else Qah P F J B k b {c with tmps:=r.T,mode:=.pan v} r.H r.n r.sc r.q (Qeb b (QiL r.recs++W1) W) r.L
     | none=> none
   | .run,.code (.rangeFunc f params assign body)::todo=> match Q7r sc q with
     | (some (.old (.call keys out ups n1 W1)),sc')=> match Q5p P F B c H n f params assign body todo keys out ups n1 W1 with
       | some (c',H',p)=> Qah P F J B k b c' H' n1 sc' q (Qeb b W1 W) (p::L)
       | none=> none
     | (some (.call keys out ups n1 W1),sc')=> match Q4U P F B c H n f params assign body todo keys out ups n1 W1 with
       | some (c',H',p)=> Qah P F J B k b c' H' n1 sc' q (Qeb b W1 W) (p::L)
       | none=> none
     | _=> none
   | _,_=> match Qiw P F Qb3 (fun _ _ _=> none) c H n with
     | some (.go c' H' n' _ W')=> Qah P F J B k b c' H' n' sc q (Qeb b W' W) L
     | some (.done out H' n' _ W')=> some ⟨.fin out H' n',Qeb b W' W,L⟩
     | none=> none
section
variable {P:Program} {F:FuncId->Bool} {J:World->Prop} {B:Lo}
theorem QfU {ops:Array Oper}:∀(l:List Oper) (T:Tm) (H:Qar) (n:Nat) (sc:Qan) (q:Nat) (L:List Prop) (r:RRT),QoK P F J B ops l T H n sc q L=some r->Qas r.L->Qas L
 | [],T,H,n,sc,q,L,r,h,ha=> by
   simp only [QoK,YO] at h;subst h;exact ha
 | o::l,T,H,n,sc,q,L,r,h,ha=> by
   simp only [QoK] at h;cases hd:Qiy T o.dst with
   | false=> rw [hd] at h;cases h
   | true=>
     rw [hd] at h;simp only [cond_true] at h;cases hw:Region.wanted o (Qbs ops T) with
     | true=>
       rw [hw] at h;simp only [cond_true] at h;split at h
       ·rename_i v H1 n1 R W p hop;split at h
        ·rename_i r' hr;simp only [YO] at h;subst h;exact (Qhj (QfU l _ _ _ _ _ _ r' hr ha)).2
        ·cases h
       ·simp only [YO] at h;subst h;exact (Qhj ha).2
       ·cases h
     | false=>
       rw [hw] at h;simp only [cond_false] at h;split at h
       ·rename_i r' hr;simp only [YO] at h;subst h;exact QfU l _ _ _ _ _ _ r' hr ha
       ·cases h
def RegOk (P:Program) (B:Lo) (ops:Array Oper) (l:List Oper) (T:Tm) (H:Qar) (n:Nat) (r:RRT):Prop:=match r.pan with
 | none=> Qh4 r.recs T H n r.T r.H r.n/\r.recs.map (·.o)=l/\Under r.H r.n
 | some (v,R,W)=> ∃H1 n1 o l2,Qh4 r.recs T H n r.T H1 n1/\r.recs.map (·.o)++o::l2=l/\Region.wanted o (Qbs ops r.T)=true/\Qs4 P B o (evC r.T) H1 n1 (.pan v) r.H r.n R W/\Shape H1 n1 r.H r.n R W/\Under r.H r.n
theorem RegOk.cons {ops:Array Oper} {l:List Oper} {T:Tm} {H:Qar} {n:Nat} {r:RRT} {x:Rec} (h:RegOk P B ops l (Qgy T x.o.dst x.v) x.H' x.n' r) (hT:x.T=T) (hH:x.H=H) (hn:x.n=n):RegOk P B ops (x.o::l) T H n {r with recs:=x::r.recs}:=by
 unfold RegOk at h ⊢;cases hp:r.pan with
 | none=>
   rw [hp] at h;obtain ⟨h3,h4,h5⟩:=h;exact ⟨⟨hT,hH,hn,h3⟩,by simp [h4],h5⟩
 | some p=>
   obtain ⟨v,R,W⟩:=p;rw [hp] at h;obtain ⟨H1,n1,o,l2,h1,h2,h3⟩:=h;exact ⟨H1,n1,o,l2,⟨hT,hH,hn,h1⟩,by simp [h2],h3⟩
theorem Qgq (hF:∀g,F g=true->Qau P g=true) (hJ:∀w,B.has w->J w) {ops:Array Oper} {len:Nat}:∀(l:List Oper) (T:Tm) (H:Qar) (n:Nat) (sc:Qan) (q:Nat) (L:List Prop) (r:RRT),T.len=len->Under H n->QoK P F J B ops l T H n sc q L=some r->Qas r.L->
 (∀x∈r.recs,QvB len x)/\(∀x∈r.recs,QqZ P B ops x)/\RegOk P B ops l T H n r
 | [],T,H,n,sc,q,L,r,hl,hu,h,ha=> by
   simp only [QoK,YO] at h;subst h;exact ⟨fun r hr=> by simp at hr,fun r hr=> by simp at hr,⟨rfl,rfl,rfl⟩,rfl,hu⟩
 | o::l,T,H,n,sc,q,L,r,hl,hu,h,ha=> by
   simp only [QoK] at h;cases hd:Qiy T o.dst with
   | false=> rw [hd] at h;cases h
   | true=>
     have hdst:=QfS hd;rw [hl] at hdst;rw [hd] at h;simp only [cond_true] at h;cases hw:Region.wanted o (Qbs ops T) with
     | true=>
       rw [hw] at h;simp only [cond_true] at h;split at h
       ·rename_i v H1 n1 R W p hop;split at h
        ·rename_i r' hr;simp only [YO] at h;subst h;have hpL:=Qhj (QfU l _ _ _ _ _ _ r' hr ha);obtain ⟨hdo,hsh⟩:=Qrt hF hJ hu hop hpL.1;obtain ⟨h1,h2,h3⟩:=Qgq hF hJ (ops:=ops) (len:=len) l (Qgy T o.dst v) H1 n1 _ _ _ r' (by rw [QdK];exact hl) (hu.shape hsh) hr ha;refine ⟨fun x hx=> ?_,fun x hx=> ?_,RegOk.cons (x:=⟨o,true,v,T,H,H1,n,n1,R,W⟩) h3 rfl rfl rfl⟩
         ·rcases List.mem_cons.1 hx with rfl | hx
          ·exact ⟨hsh.le,hsh.keep,hsh.top,hsh.sub,hsh.wlt,hdst⟩
          ·exact h1 x hx
         ·rcases List.mem_cons.1 hx with rfl | hx
          ·exact ⟨hw.symm,(fun _=> hdo),(fun e=> by cases e)⟩
          ·exact h2 x hx
        ·cases h
       ·rename_i v H1 n1 R W p hop;simp only [YO] at h;subst h;obtain ⟨hdo,hsh⟩:=Qrt hF hJ hu hop (Qhj ha).1;exact ⟨fun r hr=> by simp at hr,fun r hr=> by simp at hr,H,n,o,l,⟨rfl,rfl,rfl⟩,rfl,hw,hdo,hsh,hu.shape hsh⟩
       ·cases h
     | false=>
       rw [hw] at h;simp only [cond_false] at h;split at h
       ·rename_i r' hr;simp only [YO] at h;subst h;obtain ⟨h1,h2,h3⟩:=Qgq hF hJ (ops:=ops) (len:=len) l (Qgy T o.dst undef) H n _ _ _ r' (by rw [QdK];exact hl) hu hr ha;refine ⟨fun x hx=> ?_,fun x hx=> ?_,RegOk.cons (x:=⟨o,false,undef,T,H,H,n,n,[],[]⟩) h3 rfl rfl rfl⟩
        ·rcases List.mem_cons.1 hx with rfl | hx
         ·exact ⟨Nat.le_refl _,fun _ _ _=> rfl,fun _ _=> rfl,fun i hi=> by simp at hi,fun i hi=> by simp at hi,hdst⟩
         ·exact h1 x hx
        ·rcases List.mem_cons.1 hx with rfl | hx
         ·exact ⟨hw.symm,(fun e=> by cases e),fun _=> ⟨rfl,rfl,rfl,rfl⟩⟩
         ·exact h2 x hx
       ·cases h
theorem QnB {c:CF} {H:Qar} {n:Nat} {id:Nat} {ops:Array Oper} {k:List Item} {recs:List Rec} {v:Value} {H':Qar} {n':Nat} {R W:List Nat} {T':Tm} (hm:c.mode=.run)
 (ht:c.todo=.code (.region id ops false)::k) (hs:∀x∈recs,QvB c.tmps.len x) (hk:∀x∈recs,QqZ P B ops x)
 (h:∃H1 n1 o l2,Qh4 recs c.tmps H n T' H1 n1/\recs.map (·.o)++o::l2=ops.toList/\Region.wanted o (Qbs ops T')=true/\Qs4 P B o (evC T') H1 n1 (.pan v) H' n' R W/\Shape H1 n1 H' n' R W/\Under H' n'):
 GoJ P B c H n {c with tmps:=T',mode:=.pan v} H' n' (Qnr recs++R) (QiL recs++W):=by
 obtain ⟨H1,n1,o,l2,hch,hmap,hwant,hdo,hsh,_⟩:=h;have hown:=Qeg (l2:=o::l2) hmap rfl;have hlen:ops.size=recs.length+(l2.length+1):=by have:=congrArg List.length hmap;simp at this;omega
 have hat:ops[recs.length]? =some o:=by
  rw [<-Array.getElem?_toList,<-hmap,List.getElem?_append_right (by simp)];simp
 have hsh1:=QbU recs _ _ _ _ _ _ hch hs;have l1:=hsh1.le;have l3:=hsh.le;refine ⟨hsh1.trans hsh,fun S μ w fr cs Z hok hB hS hf hfr hR=> ?_⟩;obtain ⟨a,b,d⟩:=hfr.running hm;rw [ht] at d;obtain ⟨L',e,hL⟩:=d.code;have hf1:Qn7 μ n n1:=fun q x y=> hf q x (by omega)
 obtain ⟨μ1,A1,w1,hp,hT,hst⟩:=Qjk (fr:=fr) (cs:=cs) (k:=L') a recs 0 c.tmps H n T' H1 n1 (List.range' recs.length (l2.length+1)) hch hs hk (fun j r hj=> by rw [Nat.zero_add];exact hown j r hj) rfl S μ w fr.tmps hok hB hS hf1
  (fun q hq hlt=> hR q (List.mem_append_left _ hq) hlt) b
 have hr:List.range' 0 recs.length++List.range' recs.length (l2.length+1)=List.range' 0 ops.size:=by
  rw [hlen];have:=List.range'_append_1 (s:=0) (m:=recs.length) (n:=l2.length+1);simpa using this
 rw [hr,List.range'_succ] at hst;obtain ⟨out',w2,μ2,hp2,ho,hst2⟩:=hdo _ μ1 w1 (QaZ fr A1 ops (recs.length::List.range' (recs.length+1) l2.length) L') cs L' ops recs.length _ hp.ok (hB.post hok hp) (fun q hq=> hq.elim (fun e=> by have:=hS q e;omega) (fun e=> e.2))
  (fun q x y=> by rw [hp.ext q (by omega)];exact hf q (by omega) y) (fun x _ v hv=> QtA (fr:=QaZ fr A1 ops (recs.length::List.range' (recs.length+1) l2.length) L') hT x v hv) (fun q hq hlt=> by
   rcases Nat.lt_or_ge q n with h1 | h1
   ·exact .inl (hR q (List.mem_append_right _ hq) h1)
   ·exact .inr ⟨h1,hlt⟩) a rfl hat (by rw [show (QaZ fr A1 ops (recs.length::List.range' (recs.length+1) l2.length) L').tmps=A1 from rfl,Qef hT];exact hwant)
 have hpp:=hp.trans hp2;cases ho with
 | pan hv=>
   rename_i v';refine ⟨{QaZ fr A1 ops (recs.length::List.range' (recs.length+1) l2.length) L' with mode:=.panicking [{v:=v',recovered:=false}]},w2,μ2,hpp,⟨hfr.fn,hT.mono (hp2.mu fun q x y=> by rw [hp.ext q (by omega)];exact hf q (by omega) y),(fun h=> by cases h),hfr.defers.mono (hpp.mu hf),.pan hv,hfr.kind,hfr.round.mono (hpp.mu hf)⟩,rfl,rfl,
    .head (QbH a e) (hst.trans (hst2.trans ?_))⟩
   simp only [OO.on,Frame.raise,QaZ,a];exact Steps.refl _ _
theorem Qt4 (hF:∀g,F g=true->Qau P g=true) (hmix:P.follows .mixedOrders=true) {c c':CF} {H H':Qar} {n n':Nat} {f:Operand} {params:Array Tmp} {assign body:Code} {k:List Item} {keys W:List Nat} {out:OO} {ups:Qar} {p:Prop} (hu:Under H n) (hm:c.mode=.run) (ht:c.todo=.code (.rangeFunc f params assign body)::k)
 (h:Q4U P F B c H n f params assign body k keys out ups n' W=some (c',H',p)) (hp:p):∃R,GoJ P B c H n c' H' n' R W:=by
 unfold Q4U at h;split at h
 ·rename_i fv hfv;split at h
  ·rename_i H1 l ds R1 ho;split at h
   ·rename_i g args R2 hc;split at h
    ·rename_i c1 he;refine ⟨R1++R2++keys, ?_⟩;split at h
     ·rename_i v;simp only [YO,YR] at h;obtain ⟨rfl,rfl,rfl⟩:=h;have:Qiw P F Qb3 (Qi1 c1 H1 (l+1) ⟨.ret v,ups++H1,n',keys,W⟩) c H n=some (.go {c with todo:=.endRangeFunc l::k,defers:=ds++c.defers} (ups++H1) n' (R1++R2++keys) W):=by
       unfold Qiw;simp only [hm,ht,hfv,ho,hc,he,QgB]
      exact Qdc hF hmix (QaM P B) (FJ.recS hp) hu this
     ·rename_i v;simp only [YO,YR] at h;obtain ⟨rfl,rfl,rfl⟩:=h;have:Qiw P F Qb3 (Qi1 c1 H1 (l+1) ⟨.pan v,ups++H1,n',keys,W⟩) c H n=some (.go {c with mode:=.pan v,defers:=ds++c.defers} (ups++H1) n' (R1++R2++keys) W):=by
       unfold Qiw;simp only [hm,ht,hfv,ho,hc,he,QgB]
      exact Qdc hF hmix (QaM P B) (FJ.recS hp) hu this
    ·cases h
   ·cases h
  ·cases h
 ·cases h
theorem Q3q {α:Type} {d:Bool} {x:Option α} {s:α} (h:(bif d then none else x)=some s):x=some s:=by
 cases d with
 | true=> cases h
 | false=> exact h
theorem Qho (b:Nat):∀(fuel:Nat) (c:CF) (H:Qar) (n:Nat) (sc:Qan) (q:Nat) (W0:List Nat) (L:List Prop) (s:ST),Qah P F J B fuel b c H n sc q W0 L=some s->Qas s.L->Qas L:=by
 intro fuel;induction fuel with
 | zero=> intro c H n sc q W0 L s h ha;simp only [Qah,YO] at h;subst h;exact ha
 | succ k ih=>
   intro c H n sc q W0 L s h ha;simp only [Qah] at h;split at h
   ·split at h
    ·rename_i r' hr';split at h
     ·have h:=Qf8 h;exact QfU _ _ _ _ _ _ _ _ hr' (ih _ _ _ _ _ _ _ _ h ha)
     ·exact QfU _ _ _ _ _ _ _ _ hr' (ih _ _ _ _ _ _ _ _ (Q3q h) ha)
    ·cases h
   ·split at h
    ·split at h
     ·exact (ih _ _ _ _ _ _ _ _ h ha).2
     ·cases h
    ·split at h
     ·exact (ih _ _ _ _ _ _ _ _ h ha).2
     ·cases h
    ·cases h
   ·split at h
    ·exact ih _ _ _ _ _ _ _ _ h ha
    ·simp only [YO] at h;subst h;exact ha
    ·cases h
theorem QbS (hF:∀g,F g=true->Qau P g=true) (hJ:∀w,B.has w->J w) (hmix:P.follows .mixedOrders=true):∀(fuel b:Nat) (c:CF) (H:Qar) (n:Nat) (sc:Qan) (q:Nat) (W0:List Nat) (L:List Prop) (s:ST),Under H n->Qah P F J B fuel b c H n sc q W0 L=some s->Qas s.L->
 ∃R W,SRJ P B c H n R W s.r/\∀i,i < b->(i∈s.W<->i∈W0\/i∈W)
 | 0,b,c,H,n,sc,q,W0,L,s,hu,h,ha=> by
   simp only [Qah,YO] at h;subst h;exact ⟨[],[],GoJ.refl c H n,fun i _=> by simp⟩
 | k+1,b,c,H,n,sc,q,W0,L,s,hu,h,ha=> by
   have plain:(match Qiw P F Qb3 (fun _ _ _=> none) c H n with
    | some (.go c' H' n' _ W')=> Qah P F J B k b c' H' n' sc q (Qeb b W' W0) L
    | some (.done out H' n' _ W')=> some ⟨.fin out H' n',Qeb b W' W0,L⟩
    | none=> none)=some s->∃R W,SRJ P B c H n R W s.r/\∀i,i < b->(i∈s.W<->i∈W0\/i∈W):=by
    intro h;split at h
    ·rename_i c' H' n' R' W' hs;have hgo:GoJ P B c H n c' H' n' R' W':=Qdc hF hmix (QaM P B) QfB hu hs;obtain ⟨R,W,h1,h2⟩:=QbS hF hJ hmix k b c' H' n' sc q _ L s (hu.shape hgo.shape) h ha;refine ⟨_,_,hgo.srj h1,fun i hi=> ?_⟩;rw [h2 i hi,Qb0 hi,List.mem_append,or_assoc]
    ·rename_i out H' n' R' W' hs;have hdone:FJ P B c H n out H' n' R' W':=Qdc hF hmix (QaM P B) QfB hu hs;simp only [YO] at h;subst h;exact ⟨R',W',hdone,fun i hi=> Qb0 hi⟩
    ·cases h
   simp only [Qah] at h;split at h
   ·rename_i id ops draw todo hm ht;split at h
    ·rename_i r hr;cases hpan:r.pan with
     | none=>
       rw [hpan] at h;simp only at h;cases hd:(!draw || (Qd1 0 ops.toList && indep ops 0 r.recs (QnF ops.toList []))) with
       | false=> rw [hd] at h;cases h
       | true=>
         rw [hd] at h;simp only [cond_true] at h;have hL:Qas r.L:=by
          exact Qho b k _ _ _ _ _ _ _ s h ha
         obtain ⟨h1,h2,hreg⟩:=Qgq hF hJ (len:=c.tmps.len) ops.toList c.tmps H n sc q L r rfl hu hr hL;unfold RegOk at hreg;rw [hpan] at hreg;obtain ⟨h3,h4,h5⟩:=hreg;have hgo:=Qqj hmix hm ht h1 h2 h3 h4 hd;obtain ⟨R,W,k1,k2⟩:=QbS hF hJ hmix k b _ _ _ _ _ _ _ s h5 h ha;refine ⟨_,_,hgo.srj k1,fun i hi=> ?_⟩;rw [k2 i hi,Qb0 hi,List.mem_append,or_assoc]
     | some p=>
       obtain ⟨v,R1,W1⟩:=p;rw [hpan] at h;simp only at h;cases draw with
       | true=> cases h
       | false=>
         simp only [cond_false] at h;have hL:Qas r.L:=by
          exact Qho b k _ _ _ _ _ _ _ s h ha
         obtain ⟨h1,h2,hreg⟩:=Qgq hF hJ (len:=c.tmps.len) ops.toList c.tmps H n sc q L r rfl hu hr hL;unfold RegOk at hreg;rw [hpan] at hreg;have hgo:=QnB hm ht h1 h2 hreg;obtain ⟨_,_,_,_,_,_,_,_,_,h5⟩:=hreg;obtain ⟨R,W,k1,k2⟩:=QbS hF hJ hmix k b _ _ _ _ _ _ _ s h5 h ha;refine ⟨_,_,hgo.srj k1,fun i hi=> ?_⟩;rw [k2 i hi,Qb0 hi,List.mem_append (s:=QiL r.recs++W1),or_assoc]
    ·cases h
   ·rename_i f params assign body todo hm ht;split at h
    ·rename_i keys out ups n1 W1 sc' htold;split at h
     ·rename_i c' H' p hi;have hL:=Qho b k _ _ _ _ _ _ _ s h ha;obtain ⟨R0,hgo⟩:=Qt7 hF hmix hu hm ht hi hL.1;obtain ⟨R,W,h1,h2⟩:=QbS hF hJ hmix k b _ _ _ _ _ _ _ s (hu.shape hgo.shape) h ha;refine ⟨_,_,hgo.srj h1,fun i hi=> ?_⟩;rw [h2 i hi,Qb0 hi,List.mem_append,or_assoc]
     ·cases h
    ·rename_i keys out ups n1 W1 sc' htold;split at h
     ·rename_i c' H' p hi;have hL:=Qho b k _ _ _ _ _ _ _ s h ha;obtain ⟨R0,hgo⟩:=Qt4 hF hmix hu hm ht hi hL.1;obtain ⟨R,W,h1,h2⟩:=QbS hF hJ hmix k b _ _ _ _ _ _ _ s (hu.shape hgo.shape) h ha;refine ⟨_,_,hgo.srj h1,fun i hi=> ?_⟩;rw [h2 i hi,Qb0 hi,List.mem_append,or_assoc]
     ·cases h
    ·cases h
   ·exact plain h
end
end Go.CE

namespace Go.CE
open Go Go.RowKit

def Qh2 (H:Qar) (n:Nat):List Nat:=(List.range n).filter fun r=> Qbf (Qaw H r)
theorem Qqf {H:Qar} {n r:Nat}:r∈Qh2 H n<->r < n/\Qbf (Qaw H r)=true:=by simp [Qh2]
noncomputable def muM (n n1:Nat) (ρ:Nat->Nat) (μ μ':Mu) (fm:Nat->Option Obj):Mu:=fun i=> if i=n then some ⟨0,0,0,false,fm⟩ else if n < i/\i < n1 then μ' (ρ i) else μ i
structure Q1K (n n' n1:Nat) (W:List Nat) (μ μ':Mu) (H H' H1:Qar) (w':World) (ρ:Nat->Nat) (fk:List Nat):Prop where
 le:n < n1
 id:∀i,i < n->ρ i=i
 rng:∀i,n < i->i < n1->n<=ρ i/\ρ i < n'
 inj:∀i j,n < i->i < n1->n < j->j < n1->ρ i=ρ j->i=j
 under:Under H1 n1
 old:∀i,i < n->i ∉ W->Qaw H1 i=Qaw H i
 reg:Qaw H1 n=some Qbc
 obj:∀i o1,i < n1->(n < i\/i∈W/\i < n)->Qaw H1 i=some o1->¬QeK o1/\(live o1->∃o,Qaw H' (ρ i)=some o/\live o/\∀im,μ' (ρ i)=some im->OR μ' w' im o->OR (muM n n1 ρ μ μ' (fmU μ' H' w' (Qh2 H' n'++fk))) w' im o1)
 fz:∀k∈fk,n<=k/\k < n'/\(∃o,Qaw H' k=some o/\live o)/\∀i,n < i->i < n1->ρ i≠k
theorem Post.merge {B n n' n1:Nat} {W:List Nat} {μ μ':Mu} {H H' H1:Qar} {w w':World} {ρ:Nat->Nat} {fk:List Nat} (hok:Ok B (fun i=> i < n) μ (Qaw H) w) (hf:∀i,n<=i->μ i=none) (hp:Post B (fun i=> i < n) n n' W μ μ' H H' w w') (k:Q1K n n' n1 W μ μ' H H' H1 w' ρ fk):
 Post B (fun i=> i < n) n n1 W μ (muM n n1 ρ μ μ' (fmU μ' H' w' (Qh2 H' n'++fk))) H H1 w w':=by
 have le1:=k.le;have hlow:∀i,i < n->muM n n1 ρ μ μ' (fmU μ' H' w' (Qh2 H' n'++fk)) i=μ i:=fun i hi=> by unfold muM;rw [if_neg (by omega),if_neg (by omega)]
 have hhigh:∀i,n < i->i < n1->muM n n1 ρ μ μ' (fmU μ' H' w' (Qh2 H' n'++fk)) i=μ' (ρ i):=fun i h1 h2=> by unfold muM;rw [if_neg (by omega),if_pos ⟨h1,h2⟩]
 have hmid:muM n n1 ρ μ μ' (fmU μ' H' w' (Qh2 H' n'++fk)) n=some ⟨0,0,0,false,fmU μ' H' w' (Qh2 H' n'++fk)⟩:=by unfold muM;rw [if_pos rfl]
 have hext:Ext μ (muM n n1 ρ μ μ' (fmU μ' H' w' (Qh2 H' n'++fk))):=by
  intro i im him;rcases Nat.lt_or_ge i n with h | h
  ·rw [hlow i h];exact him
  ·rw [hf i h] at him;cases him
 generalize hM:muM n n1 ρ μ μ' (fmU μ' H' w' (Qh2 H' n'++fk))=μ1 at *;have obj:=k.obj;rw [hM] at obj
 -- an object of the new heap: an old one that was left, the region, or one of the run
 have other:∀i o im,i < n->i ∉ W->Qaw H i=some o->live o->μ i=some im->w'.heap[im.blk]? =w.heap[im.blk]? :=by
  intro i o im hi hw ho hl him;refine hp.frame _ (hok.low i o im hi ho hl him).1 fun q hq hqn im' him' hb=> ?_
  obtain ⟨_,⟨oq,hoq,hlq⟩,im2,him2,hr⟩:=hp.wr q hq hqn;rw [him'] at him2;cases him2;by_cases hra:im.rw=true
  ·exact hok.inj q i oq o im' im hqn hi (fun e=> hw (e ▸ hq)) hoq ho hlq hl him' him hr hra hb
  ·have a:=(hok.low i o im hi ho hl him).2.2 (by simpa using hra);have b:=(hok.low q oq im' hqn hoq hlq him').2.1 hr;omega
 have hS':∀i,i < n1->i≠n->(ρ i < n\/n<=ρ i/\ρ i < n'):=by
  intro i hi hne;rcases Nat.lt_or_ge i n with h | h
  ·exact .inl (by rw [k.id i h];exact h)
  ·exact .inr (k.rng i (by omega) hi)
 have hmuR:∀i,i < n1->i≠n->μ1 i=μ' (ρ i):=by
  intro i hi hne;rcases Nat.lt_or_ge i n with h | h
  ·rw [hlow i h,k.id i h,hp.ext i (by omega)]
  ·exact hhigh i (by omega) hi
 have hall:∀i,(i < n\/n<=i/\i < n1)->i < n1:=fun i hi=> hi.elim (fun e=> by omega) (fun e=> e.2)
 have liveH':∀i o1,i < n1->Qaw H1 i=some o1->live o1->i≠n/\∃o,Qaw H' (ρ i)=some o/\live o:=by
  intro i o1 hi ho hl;have hne:i≠n:=fun e=> by rw [e,k.reg] at ho;cases ho;exact hl.elim
  refine ⟨hne, ?_⟩;by_cases h:n < i\/i∈W/\i < n
  ·obtain ⟨o,h1,h2,_⟩:=(obj i o1 hi h ho).2 hl;exact ⟨o,h1,h2⟩
  ·have h1:i < n:=by omega
   have h2:i ∉ W:=fun e=> h (.inr ⟨e,h1⟩)
   rw [k.old i h1 h2] at ho;exact ⟨o1,by rw [k.id i h1,hp.keep i h1 h2];exact ho,hl⟩
 have hinj:∀i j,i < n1->j < n1->i≠n->j≠n->ρ i=ρ j->i=j:=by
  intro i j hi hj hin hjn e;rcases Nat.lt_or_ge i n with h | h <;> rcases Nat.lt_or_ge j n with h' | h'
  ·rw [k.id i h,k.id j h'] at e;exact e
  ·have:=k.rng j (by omega) hj;rw [k.id i h] at e;omega
  ·have:=k.rng i (by omega) hi;rw [k.id j h'] at e;omega
  ·exact k.inj i j (by omega) hi (by omega) hj e
 have regH1:∀i o,i < n1->Qaw H1 i=some o->QeK o->i=n\/(i < n/\i ∉ W/\Qaw H i=some o/\Qaw H' i=some o):=by
  intro i o hi ho hr;by_cases hne:i=n
  ·exact .inl hne
  ·by_cases h:n < i\/i∈W/\i < n
   ·exact absurd hr (obj i o hi h ho).1
   ·have h1:i < n:=by omega
    have h2:i ∉ W:=fun e=> h (.inr ⟨e,h1⟩)
    rw [k.old i h1 h2] at ho;exact .inr ⟨h1,h2,ho,by rw [hp.keep i h1 h2];exact ho⟩
 have deadW:∀q,q∈W->q < n->(∀o,Qaw H' q=some o->¬live o)->∀o,Qaw H1 q=some o->¬live o:=by
  intro q hq hqn hd o ho hl;obtain ⟨_,o',h5,h6⟩:=liveH' q o (by omega) ho hl;rw [k.id q hqn] at h5;exact hd o' h5 h6
 -- what stands in the region
 have fmCase:∀b x,fmU μ' H' w' (Qh2 H' n'++fk) b=some x->w'.heap[b]? =some x/\((∃r o im,r < n'/\Qaw H' r=some o/\QeK o/\μ' r=some im/\im.fm b=some x)\/∃q o im,q∈fk/\Qaw H' q=some o/\live o/\μ' q=some im/\im.blk=b):=by
  intro b x h;have hw:=Qdm h;refine ⟨hw, ?_⟩;unfold fmU at h;split at h
  ·rename_i hc;obtain ⟨i,hi,o,im,ho,him,hcase⟩:=hc;rcases List.mem_append.1 hi with hi | hi
   ·obtain ⟨hlt,hrb⟩:=Qqf.1 hi;obtain ⟨o',ho',hr'⟩:=Qd3 hrb;rw [ho] at ho';cases ho';rcases hcase with ⟨_,hne⟩ | ⟨hl,_⟩
    ·cases hx:im.fm b with
     | none=> exact absurd hx hne
     | some y=>
       obtain ⟨im',him',hf'⟩:=hp.ok.reg i o (by rcases Nat.lt_or_ge i n with h | h;exact .inl h;exact .inr ⟨h,hlt⟩) ho hr'
       rw [him] at him';cases him';have:=hf' b y hx;rw [hw] at this;cases this;exact .inl ⟨i,o,im,hlt,ho,hr',him,hx⟩
    ·exact absurd hl (by cases o <;> first | exact id | exact hr'.elim)
   ·obtain ⟨h1,h2,⟨o',ho',hl'⟩,_⟩:=k.fz i hi;rw [ho] at ho';cases ho';rcases hcase with ⟨hr,_⟩ | ⟨hl,hb⟩
    ·exact absurd hl' (by cases o <;> first | exact id | exact hr.elim)
    ·exact .inr ⟨i,o,im,hi,ho,hl,him,hb⟩
  ·cases h
 have hin':∀r,r < n'->(r < n\/n<=r/\r < n'):=fun r h=> by omega
 refine ⟨⟨fun i o hi ho hl=> ?_,fun i o im hi ho hl him=> ?_,fun i j oi oj a b hi hj hij hoi hoj hli hlj ha hb hra hrb=> ?_,fun i o hi ho hr=> ?_,fun i j oi oj a b x hi hj hoi hoj hri hlj ha hb hrb hx=> ?_⟩,by omega,fun i hi=> ?_,fun i hi hw=> k.old i hi hw,hp.grow,hp.frame,hp.wr,fun i im o h1 h2 ho hl him=> ?_,fun i im o hi ho hr him b x hx=> ?_,hp.os,hp.tape,hp.output⟩
 ·have hi1:=hall i hi;have hne:=(liveH' i o hi1 ho hl).1;by_cases h:n < i\/i∈W/\i < n
  ·obtain ⟨o',h1,h2,h4⟩:=(obj i o hi1 h ho).2 hl;obtain ⟨im,him,hor⟩:=hp.ok.rel (ρ i) o' (hS' i hi1 hne) h1 h2;exact ⟨im,by rw [hmuR i hi1 hne];exact him,h4 im him hor⟩
  ·have h1:i < n:=by omega
   have h2:i ∉ W:=fun e=> h (.inr ⟨e,h1⟩)
   rw [k.old i h1 h2] at ho;obtain ⟨im,him,hor⟩:=hok.rel i o h1 ho hl;exact ⟨im,hext _ _ him,hor.keep hext (other i o im h1 h2 ho hl him)⟩
 ·have hi1:=hall i hi;obtain ⟨hne,o',h1,h2⟩:=liveH' i o hi1 ho hl;rw [hmuR i hi1 hne] at him;exact hp.ok.low (ρ i) o' im (hS' i hi1 hne) h1 h2 him
 ·have hi1:=hall i hi;have hj1:=hall j hj;obtain ⟨hni,o1,h1,h2⟩:=liveH' i oi hi1 hoi hli;obtain ⟨hnj,o2,h3,h4⟩:=liveH' j oj hj1 hoj hlj;rw [hmuR i hi1 hni] at ha;rw [hmuR j hj1 hnj] at hb;exact hp.ok.inj (ρ i) (ρ j) o1 o2 a b (hS' i hi1 hni) (hS' j hj1 hnj) (fun e=> hij (hinj i j hi1 hj1 hni hnj e)) h1 h3 h2 h4 ha hb hra hrb
 ·rcases regH1 i o (hall i hi) ho hr with hin | ⟨h1,h2,h3,h4⟩
  ·rw [hin];exact ⟨_,hmid,fun b x h=> Qdm h⟩
  ·obtain ⟨im,him,hf'⟩:=hp.ok.reg i o (.inl h1) h4 hr;rw [hp.ext i (by omega)] at him;exact ⟨im,hext _ _ him,hf'⟩
 ·have hj1:=hall j hj;obtain ⟨hnj,o2,h3,h4⟩:=liveH' j oj hj1 hoj hlj;rw [hmuR j hj1 hnj] at hb;rcases regH1 i oi (hall i hi) hoi hri with hin | ⟨h1,h2,h5,h6⟩
  ·rw [hin,hmid] at ha;cases ha;obtain ⟨_,hcase⟩:=fmCase _ _ hx;rcases hcase with ⟨r,o,im,hlt,ho,hr,him,hfx⟩ | ⟨q,o,im,hq,ho,hl,him,hbb⟩
   ·exact hp.ok.sep r (ρ j) o o2 im b x (hin' r hlt) (hS' j hj1 hnj) ho h3 hr h4 him hb hrb hfx
   ·obtain ⟨q1,q2,_,q3⟩:=k.fz q hq;have hne:q≠ρ j:=by
     intro e;rcases Nat.lt_or_ge j n with h | h
     ·rw [k.id j h] at e;omega
     ·exact q3 j (by omega) hj1 e.symm
    have hrw:=(hp.fresh q im o q1 q2 ho hl him).1;exact hp.ok.inj q (ρ j) o o2 im b (hin' q q2) (hS' j hj1 hnj) hne ho h3 hl h4 him hb hrw hrb hbb
  ·rw [hlow i h1] at ha;exact hp.ok.sep i (ρ j) oi o2 a b x (.inl h1) (hS' j hj1 hnj) h6 h3 hri h4 (by rw [hp.ext i (by omega)];exact ha) hb hrb hx
 ·rw [<-hM];unfold muM;rw [if_neg (by omega),if_neg (by omega)]
 ·obtain ⟨hne,o',h3,h4⟩:=liveH' i o h2 ho hl;rw [hmuR i h2 hne] at him;obtain ⟨a,b⟩:=k.rng i (by omega) h2;obtain ⟨hr,hfr⟩:=hp.fresh (ρ i) im o' a b h3 h4 him;exact ⟨hr,hfr.imp id fun ⟨q,hq,hqn,hb,hd⟩=> ⟨q,hq,hqn,hb,deadW q hq hqn hd⟩⟩
 ·have hi1:i < n1:=by omega
  rcases regH1 i o hi1 ho hr with hin | ⟨h1,h2,_⟩
  ·rw [hin,hmid] at him;cases him;obtain ⟨_,hcase⟩:=fmCase _ _ hx;rcases hcase with ⟨r,o,im,hlt,ho,hr,him,hfx⟩ | ⟨q,o,im,hq,ho,hl,him,hbb⟩
   ·by_cases hx:n<=r/\r < n'\/r∈W/\r < n
    ·rcases hp.rf r im o hx ho hr him b x hfx with c | c | ⟨q,hq,hqn,hb,hd⟩
     ·exact .inl c
     ·exact .inr (.inl c)
     ·exact .inr (.inr ⟨q,hq,hqn,hb,deadW q hq hqn hd⟩)
    ·have h:r < n:=by omega
     rw [hp.keep r h fun e=> hx (.inr ⟨e,h⟩)] at ho;rw [hp.ext r (by omega)] at him;exact .inr (.inl ⟨r,im,o,h,h,ho,hr,him,hfx⟩)
   ·obtain ⟨q1,q2,_,_⟩:=k.fz q hq;rcases (hp.fresh q im o q1 q2 ho hl him).2 with c | ⟨q',hq',hqn,⟨im',him',hb'⟩,hd⟩
    ·exact .inl (by omega)
    ·exact .inr (.inr ⟨q',hq',hqn,⟨im',him',by omega⟩,deadW q' hq' hqn hd⟩)
  ·rcases hi with hi | hi
   ·omega
   ·exact absurd hi.1 h2
end Go.CE
