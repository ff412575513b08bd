/- SE 4: runs of which something is told. -/
import Derived.Test.YtncjjangllkokaaZRP07
import Derived.IntWalk
set_option linter.all false
namespace Go.CE
open Go Go.RowKit

def Qa2:List Prop->Prop
 | []=> True
 | p::l=> p/\Qa2 l
abbrev QsW:=List (Nat×Hint)
def told (sc:QsW) (q:Nat):Option Hint×QsW:=match sc with
 | (k,h)::l=> bif Nat.beq k q then (some h,l) else (none,sc)
 | []=> (none,[])
structure RR where
 recs:List Rec
 T:Tm
 H:Qan
 n:Nat
 sc:QsW
 q:Nat
 L:List Prop
def more (p:Option Prop) (L:List Prop):List Prop:=match p with | some p=> p::L | none=> L
def Q2M (P:Program) (F:FuncId->Bool) (B:Lo) (ops:Array Oper):List Oper->Tm->Qan->Nat->QsW->Nat->List Prop->Option RR
 | [],T,H,n,sc,q,L=> some ⟨[],T,H,n,sc,q,L⟩
 | o::l,T,H,n,sc,q,L=>
   bif Qg4 T o.dst then
    bif Region.wanted o (QaU ops T) then
     match told sc q with
     | (h,sc')=> match opH P F B T o H n h with
       | some ⟨⟨.ret v,H1,n1,R,W⟩,p⟩=> match Q2M P F B ops l (QeV T o.dst v) H1 n1 sc' (q+1) (more p L) with
         | some r=> some {r with recs:=⟨o,true,v,T,H,H1,n,n1,R,W⟩::r.recs}
         | none=> none
       | _=> none
    else match Q2M P F B ops l (QeV T o.dst undef) H n sc (q+1) L with
     | some r=> some {r with recs:=⟨o,false,undef,T,H,H,n,n,[],[]⟩::r.recs}
     | none=> none
   else none
inductive SR where
 | at (c:CF) (H:Qan) (n:Nat)
 | fin (out:OO) (H:Qan) (n:Nat)
structure ST where
 r:SR
 W:List Nat
 L:List Prop
def Q1B (P:Program) (F:FuncId->Bool) (B:Lo) (c:CF) (H:Qan) (n:Nat) (f:Operand) (params:Array Tmp) (assign body:Code) (k:List Item) (keys:List Nat) (out:Value) (ups:Qan) (n':Nat) (W:List Nat):Option (CF×Qan×Prop):=
 match evC c.tmps f with
 | some fv=> match Qdj c H n params assign body with
   | some (H1,l,ds,_)=> match Qhh F H1 fv #[.func (.yield l) #[] #[]] with
     | some (.enter g args,_)=> match QbQ P g args with
       | some c1=> some ({c with todo:=.endRangeFunc l::k,defers:=ds++c.defers},ups++H1,RJ P B c1 (keys.map fun k=> (k,Qao H1 k)) (l+1) out ups n' W)
       | none=> none
     | _=> none
   | none=> none
 | none=> none
section
variable {P:Program} {F:FuncId->Bool} {B:Lo}
theorem QiK {p:Option Prop} {L:List Prop} (h:Qa2 (more p L)):(∀x,p=some x->x)/\Qa2 L:=by
 cases p with
 | none=> exact ⟨(fun x h=> by cases h),h⟩
 | some p=> exact ⟨(fun x e=> by cases e;exact h.1),h.2⟩
theorem Qo7 {c:CF} {H:Qan} {n:Nat} (hmix:P.follows .mixedOrders=true) {id:Nat} {ops:Array Oper} {draw:Bool} {k:List Item} {recs:List Rec} {T':Tm} {H':Qan} {n':Nat} (hm:c.mode=.run)
 (ht:c.todo=.code (.region id ops draw)::k) (hs:∀x∈recs,QpQ c.tmps.len x) (hk:∀x∈recs,QgS P B ops x) (hch:Qe1 recs c.tmps H n T' H' n') (hmap:recs.map (·.o)=ops.toList) (hd:(!draw || (Qcw 0 ops.toList && indep ops 0 recs (QiG ops.toList [])))=true):
 GoJ P B c H n {c with tmps:=T',todo:=k} H' n' (QgJ recs) (QeY recs):=by
 have hown:=Qdd (l:=ops.toList) (l2:=[]) (by rw [List.append_nil];exact hmap) rfl;have hlen:recs.length=ops.size:=by have:=congrArg List.length hmap;simpa using this
 refine ⟨Qb7 recs _ _ _ _ _ _ hch hs,fun S μ w fr cs Z hok hB hS hf hfr hR=> ?_⟩;obtain ⟨a,b,d⟩:=hfr.running hm;rw [ht] at d;obtain ⟨L',e,hL⟩:=d.code;cases draw with
 | false=>
   obtain ⟨μ',A',w',hp,hT,hst⟩:=QhF (fr:=fr) (cs:=cs) (k:=L') a recs 0 c.tmps H n T' H' n' [] hch hs hk (fun j r hj=> by rw [Nat.zero_add];exact hown j r hj) rfl S μ w fr.tmps hok hB hS hf hR b;rw [List.append_nil,hlen] at hst;exact ⟨{fr with tmps:=A',todo:=L'},w',μ',hp,⟨hfr.fn,hT,fun _=> hL.mono (hp.mu hf),hfr.defers.mono (hp.mu hf),hfr.mode.mono (hp.mu hf),hfr.kind,hfr.round.mono (hp.mu hf)⟩,rfl,rfl,
    .head (QbB a e) (hst.trans (.one (Qcx a)))⟩
 | true=>
   simp only [Bool.not_true,Bool.false_or,YB] at hd;have hedge:∀(q:Nat) o,ops[q]? =some o->∀e∈o.after,Region.binds .any e=true->e.on < q:=by
    intro q o ho e he hb;have:=Qel ops.toList 0 hd.1 q o (by rw [Array.getElem?_toList];exact ho) e he hb;omega
   have hbef:=Qsa ops.toList (fun q o ho=> hedge q o (by simpa using ho));have QeO:Setup P B ops recs (QiG ops.toList []) c.tmps H n T' H' n':=⟨hch,hs,hown,hlen,by simpa using hbef.1,QfH recs _ 0 hd.2,hedge⟩
   obtain ⟨μ',A',w',hp,hT,hst⟩:=QkQ hmix QeO hk hok hS hR hf hB (fr:=fr) (cs:=cs) (id:=id) (k:=L') a b e;exact ⟨{fr with tmps:=A',todo:=L'},w',μ',hp,⟨hfr.fn,hT,fun _=> hL.mono (hp.mu hf),hfr.defers.mono (hp.mu hf),hfr.mode.mono (hp.mu hf),hfr.kind,hfr.round.mono (hp.mu hf)⟩,rfl,rfl,hst⟩
def SRJ (P:Program) (B:Lo) (c:CF) (H:Qan) (n:Nat) (R W:List Nat):SR->Prop
 | .at c' H' n'=> GoJ P B c H n c' H' n' R W
 | .fin out H' n'=> FJ P B c H n out H' n' R W
theorem GoJ.srj {c c':CF} {H H':Qan} {n n':Nat} {R R' W W':List Nat} {r:SR} (h:GoJ P B c H n c' H' n' R W) (k:SRJ P B c' H' n' R' W' r):SRJ P B c H n (R++R') (W++W') r:=by
 cases r with
 | «at»=> exact h.trans k
 | fin=> exact h.fj k
theorem Qsu (hF:∀g,F g=true->Qa3 P g=true) (hmix:P.follows .mixedOrders=true) {c c':CF} {H H':Qan} {n n':Nat} {f:Operand} {params:Array Tmp} {assign body:Code} {k:List Item} {keys W:List Nat} {out:Value} {ups:Qan} {p:Prop} (hu:Under H n) (hm:c.mode=.run) (ht:c.todo=.code (.rangeFunc f params assign body)::k)
 (h:Q1B P F B c H n f params assign body k keys out ups n' W=some (c',H',p)) (hp:p):∃R,GoJ P B c H n c' H' n' R W:=by
 unfold Q1B at h;split at h
 ·rename_i fv hfv;split at h
  ·rename_i H1 l ds R1 ho;split at h
   ·rename_i g args R2 hc;split at h
    ·rename_i c1 he;simp only [YO,YR] at h;obtain ⟨rfl,rfl,rfl⟩:=h;have hu1:Under H1 (l+1):=hu.shape (Qge (P:=P) (B:=B) hu ho).1;have hrec:=RJ.recS hu1 hp;refine ⟨R1++R2++keys, ?_⟩;have:Qg9 P F QaK (QgI c1 H1 (l+1) ⟨.ret out,ups++H1,n',keys,W⟩) c H n=some (.go {c with todo:=.endRangeFunc l::k,defers:=ds++c.defers} (ups++H1) n' (R1++R2++keys) W):=by
      unfold Qg9;simp only [hm,ht,hfv,ho,hc,he,Qfx]
     exact Qcr hF hmix (Qaz P B) hrec hu this
    ·cases h
   ·cases h
  ·cases h
 ·cases h
end
end Go.CE

namespace Go.CE
open Go Go.RowKit

def distinct:List Nat->Bool
 | []=> true
 | a::l=> l.all (fun b=> !(Nat.beq a b)) && distinct l
theorem QdZ {l:List Nat} (h:distinct l=true):∀(i j:Nat) a,l[i]? =some a->l[j]? =some a->i=j:=by
 induction l with
 | nil=> intro i j a hi;simp at hi
 | cons b l ih=>
   simp only [distinct,YB] at h;have hne:∀a∈l,a≠b:=by
    intro a ha e;have:=List.all_eq_true.1 h.1 a ha;rw [e] at this;simp at this
   intro i j a hi hj;cases i with
   | zero=>
     cases j with
     | zero=> rfl
     | succ j=>
       simp only [List.getElem?_cons_zero,YO,List.getElem?_cons_succ] at hi hj;exact absurd hi.symm (hne a (List.mem_of_getElem? hj))
   | succ i=>
     cases j with
     | zero=>
       simp only [List.getElem?_cons_zero,YO,List.getElem?_cons_succ] at hi hj;exact absurd hj.symm (hne a (List.mem_of_getElem? hi))
     | succ j=>
       simp only [List.getElem?_cons_succ] at hi hj;rw [ih h.2 i j a hi hj]
section
variable {P:Program} {F:FuncId->Bool} {B:Lo}
end
def nav:Code->List Nat->Code
 | c,[]=> c
 | .seq a b,k::l=> bif Nat.beq k 0 then nav a l else nav b l
 | .cond _ a b,k::l=> bif Nat.beq k 0 then nav a l else nav b l
 | .block _ a,_::l=> nav a l
 | .loop a,_::l=> nav a l
 | .scope a,_::l=> nav a l
 | .rangeFunc _ _ a b,k::l=> bif Nat.beq k 0 then nav a l else nav b l
 | c,_=> c
def QaB (P:Program) (f:FuncId):Code:=match nth P.funcs.toList f with
 | some fn=> match fn.body with
   | some c=> c
   | none=> .skip
 | none=> .skip
inductive It where
 | code (l:List Nat)
 | inBlock (k:Nat)
 | inLoop (l:List Nat)
 | inScope (l:List Nat)
def it (b:Code):It->Item
 | .code l=> .code (nav b l)
 | .inBlock k=> .inBlock k
 | .inLoop l=> .inLoop (nav b l)
 | .inScope l=> .inScope (nav b l)
def Qaj (P:Program) (f:FuncId) (len:Nat) (args:List Value):CF:=⟨f,ofList len args,[.code (QaB P f)],[],.run,none⟩
end Go.CE

namespace Go.CE
open Go Go.RowKit

theorem QaH {x:Int} (h1: -9223372036854775808<=x) (h2:x<=9223372036854775807):wq x=x:=by
 rw [Q2T];exact IntWalk.i64_in _ ⟨h1,h2⟩
theorem Qfl {x:Int} (h1: -9223372036854775808<=x) (h2:x<=9223372036854775807):IntKind.i64.wrap x=x:=IntWalk.i64_in _ ⟨h1,h2⟩
theorem QbD {a b:Int} (h:a < b):ltq a b=true:=by rw [QsD];simpa using h
theorem QbI {a b:Int} (h:b<=a):ltq a b=false:=by rw [QsD];simpa using h
theorem Qd2 {a b:Int} (h:b<=a):(!ltq a b)=true:=by rw [QbI h];rfl
theorem Qd3 {a b:Int} (h:a < b):(!ltq a b)=false:=by rw [QbD h];rfl
theorem QnZ {a b:Int} (h:a=b):eqq a b=true:=by rw [Qjj];simpa using h
theorem Qnt {a b:Int} (h:a≠b):eqq a b=false:=by rw [Qjj];simpa using h

section
variable {P:Program} {B:Lo}
end
end Go.CE
namespace Go.CE
open Go Go.RowKit
section
variable {P:Program} {B:Lo}
end
end Go.CE

namespace Go.CE
open Go Go.RowKit

theorem TRv.mono {fm fm':Nat->Option Obj} (h:∀b x,fm b=some x->fm' b=some x) {t v:Value} (ht:TRv fm t v):TRv fm' t v:=by
 induction ht with
 | simple h=> exact .simple h
 | agg h1 _ ih=> exact .agg h1 ih
 | tuple h1 _ ih=> exact .tuple h1 ih
 | iface _ ih=> exact .iface ih
 | func h1 h2 _ _ ih1 ih2=> exact .func h1 h2 ih1 ih2
 | slice h1 h2 h3 h4 _ ih=> exact .slice h1 h2 (h _ _ h3) h4 ih
 | nil=> exact .nil
 | empty h=> exact .empty h
 | ptr h1 h2 _ ih=> exact .ptr (h _ _ h1) h2 ih
theorem TRv.simple_eq {fm:Nat->Option Obj} {t v:Value} (h:CE.simple t=true) (ht:TRv fm t v):v=t:=by
 cases ht with
 | simple _=> rfl
 | func h1 h2 _ _=>
   simp only [CE.simple,YB,beq_iff_eq] at h;have e1:=Array.eq_empty_of_size_eq_zero h.1;have e2:=Array.eq_empty_of_size_eq_zero h.2;subst e1 e2;rw [Array.eq_empty_of_size_eq_zero h1.symm,Array.eq_empty_of_size_eq_zero h2.symm]
 | agg _ _=> cases h
 | tuple _ _=> cases h
 | iface _=> cases h
 | slice _ _ _ _ _=> cases h
 | nil=> cases h
 | empty _=> cases h
 | ptr _ _ _=> cases h
def Qce (r:Nat) (v:Value):Value:=bif simple v then v else Qaq r v
def Qau (r:Nat):Nat->Value->Value
 | 0,v=> Qce r v
 | f+1,v=> match v with
   | .agg xs=> .agg (xs.map (Qau r f))
   | .tuple xs=> .tuple (xs.map (Qau r f))
   | .iface t x=> .iface t (Qau r f x)
   | .func (.func g) xs ys=> .func (.func g) (xs.map (Qau r f)) (ys.map (Qau r f))
   | v=> Qce r v
def okT:Nat->Value->Bool
 | 0,v=> simple v || QcT v
 | f+1,v=> match v with
   | .agg xs=> xs.all (okT f)
   | .tuple xs=> xs.all (okT f)
   | .iface _ x=> okT f x
   | .func (.func _) xs ys=> xs.all (okT f) && ys.all (okT f)
   | v=> simple v || QcT v
section
variable {μ:Mu} {r:Nat} {im:Img}
theorem Qht (hr:μ r=some im) {v v':Value} (ho:(simple v || QcT v)=true) (h:TRv im.fm v v'):VR μ (Qce r v) v':=by
 unfold Qce;cases hs:simple v with
 | true=> rw [h.simple_eq hs];exact Qb2 hs
 | false=>
   rw [hs] at ho;exact .top (by simpa using ho) hr h
theorem QfA (hr:μ r=some im):∀(f:Nat) (v v':Value),okT f v=true->TRv im.fm v v'->VR μ (Qau r f v) v'
 | 0,v,v',ho,h=> Qht hr ho h
 | f+1,v,v',ho,h=> by
   have arr:∀{xs xs':Array Value},xs.all (okT f)=true->xs.size=xs'.size->(∀(i:Nat) v v',xs[i]? =some v->xs'[i]? =some v'->TRv im.fm v v')->(xs.map (Qau r f)).size=xs'.size/\∀(i:Nat) v v',(xs.map (Qau r f))[i]? =some v->xs'[i]? =some v'->VR μ v v':=by
    intro xs xs' ha hs hx;refine ⟨by simpa using hs,fun i v v' hv hv'=> ?_⟩;rw [Array.getElem?_map] at hv;cases hy:xs[i]? with
    | none=> rw [hy] at hv;cases hv
    | some y=>
      rw [hy] at hv;simp only [Option.map_some,YO] at hv;subst hv;exact QfA hr f y v' (Array.all_eq_true'.1 ha y (Array.mem_of_getElem? hy)) (hx i y v' hy hv')
   cases v with
   | agg xs=>
     cases h with
     | simple h=> cases h
     | agg h1 h2=> exact .agg (arr ho h1 h2).1 (arr ho h1 h2).2
   | tuple xs=>
     cases h with
     | simple h=> cases h
     | tuple h1 h2=> exact .tuple (arr ho h1 h2).1 (arr ho h1 h2).2
   | iface t x=>
     cases h with
     | simple h=> cases h
     | iface h=> exact .iface (QfA hr f x _ ho h)
   | func fn xs ys=>
     cases fn with
     | func g=>
       have ho:(xs.all (okT f) && ys.all (okT f))=true:=ho;simp only [YB] at ho;cases h with
       | simple hs=>
         simp only [simple,YB,beq_iff_eq] at hs;have e1:=Array.eq_empty_of_size_eq_zero hs.1;have e2:=Array.eq_empty_of_size_eq_zero hs.2;subst e1 e2;exact .func (by simp) (by simp) (fun i v v' hv=> by simp at hv) (fun i v v' hv=> by simp at hv)
       | func h1 h2 h3 h4=> exact .func (arr ho.1 h1 h3).1 (arr ho.2 h2 h4).1 (arr ho.1 h1 h3).2 (arr ho.2 h2 h4).2
     | _=> exact Qht hr (by exact ho) h
   | _=> exact Qht hr ho h
end
def Qii:Nat->Value->Bool
 | 0,v=> simple v
 | f+1,v=> match v with
   | .agg xs=> xs.all (Qii f)
   | .tuple xs=> xs.all (Qii f)
   | .iface _ x=> Qii f x
   | v=> simple v
theorem Qlr {μ:Mu} {fm:Nat->Option Obj}:∀(f:Nat) (v v':Value),Qii f v=true->TRv fm v v'->VR μ v v'
 | 0,v,v',ho,h=> by rw [h.simple_eq ho];exact Qb2 ho
 | f+1,v,v',ho,h=> by
   have arr:∀{xs xs':Array Value},xs.all (Qii f)=true->(∀(i:Nat) v v',xs[i]? =some v->xs'[i]? =some v'->TRv fm v v')->∀(i:Nat) v v',xs[i]? =some v->xs'[i]? =some v'->VR μ v v':=
    fun ha hx i v v' hv hv'=> Qlr f v v' (Array.all_eq_true'.1 ha v (Array.mem_of_getElem? hv)) (hx i v v' hv hv')
   cases v with
   | agg xs=>
     cases h with
     | simple h=> cases h
     | agg h1 h2=> exact .agg h1 (arr ho h2)
   | tuple xs=>
     cases h with
     | simple h=> cases h
     | tuple h1 h2=> exact .tuple h1 (arr ho h2)
   | iface t x=>
     cases h with
     | simple h=> cases h
     | iface h=> exact .iface (Qlr f x _ ho h)
   | _=>
     rw [TRv.simple_eq (by exact ho) h];exact Qb2 (by exact ho)
def QaJ:Option Obj->Bool
 | some (.coro _)=> true
 | _=> false
theorem Qby {o:Option Obj} (h:QaJ o=true):∃x,o=some x/\Qcu x:=by
 cases o with
 | none=> cases h
 | some x=> cases x <;> first | exact ⟨_,rfl,trivial⟩ | cases h
def QqO:Value->Option (Nat×Nat×Array Value)
 | .func (.via r ⟨[]⟩ 0 true) ⟨[.func (.via n ⟨[]⟩ 0 false) ⟨[]⟩ cs]⟩ ⟨[]⟩=> some (r,n,cs)
 | _=> none
def Qx4:Value->Option (Nat×Nat×Array Value)
 | .func (.via r ⟨[]⟩ 0 true) ⟨[.func (.via off ⟨[]⟩ 1 true) ⟨[]⟩ cs]⟩ ⟨[]⟩=> some (r,off,cs)
 | _=> none
theorem QgD {v:Value} {r n:Nat} {cs:Array Value} (h:QqO v=some (r,n,cs)):v=Qaq r (slT n cs):=by
 unfold QqO at h;split at h
 ·simp only [YO,YR] at h;obtain ⟨rfl,rfl,rfl⟩:=h;rfl
 ·cases h
theorem QmY {v:Value} {r off:Nat} {cs:Array Value} (h:Qx4 v=some (r,off,cs)):v=Qaq r (ptT off cs):=by
 unfold Qx4 at h;split at h
 ·simp only [YO,YR] at h;obtain ⟨rfl,rfl,rfl⟩:=h;rfl
 ·cases h
theorem VR.top_inv {μ:Mu} {r:Nat} {t v':Value} (h:VR μ (Qaq r t) v'):∃im,μ r=some im/\TRv im.fm t v':=by
 cases h with
 | top _ h1 h2=> exact ⟨_,h1,h2⟩
theorem TRv.slice_inv {fm:Nat->Option Obj} {n:Nat} {cs:Array Value} {v':Value} (h:TRv fm (slT n cs) v'):((∃b o c' arr t fl,v'=.slice (some ⟨b,o,none⟩) n c'/\n<=c'/\c'<=maxLen/\fm b=some (.cells arr t fl)/\(∀i,i < cs.size->o+i < arr.size)/\(∀(i:Nat) v v',cs[i]? =some v->arr[o+i]? =some v'->TRv fm v v'))\/
 (n=0/\cs=#[]/\∃a c',v'=.slice a 0 c'/\c'<=maxLen)):=by
 cases h with
 | simple h=> cases h
 | slice h1 h2 h3 h5 h6=> exact .inl ⟨_,_,_,_,_,_,rfl,h1,h2,h3,h5,h6⟩
 | nil=> exact .inr ⟨rfl,rfl,none,0,rfl,Nat.zero_le _⟩
 | empty h=> exact .inr ⟨rfl,rfl,_,_,rfl,h⟩
theorem TRv.ptr_inv {fm:Nat->Option Obj} {off:Nat} {cs:Array Value} {v':Value} (h:TRv fm (ptT off cs) v'):∃b o arr t fl,v'=.pointer (some ⟨b,o+off,none⟩)/\fm b=some (.cells arr t fl)/\(∀i,i < cs.size->o+i < arr.size)/\(∀(i:Nat) v v',cs[i]? =some v->arr[o+i]? =some v'->TRv fm v v'):=by
 cases h with
 | simple h=> cases h
 | ptr h1 h2 h3=> exact ⟨_,_,_,_,_,rfl,h1,h2,h3⟩
end Go.CE

namespace Go.CE
open Go Go.RowKit

def TRvs (fm:Nat->Option Obj) (xs xs':Array Value):Prop:=xs.size=xs'.size/\∀(i:Nat) v v',xs[i]? =some v->xs'[i]? =some v'->TRv fm v v'
def QpR (fm:Nat->Option Obj) (w w':World) (b:Nat):Option Obj:=if b < w.heap.size then fm b else w'.heap[b]?
def Qaw (P:Program) (J:World->Prop) (g:FuncId) (targs:Array Value) (out:Value):Prop:=
 ∀(fm:Nat->Option Obj) (w:World) (args':Array Value),J w->(∀b x,fm b=some x->w.heap[b]? =some x)->TRvs fm targs args'->
  Calls P g args' w fun e w'=> ∃v',e=.returned v'/\Below w.heap.size w w'/\TRv (QpR fm w w') out v'
structure Fz where
 k:Nat
 rs:List Nat
 cs:Array Value
def Qo1:List Fz->Nat->Option Fz
 | [],_=> none
 | x::l,k=> bif Nat.beq x.k k then some x else Qo1 l k
def Qqt (rs:List Nat) (v v1:Value):Prop:=(simple v=true/\v1=v)\/∃r∈rs,v=Qaq r v1/\QcT v1=true
def Qcv (rs:List Nat) (cs cs1:Array Value):Prop:=cs.size=cs1.size/\∀(i:Nat) v v1,cs[i]? =some v->cs1[i]? =some v1->Qqt rs v v1
theorem Qhb {rs:List Nat} {cs:Array Value} (h:cs.all simple=true):Qcv rs cs cs:=⟨rfl,fun i v v1 h1 h2=> by
 rw [h1] at h2;cases h2;exact .inl ⟨Array.all_eq_true'.1 h v (Array.mem_of_getElem? h1),rfl⟩⟩
def isNil:Value->Bool
 | .slice none 0 0=> true
 | _=> false
theorem Qyz {v:Value} (h:isNil v=true):v=.slice none 0 0:=by
 unfold isNil at h;split at h
 ·rfl
 ·cases h
def QsV (H:Qan) (fz:List Fz) (v:Value):Option (Value×List Nat×List Prop):=bif isNil v then some (slT 0 #[],[],[]) else bif simple v then some (v,[],[]) else match v with
 | .func (.via r ⟨[]⟩ 0 true) ⟨[t]⟩ ⟨[]⟩=> bif QaJ (Qao H r) then some (t,[r],[]) else none
 | .slice (some ⟨k,0,none⟩) n _=> match Qo1 fz k,Qao H k with
   | some x,some (.cells cs _ (0,0))=> bif x.rs.all fun r=> QaJ (Qao H r) then some (slT n x.cs,k::x.rs,[Qcv x.rs cs x.cs]) else none
   | _,_=> none
 | .pointer (some ⟨k,o,none⟩)=> match Qo1 fz k,Qao H k with
   | some x,some (.cells cs _ (0,0))=> bif x.rs.all fun r=> QaJ (Qao H r) then some (ptT o x.cs,k::x.rs,[Qcv x.rs cs x.cs]) else none
   | _,_=> none
 | _=> none
def QdE (f:Value->Option (Value×List Nat×List Prop)):List Value->Option (List Value×List Nat×List Prop)
 | []=> some ([],[],[])
 | v::l=> match f v with
   | some (t,R,L)=> match QdE f l with
     | some (ts,R2,L2)=> some (t::ts,R++R2,L++L2)
     | none=> none
   | none=> none
def QcU (H:Qan) (fz:List Fz):Nat->Value->Option (Value×List Nat×List Prop)
 | 0,v=> QsV H fz v
 | f+1,v=> match v with
   | .agg xs=> match QdE (QcU H fz f) xs.toList with
     | some (l,R,L)=> some (.agg l.toArray,R,L)
     | none=> none
   | .tuple xs=> match QdE (QcU H fz f) xs.toList with
     | some (l,R,L)=> some (.tuple l.toArray,R,L)
     | none=> none
   | .iface t x=> match QcU H fz f x with
     | some (x,R,L)=> some (.iface t x,R,L)
     | none=> none
   | .func (.func g) xs ys=> match QdE (QcU H fz f) xs.toList with
     | some (l,R,L)=> match QdE (QcU H fz f) ys.toList with
       | some (m,R2,L2)=> some (.func (.func g) l.toArray m.toArray,R++R2,L++L2)
       | none=> none
     | none=> none
   | v=> QsV H fz v
theorem QaE {a b:List Prop} (h:Qa2 (a++b)):Qa2 a/\Qa2 b:=by
 induction a with
 | nil=> exact ⟨trivial,h⟩
 | cons x a ih=> exact ⟨⟨h.1,(ih h.2).1⟩,(ih h.2).2⟩
noncomputable def fmU (μ:Mu) (H:Qan) (w:World) (R:List Nat) (b:Nat):Option Obj:=
 open Classical in if ∃i∈R,∃o im,Qao H i=some o/\μ i=some im/\((Qcu o/\im.fm b≠none)\/(live o/\im.blk=b)) then w.heap[b]? else none
section
variable {B:Nat} {S:Nat->Prop} {μ:Mu} {H:Qan} {w:World} {fz:List Fz}
theorem Qcp {R:List Nat} {b:Nat} {x:Obj} (h:fmU μ H w R b=some x):w.heap[b]? =some x:=by
 unfold fmU at h;split at h
 ·exact h
 ·cases h
theorem QiZ {R R':List Nat} (hs:∀i∈R,i∈R') {b:Nat} {x:Obj} (h:fmU μ H w R b=some x):fmU μ H w R' b=some x:=by
 have hw:=Qcp h;unfold fmU at h ⊢;split at h
 ·rename_i hc;obtain ⟨i,hi,r⟩:=hc;rw [if_pos ⟨i,hs i hi,r⟩];exact hw
 ·cases h
theorem QnN (hok:Ok B S μ (Qao H) w) {R:List Nat} {r:Nat} (hr:r∈R) (hS:S r) (hg:QaJ (Qao H r)=true) {im:Img} (him:μ r=some im) {b:Nat} {x:Obj} (hx:im.fm b=some x):fmU μ H w R b=some x:=by
 obtain ⟨o,ho,hreg⟩:=Qby hg;obtain ⟨im',him',hf⟩:=hok.reg r o hS ho hreg;rw [him] at him';cases him';unfold fmU;rw [if_pos ⟨r,hr,o,im,ho,him,.inl ⟨hreg,by rw [hx];simp⟩⟩];exact hf b x hx
theorem Qod {R:List Nat} {k:Nat} (hk:k∈R) {o:Obj} (hg:Qao H k=some o) (hl:live o) {im:Img} (him:μ k=some im):fmU μ H w R im.blk=w.heap[im.blk]? :=by
 unfold fmU;rw [if_pos ⟨k,hk,o,im,hg,him,.inr ⟨hl,rfl⟩⟩]
theorem QgU (hok:Ok B S μ (Qao H) w) {k:Nat} (hS:S k) {cs:Array Value} {t:TypeId} (hg:Qao H k=some (.cells cs t (0,0))):∃im arr,μ k=some im/\im.rw=true/\im.off=0/\w.heap[im.blk]? =some (.cells arr t (0,0))/\cs.size<=arr.size/\arr.size=im.cap/\∀(i:Nat) v,cs[i]? =some v->∃v',arr[i]? =some v'/\VR μ v v':=by
 obtain ⟨im,him,hor⟩:=hok.rel k _ hS hg trivial;rcases hor with ⟨_,h1,h2,arr,h3,h4,h5,h6⟩ | ⟨hz,_⟩
 ·exact ⟨im,arr,him,h1,h2,h3,h4,h5,h6⟩
 ·exact absurd rfl hz
theorem Qpg (hok:Ok B S μ (Qao H) w) {R rs:List Nat} (hsub:∀r∈rs,r∈R) (hS:∀r∈R,S r) (hreg:(rs.all fun r=> QaJ (Qao H r))=true) {v v1 v':Value} (h:Qqt rs v v1) (hv:VR μ v v'):TRv (fmU μ H w R) v1 v':=by
 rcases h with ⟨h1,rfl⟩ | ⟨r,hr,rfl,_⟩
 ·rw [simple_eq h1 hv];exact .simple h1
 ·obtain ⟨im,him,ht⟩:=hv.top_inv;exact ht.mono fun b x hx=> QnN hok (hsub r hr) (hS r (hsub r hr)) (List.all_eq_true.1 hreg r hr) him hx
theorem Qfu (hok:Ok B S μ (Qao H) w) {v v' t:Value} {R:List Nat} {L:List Prop} (h:QsV H fz v=some (t,R,L)) (hL:Qa2 L) (hS:∀r∈R,S r) (hv:VR μ v v'):TRv (fmU μ H w R) t v':=by
 unfold QsV at h;cases hn:isNil v with
 | true=>
   rw [hn] at h;simp only [cond_true,YO,YR] at h;obtain ⟨rfl,rfl,rfl⟩:=h;have:=Qyz hn;subst this;cases hv;exact .nil
 | false=>
 rw [hn] at h;simp only [cond_false] at h;cases hs:simple v with
 | true=>
   rw [hs] at h;simp only [cond_true,YO,YR] at h;obtain ⟨rfl,rfl,rfl⟩:=h;rw [simple_eq hs hv];exact .simple hs
 | false=>
   rw [hs] at h;simp only [cond_false] at h;split at h
   ·rename_i r t0;cases hg:QaJ (Qao H r) with
    | false=> rw [hg] at h;cases h
    | true=>
      rw [hg] at h;simp only [cond_true,YO,YR] at h;obtain ⟨rfl,rfl,rfl⟩:=h;obtain ⟨im,him,ht⟩:=VR.top_inv (r:=r) (t:=t0) hv;exact ht.mono fun b x hx=> QnN hok (by simp) (hS r (by simp)) hg him hx
   ·rename_i k n _;split at h
    ·rename_i x cs ty hx hg;cases hr:(x.rs.all fun r=> QaJ (Qao H r)) with
     | false=> rw [hr] at h;cases h
     | true=>
       rw [hr] at h;simp only [cond_true,YO,YR] at h;obtain ⟨rfl,rfl,rfl⟩:=h;obtain ⟨⟨h2,h3⟩,_⟩:=hL;have hkS:=hS k (by simp);obtain ⟨im,arr,him,_,hoff,harr,hle,_,hcells⟩:=QgU hok hkS hg;cases hv with
       | slice har a b _=>
         obtain ⟨im2,him2,_,rfl⟩:=har;rw [him] at him2;cases him2;rw [hoff];refine TRv.slice (o:=0) a b ((Qod (by simp) hg trivial him).trans harr) (fun i hi=> by omega) fun i v v' hv hv'=> ?_
         simp only [Nat.zero_add] at hv';have hi:i < cs.size:=by rw [h2];exact (Array.getElem?_eq_some_iff.1 hv).1
         obtain ⟨u,hu1,hu2⟩:=hcells i cs[i] (by simp [hi]);rw [hv'] at hu1;cases hu1;exact Qpg hok (fun r hr=> List.mem_cons_of_mem _ hr) hS hr (h3 i _ _ (by simp [hi]) hv) hu2
    ·cases h
   ·rename_i k o;split at h
    ·rename_i x cs ty hx hg;cases hr:(x.rs.all fun r=> QaJ (Qao H r)) with
     | false=> rw [hr] at h;cases h
     | true=>
       rw [hr] at h;simp only [cond_true,YO,YR] at h;obtain ⟨rfl,rfl,rfl⟩:=h;obtain ⟨⟨h2,h3⟩,_⟩:=hL;have hkS:=hS k (by simp);obtain ⟨im,arr,him,_,hoff,harr,hle,_,hcells⟩:=QgU hok hkS hg;cases hv with
       | ptr har=>
         obtain ⟨im2,him2,_,rfl⟩:=har;rw [him] at him2;cases him2;rw [hoff];refine TRv.ptr (o:=0) ((Qod (by simp) hg trivial him).trans harr) (fun i hi=> by omega) fun i v v' hv hv'=> ?_
         simp only [Nat.zero_add] at hv';have hi:i < cs.size:=by rw [h2];exact (Array.getElem?_eq_some_iff.1 hv).1
         obtain ⟨u,hu1,hu2⟩:=hcells i cs[i] (by simp [hi]);rw [hv'] at hu1;cases hu1;exact Qpg hok (fun r hr=> List.mem_cons_of_mem _ hr) hS hr (h3 i _ _ (by simp [hi]) hv) hu2
    ·cases h
   ·cases h
theorem Qft {f:Value->Option (Value×List Nat×List Prop)} (hf:∀v v' t R L,f v=some (t,R,L)->Qa2 L->(∀r∈R,S r)->VR μ v v'->TRv (fmU μ H w R) t v'):∀(l:List Value) (ts:List Value) (R:List Nat) (L:List Prop) (l':List Value),QdE f l=some (ts,R,L)->Qa2 L->(∀r∈R,S r)->l.length=l'.length->(∀(i:Nat) v v',l[i]? =some v->l'[i]? =some v'->VR μ v v')->
 ts.length=l'.length/\∀(i:Nat) v v',ts[i]? =some v->l'[i]? =some v'->TRv (fmU μ H w R) v v'
 | [],ts,R,L,l',h,hL,hS,hl,hv=> by
   simp only [QdE,YO,YR] at h;obtain ⟨rfl,rfl,rfl⟩:=h;exact ⟨hl,fun i v v' h=> by simp at h⟩
 | v::l,ts,R,L,[],h,hL,hS,hl,hv=> by simp at hl
 | v::l,ts,R,L,v'::l',h,hL,hS,hl,hv=> by
   simp only [QdE] at h;split at h
   ·rename_i t R1 L1 h1;split at h
    ·rename_i ts2 R2 L2 h2;simp only [YO,YR] at h;obtain ⟨rfl,rfl,rfl⟩:=h;obtain ⟨a,b⟩:=QaE hL;have k1:=hf v v' t R1 L1 h1 a (fun r hr=> hS r (List.mem_append_left _ hr)) (hv 0 v v' rfl rfl);obtain ⟨k2,k3⟩:=Qft hf l ts2 R2 L2 l' h2 b (fun r hr=> hS r (List.mem_append_right _ hr)) (by simpa using hl) fun i u u' x y=> hv (i+1) u u' (by simpa using x) (by simpa using y)
     refine ⟨by simp [k2],fun i u u' x y=> ?_⟩;cases i with
     | zero=>
       simp only [List.getElem?_cons_zero,YO] at x y;subst x y;exact k1.mono fun b x hx=> QiZ (fun i hi=> List.mem_append_left _ hi) hx
     | succ i=>
       exact (k3 i u u' (by simpa using x) (by simpa using y)).mono fun b x hx=> QiZ (fun i hi=> List.mem_append_right _ hi) hx
    ·cases h
   ·cases h
theorem Qea (hok:Ok B S μ (Qao H) w):∀(f:Nat) (v v' t:Value) (R:List Nat) (L:List Prop),QcU H fz f v=some (t,R,L)->Qa2 L->(∀r∈R,S r)->VR μ v v'->TRv (fmU μ H w R) t v'
 | 0,v,v',t,R,L,h,hL,hS,hv=> Qfu hok h hL hS hv
 | f+1,v,v',t,R,L,h,hL,hS,hv=> by
   have arr:∀{xs xs':Array Value} {l:List Value} {R:List Nat} {L:List Prop},QdE (QcU H fz f) xs.toList=some (l,R,L)->Qa2 L->(∀r∈R,S r)->xs.size=xs'.size->(∀(i:Nat) v v',xs[i]? =some v->xs'[i]? =some v'->VR μ v v')->l.toArray.size=xs'.size/\∀(i:Nat) v v',l.toArray[i]? =some v->xs'[i]? =some v'->TRv (fmU μ H w R) v v':=by
    intro xs xs' l R L h hL hS hs hx;obtain ⟨a,b⟩:=Qft (fun v v' t R L=> Qea hok f v v' t R L) xs.toList l R L xs'.toList h hL hS (by simpa using hs) fun i v v' x y=> hx i v v' (by simpa using x) (by simpa using y)
    exact ⟨by simpa using a,fun i v v' x y=> b i v v' (by simpa using x) (by simpa using y)⟩
   cases v with
   | agg xs=>
     simp only [QcU] at h;split at h
     ·rename_i l R1 L1 hl;simp only [YO,YR] at h;obtain ⟨rfl,rfl,rfl⟩:=h;cases hv with
      | agg h1 h2=> exact .agg (arr hl hL hS h1 h2).1 (arr hl hL hS h1 h2).2
     ·cases h
   | tuple xs=>
     simp only [QcU] at h;split at h
     ·rename_i l R1 L1 hl;simp only [YO,YR] at h;obtain ⟨rfl,rfl,rfl⟩:=h;cases hv with
      | tuple h1 h2=> exact .tuple (arr hl hL hS h1 h2).1 (arr hl hL hS h1 h2).2
     ·cases h
   | iface ty x=>
     simp only [QcU] at h;split at h
     ·rename_i l R1 L1 hl;simp only [YO,YR] at h;obtain ⟨rfl,rfl,rfl⟩:=h;cases hv with
      | iface hv=> exact .iface (Qea hok f _ _ _ _ _ hl hL hS hv)
     ·cases h
   | func fn xs ys=>
     cases fn with
     | func g=>
       simp only [QcU] at h;split at h
       ·rename_i l R1 L1 hl;split at h
        ·rename_i m R2 L2 hm;simp only [YO,YR] at h;obtain ⟨rfl,rfl,rfl⟩:=h;obtain ⟨a,b⟩:=QaE hL;cases hv with
         | func h1 h2 h3 h4=>
           have k1:=arr hl a (fun r hr=> hS r (List.mem_append_left _ hr)) h1 h3;have k2:=arr hm b (fun r hr=> hS r (List.mem_append_right _ hr)) h2 h4;exact .func k1.1 k2.1 (fun i v v' x y=> (k1.2 i v v' x y).mono fun b x hx=> QiZ (fun i hi=> List.mem_append_left _ hi) hx)
            (fun i v v' x y=> (k2.2 i v v' x y).mono fun b x hx=> QiZ (fun i hi=> List.mem_append_right _ hi) hx)
        ·cases h
       ·cases h
     | _=> exact Qfu (fz:=fz) hok (by exact h) hL hS hv
   | _=> exact Qfu (fz:=fz) hok (by exact h) hL hS hv
end
theorem Post.region {B n:Nat} {S:Nat->Prop} {μ:Mu} {H:Qan} {w w':World} (hok:Ok B S μ (Qao H) w) (hS:∀i,S i->i < n) (hf:μ n=none) (hbel:Below w.heap.size w w') (fm:Nat->Option Obj) (hfm:∀b x,fm b=some x->w'.heap[b]? =some x)
 (hfr:∀b x,fm b=some x->w.heap.size<=b\/∃k kim ko,S k/\Qao H k=some ko/\Qcu ko/\μ k=some kim/\kim.fm b=some x):Post B S n (n+1) [] μ (upd μ n ⟨0,0,0,false,fm⟩) H ((n,QbH)::H) w w':=by
 have hp:=Post.ofBelow (n:=n) hok hbel;have hne:∀i,S i->i≠n:=fun i hi=> by have:=hS i hi;omega
 have hmu:∀i,S i->upd μ n ⟨0,0,0,false,fm⟩ i=μ i:=fun i hi=> by simp [upd,hne i hi]
 have hg:∀i,S i->Qao ((n,QbH)::H) i=Qao H i:=fun i hi=> by rw [Qa4,if_neg (hne i hi)]
 have hgn:Qao ((n,QbH)::H) n=some QbH:=by rw [Qa4,if_pos rfl]
 have isn:∀i,(n<=i/\i < n+1)->i=n:=fun i hi=> by omega
 refine ⟨⟨fun i o hi ho hl=> ?_,fun i o im hi ho hl him=> ?_,fun i j oi oj a b hi hj hij hoi hoj hli hlj ha hb hra hrb=> ?_,fun i o hi ho hr=> ?_,fun i j oi oj a b x hi hj hoi hoj hri hlj ha hb hrb hx=> ?_⟩,by omega,fun i hi=> ?_,fun i hi _=> ?_,hbel.size,fun b hb _=> hbel.block b hb,fun i hi=> by simp at hi,
  fun i im o h1 h2 ho hl him=> ?_,fun i im o hi ho hr him b x hx=> ?_,hbel.os,hbel.tape,hbel.output⟩
 ·rcases hi with hi | hi
  ·rw [hg i hi] at ho;obtain ⟨im,him,hr⟩:=hp.ok.rel i o (.inl hi) ho hl;exact ⟨im,by rw [hmu i hi];exact him,hr.keep (QdT hf) rfl⟩
  ·rw [isn i hi,hgn] at ho;cases ho;exact hl.elim
 ·rcases hi with hi | hi
  ·rw [hg i hi] at ho;rw [hmu i hi] at him;exact hp.ok.low i o im (.inl hi) ho hl him
  ·rw [isn i hi,hgn] at ho;cases ho;exact hl.elim
 ·rcases hi with hi | hi
  ·rcases hj with hj | hj
   ·rw [hg i hi] at hoi;rw [hg j hj] at hoj;rw [hmu i hi] at ha;rw [hmu j hj] at hb;exact hok.inj i j oi oj a b hi hj hij hoi hoj hli hlj ha hb hra hrb
   ·rw [isn j hj,hgn] at hoj;cases hoj;exact hlj.elim
  ·rw [isn i hi,hgn] at hoi;cases hoi;exact hli.elim
 ·rcases hi with hi | hi
  ·rw [hg i hi] at ho;obtain ⟨im,him,h⟩:=hp.ok.reg i o (.inl hi) ho hr;exact ⟨im,by rw [hmu i hi];exact him,h⟩
  ·rw [isn i hi];exact ⟨_,QaF,hfm⟩
 ·have hjS:S j:=hj.elim id fun h=> by rw [isn j h,hgn] at hoj;cases hoj;exact hlj.elim
  rw [hg j hjS] at hoj;rw [hmu j hjS] at hb;rcases hi with hi | hi
  ·rw [hg i hi] at hoi;rw [hmu i hi] at ha;exact hok.sep i j oi oj a b x hi hjS hoi hoj hri hlj ha hb hrb hx
  ·rw [isn i hi,QaF] at ha;cases ha;rcases hfr _ _ hx with h | ⟨k,kim,ko,h1,h2,h3,h4,h5⟩
   ·have:=(hok.low j oj b hjS hoj hlj hb).1;omega
   ·exact hok.sep k j ko oj kim b x h1 hjS h2 hoj h3 hlj h4 hb hrb h5
 ·simp only [upd];rw [if_neg (by omega)]
 ·rw [Qa4,if_neg (by omega)]
 ·rw [isn i ⟨h1,h2⟩,hgn] at ho;cases ho;exact hl.elim
 ·have hin:=isn i (hi.elim id fun h=> by simp at h);subst hin;rw [QaF] at him;cases him;rcases hfr b x hx with h | ⟨k,kim,ko,h1,h2⟩
  ·exact .inl h
  ·exact .inr (.inl ⟨k,kim,ko,h1,hS k h1,h2⟩)
end Go.CE

namespace Go.CE
open Go Go.RowKit

def mvS (ρ τ:Nat->Option Nat) (v:Value):Option Value:=bif simple v then some v else match v with
 | .func (.via r ⟨[]⟩ 0 true) ⟨[t]⟩ ⟨[]⟩=> match τ r with
   | some r'=> some (Qaq r' t)
   | none=> none
 | .pointer (some ⟨k,o,none⟩)=> match ρ k with
   | some k'=> some (.pointer (some ⟨k',o,none⟩))
   | none=> none
 | .slice (some ⟨k,o,none⟩) m s=> match ρ k with
   | some k'=> some (.slice (some ⟨k',o,none⟩) m s)
   | none=> none
 | .map (some k)=> match ρ k with
   | some k'=> some (.map (some k'))
   | none=> none
 | .chan (some 0)=> some Qid
 | _=> none
def mvL (f:Value->Option Value):List Value->Option (List Value)
 | []=> some []
 | v::l=> match f v with
   | some u=> match mvL f l with
     | some m=> some (u::m)
     | none=> none
   | none=> none
def mvV (ρ τ:Nat->Option Nat):Nat->Value->Option Value
 | 0,v=> mvS ρ τ v
 | f+1,v=> match v with
   | .agg xs=> match mvL (mvV ρ τ f) xs.toList with
     | some l=> some (.agg l.toArray)
     | none=> none
   | .tuple xs=> match mvL (mvV ρ τ f) xs.toList with
     | some l=> some (.tuple l.toArray)
     | none=> none
   | .iface t x=> match mvV ρ τ f x with
     | some y=> some (.iface t y)
     | none=> none
   | .func (.func g) xs ys=> match mvL (mvV ρ τ f) xs.toList with
     | some l=> match mvL (mvV ρ τ f) ys.toList with
       | some m=> some (.func (.func g) l.toArray m.toArray)
       | none=> none
     | none=> none
   | v=> mvS ρ τ v
theorem QnG {f:Value->Option Value}:∀{l m:List Value},mvL f l=some m->m.length=l.length/\∀(i:Nat) u,m[i]? =some u->∃v,l[i]? =some v/\f v=some u
 | [],m,h=> by
   simp only [mvL,YO] at h;subst h;exact ⟨rfl,fun i u h=> by simp at h⟩
 | v::l,m,h=> by
   simp only [mvL] at h;split at h
   ·rename_i u hu;split at h
    ·rename_i m' hm;simp only [YO] at h;subst h;obtain ⟨a,b⟩:=QnG hm;refine ⟨by simp [a],fun i x hx=> ?_⟩;cases i with
     | zero=>
       simp only [List.getElem?_cons_zero,YO] at hx;subst hx;exact ⟨v,rfl,hu⟩
     | succ i=> exact b i x (by simpa using hx)
    ·cases h
   ·cases h
section
variable {μ μ1:Mu} {ρ τ:Nat->Option Nat}
theorem Qya (hρ:∀k k',ρ k=some k'->∀im,μ k=some im->μ1 k'=some im) (hτ:∀r r',τ r=some r'->∀im,μ r=some im->∃im',μ1 r'=some im'/\∀b x,im.fm b=some x->im'.fm b=some x) {v v1 v':Value} (h:mvS ρ τ v=some v1) (hv:VR μ v v'):VR μ1 v1 v':=by
 unfold mvS at h;cases hs:simple v with
 | true=>
   rw [hs] at h;simp only [cond_true,YO] at h;subst h;rw [simple_eq hs hv];exact Qb2 hs
 | false=>
   rw [hs] at h;simp only [cond_false] at h;split at h
   ·rename_i r t;split at h
    ·rename_i r' hr;simp only [YO] at h;subst h;have hv:VR μ (Qaq r t) v':=hv;cases hv with
     | top h0 h1 h2=>
       obtain ⟨im',him',hm⟩:=hτ r r' hr _ h1;exact .top h0 him' (h2.mono hm)
    ·cases h
   ·rename_i k o;split at h
    ·rename_i k' hk;simp only [YO] at h;subst h;cases hv with
     | ptr har=>
       obtain ⟨im,h1,_,rfl⟩:=har;exact .ptr ⟨im,hρ k k' hk im h1,rfl,rfl⟩
    ·cases h
   ·rename_i k o m s;split at h
    ·rename_i k' hk;simp only [YO] at h;subst h;cases hv with
     | slice har h1 h2 h3=>
       obtain ⟨im,hi,_,rfl⟩:=har;have hi1:=hρ k k' hk im hi;refine .slice ⟨im,hi1,rfl,rfl⟩ h1 h2 fun hs im' him'=> ?_
       rw [hi1] at him';cases him';exact h3 hs im hi
    ·cases h
   ·rename_i k;split at h
    ·rename_i k' hk;simp only [YO] at h;subst h;cases hv with
     | map hm=> exact .map (hρ k k' hk _ hm)
    ·cases h
   ·simp only [YO] at h;subst h;cases hv with
    | noCap=> exact .noCap
   ·cases h
theorem Qtw (hρ:∀k k',ρ k=some k'->∀im,μ k=some im->μ1 k'=some im) (hτ:∀r r',τ r=some r'->∀im,μ r=some im->∃im',μ1 r'=some im'/\∀b x,im.fm b=some x->im'.fm b=some x):∀(f:Nat) {v v1 v':Value},mvV ρ τ f v=some v1->VR μ v v'->VR μ1 v1 v'
 | 0,v,v1,v',h,hv=> Qya hρ hτ h hv
 | f+1,v,v1,v',h,hv=> by
   have arr:∀{xs xs':Array Value} {l:List Value},mvL (mvV ρ τ f) xs.toList=some l->xs.size=xs'.size->(∀(i:Nat) v v',xs[i]? =some v->xs'[i]? =some v'->VR μ v v')->l.toArray.size=xs'.size/\∀(i:Nat) v v',l.toArray[i]? =some v->xs'[i]? =some v'->VR μ1 v v':=by
    intro xs xs' l hl hs hx;obtain ⟨a,b⟩:=QnG hl;refine ⟨by simpa [a] using hs,fun i u u' hu hu'=> ?_⟩;obtain ⟨v,hv1,hv2⟩:=b i u (by simpa using hu);exact Qtw hρ hτ f hv2 (hx i v u' (by simpa using hv1) hu')
   cases v with
   | agg xs=>
     simp only [mvV] at h;split at h
     ·rename_i l hl;simp only [YO] at h;subst h;cases hv with
      | agg h1 h2=> exact .agg (arr hl h1 h2).1 (arr hl h1 h2).2
     ·cases h
   | tuple xs=>
     simp only [mvV] at h;split at h
     ·rename_i l hl;simp only [YO] at h;subst h;cases hv with
      | tuple h1 h2=> exact .tuple (arr hl h1 h2).1 (arr hl h1 h2).2
     ·cases h
   | iface t x=>
     simp only [mvV] at h;split at h
     ·rename_i y hy;simp only [YO] at h;subst h;cases hv with
      | iface hv=> exact .iface (Qtw hρ hτ f hy hv)
     ·cases h
   | func fn xs ys=>
     cases fn with
     | func g=>
       simp only [mvV] at h;split at h
       ·rename_i l hl;split at h
        ·rename_i m hm;simp only [YO] at h;subst h;cases hv with
         | func h1 h2 h3 h4=> exact .func (arr hl h1 h3).1 (arr hm h2 h4).1 (arr hl h1 h3).2 (arr hm h2 h4).2
        ·cases h
       ·cases h
     | _=> exact Qya hρ hτ (by exact h) hv
   | _=> exact Qya hρ hτ (by exact h) hv
end
def Qvr (cs:Array Value):Prop:=∀v∈cs,simple v=true
def mvE (f:Value->Option Value):List MapEntry->Option (List MapEntry)
 | []=> some []
 | e::l=> match f e.val with
   | some u=> match mvE f l with
     | some m=> some ({e with val:=u}::m)
     | none=> none
   | none=> none
theorem Qvt {f:Value->Option Value}:∀{l m:List MapEntry},mvE f l=some m->m.length=l.length/\∀(i:Nat) u,m[i]? =some u->∃v,l[i]? =some v/\u.key=v.key/\u.born=v.born/\f v.val=some u.val
 | [],m,h=> by
   simp only [mvE,YO] at h;subst h;exact ⟨rfl,fun i u h=> by simp at h⟩
 | v::l,m,h=> by
   simp only [mvE] at h;split at h
   ·rename_i u hu;split at h
    ·rename_i m' hm;simp only [YO] at h;subst h;obtain ⟨a,b⟩:=Qvt hm;refine ⟨by simp [a],fun i x hx=> ?_⟩;cases i with
     | zero=>
       simp only [List.getElem?_cons_zero,YO] at hx;subst hx;exact ⟨v,rfl,rfl,rfl,hu⟩
     | succ i=> exact b i x (by simpa using hx)
    ·cases h
   ·cases h
def mvO (f:Value->Option Value) (plain:Bool):Obj->Option (Obj×List Prop)
 | .cells cs t (0,0)=> bif plain then some (.cells cs t (0,0),[Qvr cs]) else match mvL f cs.toList with
   | some l=> some (.cells l.toArray t (0,0),[])
   | none=> none
 | .map es clk=> match mvE f es.toList with
   | some l=> some (.map l.toArray clk,[])
   | none=> none
 | _=> none
theorem Qnv {f:Value->Option Value} {p:Bool} {o o1:Obj} {L:List Prop} (h:mvO f p o=some (o1,L)):(live o/\¬Qcu o)/\live o1/\¬Qcu o1:=by
 unfold mvO at h;split at h
 ·cases p with
  | true=>
    simp only [cond_true,YO,YR] at h;obtain ⟨rfl,rfl⟩:=h;exact ⟨⟨trivial,id⟩,trivial,id⟩
  | false=>
    simp only [cond_false] at h;split at h
    ·simp only [YO,YR] at h;obtain ⟨rfl,rfl⟩:=h;exact ⟨⟨trivial,id⟩,trivial,id⟩
    ·cases h
 ·split at h
  ·simp only [YO,YR] at h;obtain ⟨rfl,rfl⟩:=h;exact ⟨⟨trivial,id⟩,trivial,id⟩
  ·cases h
 ·cases h
theorem QvF {μ μ1:Mu} {f:Value->Option Value} (hf:∀v v1 v',f v=some v1->VR μ v v'->VR μ1 v1 v') {p:Bool} {o o1:Obj} {L:List Prop} (h:mvO f p o=some (o1,L)) (hL:Qa2 L) {w:World} {im:Img} (hor:OR μ w im o):OR μ1 w im o1/\im.rw=true:=by
 unfold mvO at h;split at h
 ·rename_i cs t;rcases hor with ⟨h1,h2,h3,arr,h4,h5,h6,h7⟩ | ⟨h1,_⟩
  ·refine ⟨?_,h2⟩;cases p with
   | true=>
     simp only [cond_true,YO,YR] at h;obtain ⟨rfl,rfl⟩:=h;refine .inl ⟨h1,h2,h3,arr,h4,h5,h6,fun i v hv=> ?_⟩;obtain ⟨v',a,b⟩:=h7 i v hv;have hs:=hL.1 v (Array.mem_of_getElem? hv);refine ⟨v',a, ?_⟩;rw [simple_eq hs b];exact Qb2 hs
   | false=>
     simp only [cond_false] at h;split at h
     ·rename_i l hl;simp only [YO,YR] at h;obtain ⟨rfl,rfl⟩:=h;obtain ⟨a,b⟩:=QnG hl;refine .inl ⟨h1,h2,h3,arr,h4,by simpa [a] using h5,h6,fun i v hv=> ?_⟩;obtain ⟨u,hu1,hu2⟩:=b i v (by simpa using hv);obtain ⟨v',x,y⟩:=h7 i u (by simpa using hu1);exact ⟨v',x,hf u v v' hu2 y⟩
     ·cases h
  ·exact absurd rfl h1
 ·rename_i es clk;split at h
  ·rename_i l hl;simp only [YO,YR] at h;obtain ⟨rfl,rfl⟩:=h;obtain ⟨a,b⟩:=Qvt hl;obtain ⟨h1,es',h2,h3,h4⟩:=hor;refine ⟨⟨h1,es',h2,by simpa [a] using h3,fun i e e' he he'=> ?_⟩,h1⟩;obtain ⟨u,hu1,hu2,hu3,hu4⟩:=b i e (by simpa using he);obtain ⟨q1,q2,q3,q4⟩:=h4 i u e' (by simpa using hu1) he';exact ⟨by rw [hu2];exact q1,by rw [hu3];exact q2,by rw [hu2];exact q3,hf u.val e.val e'.val hu4 q4⟩
  ·cases h
 ·cases h
def Qyp (f:Value->Option Value):List Bool->List (Option Obj)->Option (List Obj×List Prop)
 | [],[]=> some ([],[])
 | p::ps,some o::l=> match mvO f p o with
   | some (o1,L)=> match Qyp f ps l with
     | some (os,M)=> some (o1::os,L++M)
     | none=> none
   | none=> none
 | _,_=> none
theorem QiT {f:Value->Option Value}:∀{ps:List Bool} {l:List (Option Obj)} {os:List Obj} {L:List Prop},Qyp f ps l=some (os,L)->Qa2 L->os.length=l.length/\∀(i:Nat) o1,os[i]? =some o1->∃p o M,l[i]? =some (some o)/\mvO f p o=some (o1,M)/\Qa2 M
 | [],[],os,L,h,_=> by
   simp only [Qyp,YO,YR] at h;obtain ⟨rfl,rfl⟩:=h;exact ⟨rfl,fun i u h=> by simp at h⟩
 | p::ps,some o::l,os,L,h,hL=> by
   simp only [Qyp] at h;split at h
   ·rename_i o1 L1 h1;split at h
    ·rename_i os' M hm;simp only [YO,YR] at h;obtain ⟨rfl,rfl⟩:=h;obtain ⟨hL1,hL2⟩:=QaE hL;obtain ⟨a,b⟩:=QiT hm hL2;refine ⟨by simp [a],fun i x hx=> ?_⟩;cases i with
     | zero=>
       simp only [List.getElem?_cons_zero,YO] at hx;subst hx;exact ⟨p,o,L1,rfl,h1,hL1⟩
     | succ i=> exact b i x (by simpa using hx)
    ·cases h
   ·cases h
 | [],_::_,_,_,h,_=> by simp [Qyp] at h
 | _::_,[],_,_,h,_=> by simp [Qyp] at h
 | _::_,none::_,_,_,h,_=> by simp [Qyp] at h
def posOf:List Nat->Nat->Nat->Option Nat
 | [],_,_=> none
 | a::l,j,k=> bif Nat.beq a k then some j else posOf l (j+1) k
theorem QfR:∀(l:List Nat) (j k i:Nat),posOf l j k=some i->j<=i/\l[i - j]? =some k
 | [],j,k,i,h=> by cases h
 | a::l,j,k,i,h=> by
   simp only [posOf] at h;cases e:Nat.beq a k with
   | true=>
     rw [e] at h;simp only [cond_true,YO] at h;subst h;exact ⟨Nat.le_refl _,by simp [YE e]⟩
   | false=>
     rw [e] at h;simp only [cond_false] at h;obtain ⟨h1,h2⟩:=QfR l (j+1) k i h;refine ⟨by omega, ?_⟩;rw [show i - j=(i - (j+1))+1 by omega];simpa using h2
def Qbg:Nat->List Obj->Qan
 | _,[]=> []
 | i,o::l=> (i,o)::Qbg (i+1) l
theorem Qco:∀(l:List Obj) (i j:Nat),Qao (Qbg i l) j=if i<=j then l[j - i]? else none
 | [],i,j=> by simp [Qbg,Qao]
 | o::l,i,j=> by
   simp only [Qbg,Qa4];by_cases h:j=i
   ·subst h;simp
   ·rw [if_neg h,Qco l (i+1) j];by_cases h2:i<=j
    ·rw [if_pos h2,if_pos (by omega),show j - i=(j - (i+1))+1 by omega];simp
    ·rw [if_neg h2,if_neg (by omega)]
def Qvn (bs:List Obj):Qan:=Qbg 1 bs++[(0,QbH)]
def WriC (P:Program) (J:World->Prop) (g:FuncId) (args:Array Value) (bs:List Obj) (out:OO) (outs news:List Obj):Prop:=
 ∀(B:Lo),(∀w,B.has w->J w)->∀(μ:Mu) (w:World) (args':Array Value) (cs:List Frame),Ok B (fun i=> i < bs.length+1) μ (Qao (Qvn bs)) w->B.has w->(∀i,bs.length+1<=i->μ i=none)->VRs μ args args'->
  ∃out' w' μ',Post B (fun i=> i < bs.length+1) (bs.length+1) (bs.length+2+news.length) (List.range' 1 bs.length) μ μ' (Qvn bs) (Qbg 1 outs++((bs.length+1,QbH)::(Qbg (bs.length+2) news++Qvn bs))) w w'/\OR2 μ' out out'/\EndsAs P (Frame.enter P g args' .normal) cs w out' w'
theorem Q3S {bs outs news:List Obj} {a:Nat} (i:Nat):Qao (Qbg 1 outs++((a,QbH)::(Qbg (a+1) news++Qvn bs))) i=match Qao (Qbg 1 outs) i with | some o=> some o | none=> if i=a then some QbH else match Qao (Qbg (a+1) news) i with | some o=> some o | none=> Qao (Qvn bs) i:=by
 rw [Qbz];cases Qao (Qbg 1 outs) i with
 | some o=> rfl
 | none=> simp only;rw [Qa4,Qbz];rfl
theorem Qn6 (bs:List Obj) (i:Nat):Qao (Qvn bs) i=if i=0 then some QbH else bs[i - 1]? :=by
 unfold Qvn;rw [Qbz,Qco];by_cases h:i=0
 ·subst h;simp [Qa4]
 ·rw [if_pos (by omega),if_neg h];cases hb:bs[i - 1]? with
  | some o=> rfl
  | none=> simp only;rw [Qa4,if_neg h];rfl
def dnR (κ:List Nat) (k:Nat):Option Nat:=posOf κ 1 k
def dnT (R:List Nat) (r:Nat):Option Nat:=bif R.contains r then some 0 else none
def upR (κ:List Nat) (n:Nat) (i:Nat):Option Nat:=match i with
 | 0=> none
 | i+1=> bif Nat.blt i κ.length then κ[i]? else bif Nat.beq i κ.length then none else some (n+(i - κ.length))
def upT (a n r:Nat):Option Nat:=bif Nat.beq r 0 || Nat.beq r a then some n else none
def Q27 (f:Value->Option Value):OO->Option OO
 | .ret v=> match f v with
   | some u=> some (.ret u)
   | none=> none
 | .pan v=> match f v with
   | some u=> some (.pan u)
   | none=> none
def Q43 (H:Qan) (n:Nat) (κ R:List Nat) (ps qs:List Bool) (args1:Array Value) (out:OO) (outs news:List Obj):Option (List Value×List Obj×OO×Qan×List Prop):=
 bif (κ.all fun k=> Nat.blt k n) && distinct κ && (R.all fun r=> Nat.blt r n && QaJ (Qao H r)) && Nat.beq outs.length κ.length then
  match mvL (mvV (dnR κ) (dnT R) 4) args1.toList,Qyp (mvV (dnR κ) (dnT R) 4) ps (κ.map (Qao H)),Q27 (mvV (upR κ n) (upT (κ.length+1) n) 4) out,Qyp (mvV (upR κ n) (upT (κ.length+1) n) 4) ps (outs.map some),Qyp (mvV (upR κ n) (upT (κ.length+1) n) 4) qs (news.map some) with
  | some as,some (bs,L1),some o1,some (os,L2),some (ns,L3)=> some (as,bs,o1,κ.zip os++((n,QbH)::Qbg (n+1) ns),L1++(L2++L3))
  | _,_,_,_,_=> none
 else none
theorem Q2A {κ:List Nat} {os:List Obj} (hd:distinct κ=true) (hl:os.length=κ.length) {j k:Nat} (hk:κ[j]? =some k):Qao (κ.zip os) k=os[j]? :=by
 induction κ generalizing os j with
 | nil=> simp at hk
 | cons a κ ih=>
   cases os with
   | nil=> simp at hl
   | cons o os=>
     rw [List.zip_cons_cons,Qa4];have inj:=QdZ hd;cases j with
     | zero=>
       simp only [List.getElem?_cons_zero,YO] at hk;rw [if_pos hk.symm];rfl
     | succ j=>
       have hne:k≠a:=fun e=> by
        have:=inj (j+1) 0 k hk (by simp [e]);omega
       rw [if_neg hne];refine ih ?_ (by simpa using hl) (by simpa using hk);simp only [distinct,YB] at hd;exact hd.2
theorem Qmz:∀{κ:List Nat} {os:List Obj} {k:Nat},k ∉ κ->Qao (κ.zip os) k=none
 | [],_,_,_=> rfl
 | a::κ,[],_,_=> rfl
 | a::κ,o::os,k,h=> by
   rw [List.zip_cons_cons,Qa4,if_neg (fun e=> h (by simp [e]))];exact Qmz fun e=> h (List.mem_cons_of_mem _ e)
section
variable {P:Program} {J:World->Prop} {B:Lo} {g:FuncId} {args args1:Array Value} {H:Qan} {n:Nat} {bs outs news:List Obj} {out out1:OO}
theorem WriC.callJ (h:WriC P J g args bs out outs news) (hJ:∀w,B.has w->J w) (κ R:List Nat) (ps qs:List Bool) {as:List Value} {bs1:List Obj} {ups:Qan} {L:List Prop} (e:Q43 H n κ R ps qs args1 out outs news=some (as,bs1,out1,ups,L)) (hL:Qa2 L) (ha:as.toArray=args) (hb:bs1=bs):Qrx P B g args1 H n out1 (ups++H) (n+1+news.length) (κ++R) κ:=by
 subst hb;unfold Q43 at e;cases hq:((κ.all fun k=> Nat.blt k n) && distinct κ && (R.all fun r=> Nat.blt r n && QaJ (Qao H r)) && Nat.beq outs.length κ.length) with
 | false=> rw [hq] at e;cases e
 | true=>
 rw [hq] at e;simp only [cond_true] at e;simp only [YB] at hq;obtain ⟨⟨⟨q1,q2⟩,q3⟩,q4⟩:=hq;have q4:=YE q4;have κlt:∀k∈κ,k < n:=fun k hk=> YL (List.all_eq_true.1 q1 k hk)
 have Rlt:∀r∈R,r < n:=fun r hr=> by
  have:=List.all_eq_true.1 q3 r hr;simp only [YB] at this;exact YL this.1
 have Rreg:∀r∈R,QaJ (Qao H r)=true:=fun r hr=> by
  have:=List.all_eq_true.1 q3 r hr;simp only [YB] at this;exact this.2
 have κinj:=QdZ q2;split at e
 ·rename_i as0 bs0 L1 o1 os L2 ns L3 e1 e2 e3 e4 e5;simp only [YO,YR] at e;obtain ⟨rfl,rfl,rfl,rfl,rfl⟩:=e;obtain ⟨hL1,hLr⟩:=QaE hL;obtain ⟨hL2,hL3⟩:=QaE hLr;obtain ⟨lb,gb⟩:=QiT e2 hL1;obtain ⟨lo,go⟩:=QiT e4 hL2;obtain ⟨ln,gnw⟩:=QiT e5 hL3;simp only [List.length_map] at lb lo ln;obtain ⟨la,gaa⟩:=QnG e1;let a:=bs0.length+1
  let G2:Nat->Option Obj:=Qao ((κ.zip os++((n,QbH)::Qbg (n+1) ns))++H)
  have upsG:∀i,G2 i=match Qao (κ.zip os) i with | some o=> some o | none=> if i=n then some QbH else if n < i/\i < n+1+news.length then ns[i - (n+1)]? else Qao H i:=by
   intro i;show Qao ((κ.zip os++((n,QbH)::Qbg (n+1) ns))++H) i=_;rw [Qbz,Qbz];cases hz:Qao (κ.zip os) i with
   | some o=> rfl
   | none=>
     simp only;rw [Qa4];by_cases hi:i=n
     ·rw [if_pos hi,if_pos hi]
     ·rw [if_neg hi,if_neg hi,Qco];by_cases h1:n+1<=i
      ·rw [if_pos h1];by_cases h2:i < n+1+news.length
       ·rw [if_pos ⟨by omega,h2⟩];have:i - (n+1) < ns.length:=by omega
        simp [this]
       ·rw [if_neg (by omega),List.getElem?_eq_none (by omega)]
      ·rw [if_neg h1,if_neg (by omega)]
  have ownAt:∀{i k:Nat},κ[i]? =some k->∃o,bs0[i]? =some o:=fun {i k} hk=> by
   have:i < bs0.length:=by rw [lb];exact (List.getElem?_eq_some_iff.1 hk).1
   exact ⟨bs0[i],by simp [this]⟩
  have newAt:∀{i k:Nat},κ[i]? =some k->∃o,os[i]? =some o:=fun {i k} hk=> by
   have:i < os.length:=by rw [lo,q4];exact (List.getElem?_eq_some_iff.1 hk).1
   exact ⟨os[i],by simp [this]⟩
  have κne:∀k∈κ,k < n:=κlt;have zn:∀{i:Nat},n<=i->Qao (κ.zip os) i=none:=fun {i} hi=> Qmz fun hm=> absurd (κlt _ hm) (by omega)
  have gk:∀{j k:Nat},κ[j]? =some k->G2 k=os[j]? :=fun {j k} hk=> by
   rw [upsG,Q2A q2 (by rw [lo,q4]) hk];obtain ⟨o,ho⟩:=newAt hk;rw [ho]
  have gn:G2 n=some QbH:=by rw [upsG,zn (Nat.le_refl _)];simp
  have gw:∀{i:Nat},n < i->i < n+1+news.length->G2 i=ns[i - (n+1)]? :=fun {i} h1 h2=> by
   rw [upsG,zn (by omega)];simp only;rw [if_neg (by omega),if_pos ⟨h1,h2⟩]
  have gr:∀{i:Nat},i ∉ κ->¬(n<=i/\i < n+1+news.length)->G2 i=Qao H i:=fun {i} hi hn=> by
   rw [upsG,Qmz hi];simp only;rw [if_neg (by omega),if_neg (by omega)]
  refine ⟨⟨by omega,fun i hi hw=> ?_,fun i hi=> ?_,fun i hi=> List.mem_append_left _ hi,fun i hi=> by have:=κlt i hi;omega⟩,fun S μ w args' cs hok hB hS hf hv hR=> ?_⟩
  ·exact gr hw (by omega)
  ·exact gr (fun hm=> absurd (κlt _ hm) (by omega)) (by omega)
  have κS:∀k∈κ,S k:=fun k hk=> hR k (List.mem_append_left _ hk) (κlt k hk)
  have RS:∀r∈R,S r:=fun r hr=> hR r (List.mem_append_right _ hr) (Rlt r hr)
  -- the contract's memory
  let μc:Mu:=fun i=> match i with
   | 0=> some ⟨0,0,0,false,fmU μ H w R⟩
   | i+1=> match κ[i]? with
     | some k=> μ k
     | none=> none
  have μ0:μc 0=some ⟨0,0,0,false,fmU μ H w R⟩:=rfl;have μs:∀{i k:Nat},κ[i]? =some k->μc (i+1)=μ k:=fun {i k} hk=> by show (match κ[i]? with | some k=> μ k | none=> none)=μ k;rw [hk]
  have hρ:∀k k',dnR κ k=some k'->∀im,μ k=some im->μc k'=some im:=fun k k' hk im him=> by
   obtain ⟨h1,h2⟩:=QfR κ 1 k k' hk;obtain ⟨i,rfl⟩:∃i,k'=i+1:=⟨k' - 1,by omega⟩
   rw [μs (i:=i) (by simpa using h2)];exact him
  have hτ:∀r r',dnT R r=some r'->∀im,μ r=some im->∃im',μc r'=some im'/\∀b x,im.fm b=some x->im'.fm b=some x:=fun r r' hr im him=> by
   unfold dnT at hr;cases hc:R.contains r with
   | false=> rw [hc] at hr;cases hr
   | true=>
     rw [hc] at hr;simp only [cond_true,YO] at hr;subst hr;have hm:r∈R:=by simpa using hc
     exact ⟨_,μ0,fun b x hx=> QnN hok hm (RS r hm) (Rreg r hm) him hx⟩
  have dnVR:∀v v1 v',mvV (dnR κ) (dnT R) 4 v=some v1->VR μ v v'->VR μc v1 v':=fun v v1 v'=> Qtw hρ hτ 4
  -- blocks of the contract
  have blk:∀i o,i < a->Qao (Qvn bs0) i=some o->(i=0/\o=QbH)\/∃j k o1,i=j+1/\κ[j]? =some k/\Qao H k=some o1/\(live o1/\¬Qcu o1)/\(live o/\¬Qcu o)/\∀im,OR μ w im o1->OR μc w im o/\im.rw=true:=by
   intro i o hi ho;rw [Qn6] at ho;by_cases h0:i=0
   ·rw [if_pos h0] at ho;cases ho;exact .inl ⟨h0,rfl⟩
   ·rw [if_neg h0] at ho;obtain ⟨p,o1,M,g1,g2,g3⟩:=gb (i - 1) o ho;rw [List.getElem?_map] at g1;cases hk:κ[i - 1]? with
    | none=> rw [hk] at g1;cases g1
    | some k=>
      rw [hk] at g1;simp only [Option.map_some,YO] at g1;obtain ⟨m1,m2⟩:=Qnv g2;exact .inr ⟨i - 1,k,o1,by omega,hk,g1,m1,m2,fun im hor=> QvF dnVR g2 g3 hor⟩
  -- each of the caller's blocks, as it was
  have was:∀{j k:Nat},κ[j]? =some k->∃o1,Qao H k=some o1/\(live o1/\¬Qcu o1)/\∀im,μ k=some im->im.rw=true:=fun {j k} hk=> by
   obtain ⟨o0,ho0⟩:=ownAt hk;have hlt:j < κ.length:=(List.getElem?_eq_some_iff.1 hk).1;rcases blk (j+1) o0 (by omega) (by rw [Qn6,if_neg (by omega)];simpa using ho0) with ⟨h,_⟩ | ⟨j',k',o1,hj',hk',hg,h1,h2,h3⟩
   ·omega
   ·obtain rfl:j=j':=by omega
    rw [hk] at hk';cases hk';refine ⟨o1,hg,h1,fun im him=> ?_⟩;obtain ⟨im2,him2,hor⟩:=hok.rel k o1 (κS k (List.mem_of_getElem? hk)) hg h1.1;rw [him] at him2;cases him2;exact (h3 im hor).2
  have sep0:∀{j k:Nat} {o1:Obj} {im:Img} {x:Obj},κ[j]? =some k->Qao H k=some o1->live o1->μ k=some im->im.rw=true->fmU μ H w R im.blk≠some x:=by
   intro j k o1 im x hk ho hl him hrw hx;have hx':=hx;unfold fmU at hx';split at hx'
   ·rename_i hc;obtain ⟨i,hi,o,im',hg,him',hcase⟩:=hc;obtain ⟨o',ho',hr'⟩:=Qby (Rreg i hi);rw [hg] at ho';cases ho';rcases hcase with ⟨_,hne⟩ | ⟨hl',_⟩
    ·cases hy:im'.fm im.blk with
     | none=> exact hne hy
     | some y=> exact hok.sep i k o o1 im' im y (RS i hi) (κS k (List.mem_of_getElem? hk)) hg ho hr' hl him' him hrw hy
    ·exact absurd hl' (by cases o <;> first | exact id | exact hr'.elim)
   ·cases hx'
  have hokc:Ok B.B (fun i=> i < a) μc (Qao (Qvn bs0)) w:=by
   refine ⟨fun i o hi ho hl=> ?_,fun i o im hi ho hl him=> ?_,fun i j oi oj x y hi hj hij hoi hoj hli hlj hx hy hrx hry=> ?_,fun i o hi ho hr=> ?_,fun i j oi oj x y z hi hj hoi hoj hri hlj hx hy hry hz=> ?_⟩
   ·rcases blk i o hi ho with ⟨_,rfl⟩ | ⟨j,k,o1,rfl,hk,hg,h1,h2,h3⟩
    ·exact hl.elim
    ·obtain ⟨im,him,hor⟩:=hok.rel k o1 (κS k (List.mem_of_getElem? hk)) hg h1.1;exact ⟨im,by rw [μs hk];exact him,(h3 im hor).1⟩
   ·rcases blk i o hi ho with ⟨_,rfl⟩ | ⟨j,k,o1,rfl,hk,hg,h1,h2,h3⟩
    ·exact hl.elim
    ·rw [μs hk] at him;exact hok.low k o1 im (κS k (List.mem_of_getElem? hk)) hg h1.1 him
   ·rcases blk i oi hi hoi with ⟨_,rfl⟩ | ⟨j1,k1,o1,rfl,hk1,hg1,h1,_,_⟩
    ·exact hli.elim
    ·rcases blk j oj hj hoj with ⟨_,rfl⟩ | ⟨j2,k2,o2,rfl,hk2,hg2,h2,_,_⟩
     ·exact hlj.elim
     ·rw [μs hk1] at hx;rw [μs hk2] at hy;refine hok.inj k1 k2 o1 o2 x y (κS k1 (List.mem_of_getElem? hk1)) (κS k2 (List.mem_of_getElem? hk2)) (fun e=> ?_) hg1 hg2 h1.1 h2.1 hx hy hrx hry;subst e;exact hij (by rw [κinj j1 j2 k1 hk1 hk2])
   ·rcases blk i o hi ho with ⟨rfl,rfl⟩ | ⟨j,k,o1,rfl,hk,hg,h1,h2,h3⟩
    ·exact ⟨_,μ0,fun b x hx=> Qcp hx⟩
    ·exact absurd hr h2.2
   ·rcases blk i oi hi hoi with ⟨rfl,rfl⟩ | ⟨j1,k1,o1,rfl,hk1,hg1,h1,h2,_⟩
    ·rcases blk j oj hj hoj with ⟨_,rfl⟩ | ⟨j2,k2,o2,rfl,hk2,hg2,h2,_,_⟩
     ·exact hlj.elim
     ·rw [μ0] at hx;cases hx;rw [μs hk2] at hy;exact sep0 hk2 hg2 h2.1 hy hry hz
    ·exact absurd hri h2.2
  have hVRs:VRs μc args args':=by
   rw [<-ha];refine ⟨by simpa [la] using hv.1,fun i u u' hu hu'=> ?_⟩;obtain ⟨v,hv1,hv2⟩:=gaa i u (by simpa using hu);exact dnVR v u u' hv2 (hv.2 i v u' (by simpa using hv1) hu')
  have hfree:∀i,a<=i->μc i=none:=fun i hi=> by
   cases i with
   | zero=> omega
   | succ i=>
     show (match κ[i]? with | some k=> μ k | none=> none)=none;rw [List.getElem?_eq_none (by omega)]
  obtain ⟨out',w',μ',hpost,hout,he⟩:=h B hJ μc w args' cs hokc hB hfree hVRs;have mu':∀i,i < a->μ' i=μc i:=fun i hi=> hpost.ext i (by omega)
  let Gc:Nat->Option Obj:=Qao (Qbg 1 outs++((a,QbH)::(Qbg (a+1) news++Qvn bs0)))
  have okG:Ok B.B (fun i=> i < a\/a<=i/\i < bs0.length+2+news.length) μ' Gc w':=hpost.ok;have aS:∀i,(i < a\/a<=i/\i < bs0.length+2+news.length)<->i < a+1+news.length:=fun i=> by omega
  have Gc_get:∀i,Gc i=match Qao (Qbg 1 outs) i with | some o=> some o | none=> if i=a then some QbH else match Qao (Qbg (a+1) news) i with | some o=> some o | none=> Qao (Qvn bs0) i:=fun i=> Q3S i
  have hga:Gc a=some QbH:=by
   rw [Gc_get,Qco,if_pos (show 1<=a by omega),List.getElem?_eq_none (show outs.length<=a - 1 by omega)];simp
  have hg0:Gc 0=some QbH:=by
   rw [Gc_get,Qco,if_neg (by omega)];simp only;rw [if_neg (by omega),Qco,if_neg (by omega)];simp only;rw [Qn6,if_pos rfl]
  obtain ⟨ima,hima,hrega⟩:=okG.reg a QbH ((aS a).2 (by omega)) hga trivial;obtain ⟨im0,him0,hreg0⟩:=okG.reg 0 QbH ((aS 0).2 (by omega)) hg0 trivial;have e0:=him0;rw [mu' 0 (by omega),μ0] at e0;simp only [YO] at e0;let fm2:Nat->Option Obj:=fun b=> match fmU μ H w R b with
   | some x=> some x
   | none=> ima.fm b
  have fm2w:∀b x,fm2 b=some x->w'.heap[b]? =some x:=fun b x hx=> by
   have hx:(match fmU μ H w R b with | some x=> some x | none=> ima.fm b)=some x:=hx;cases hy:fmU μ H w R b with
   | some y=> rw [hy] at hx;cases hx;exact hreg0 b _ (by rw [<-e0];exact hy)
   | none=> rw [hy] at hx;exact hrega b x hx
  have fm2a:∀b x,ima.fm b=some x->fm2 b=some x:=fun b x hx=> by
   show (match fmU μ H w R b with | some x=> some x | none=> ima.fm b)=some x;cases hy:fmU μ H w R b with
   | some y=>
     have h1:=hrega b x hx;have h2:=hreg0 b y (by rw [<-e0];exact hy);rw [h1] at h2;exact h2.symm
   | none=> exact hx
  have fm20:∀b x,fmU μ H w R b=some x->fm2 b=some x:=fun b x hx=> by
   show (match fmU μ H w R b with | some x=> some x | none=> ima.fm b)=some x;rw [hx]
  let μ2:Mu:=fun i=> if i=n then some ⟨0,0,0,false,fm2⟩ else if n < i/\i < n+1+news.length then μ' (a+1+(i - (n+1))) else μ i
  have hfn:∀i,n<=i->i < n+1+news.length->μ i=none:=fun i h1 h2=> hf i h1 h2
  have μ2n:μ2 n=some ⟨0,0,0,false,fm2⟩:=if_pos rfl;have μ2w:∀{i:Nat},n < i->i < n+1+news.length->μ2 i=μ' (a+1+(i - (n+1))):=fun {i} h1 h2=> by
   show (if i=n then some (⟨0,0,0,false,fm2⟩:Img) else if n < i/\i < n+1+news.length then μ' (a+1+(i - (n+1))) else μ i)=_;rw [if_neg (by omega),if_pos ⟨h1,h2⟩]
  have μ2o:∀{i:Nat},¬(n<=i/\i < n+1+news.length)->μ2 i=μ i:=fun {i} hi=> by
   show (if i=n then some (⟨0,0,0,false,fm2⟩:Img) else if n < i/\i < n+1+news.length then μ' (a+1+(i - (n+1))) else μ i)=_;rw [if_neg (by omega),if_neg (by omega)]
  have κno:∀{k:Nat},k∈κ->¬(n<=k/\k < n+1+news.length):=fun {k} hk=> by have:=κlt k hk;omega
  have Rno:∀{k:Nat},k∈R->¬(n<=k/\k < n+1+news.length):=fun {k} hk=> by have:=Rlt k hk;omega
  have μk:∀{j k:Nat},κ[j]? =some k->μ2 k=μ' (j+1):=fun {j k} hk=> by
   have:j < κ.length:=(List.getElem?_eq_some_iff.1 hk).1;rw [μ2o (κno (List.mem_of_getElem? hk)),mu' (j+1) (by omega),μs hk]
  have upVR:∀v v1 v',mvV (upR κ n) (upT (κ.length+1) n) 4 v=some v1->VR μ' v v'->VR μ2 v1 v':=fun v v1 v' hv=> by
   refine Qtw (fun i k hk im him=> ?_) (fun r r' hr im him=> ?_) 4 hv
   ·cases i with
    | zero=> cases hk
    | succ i=>
      have hk:(bif Nat.blt i κ.length then κ[i]? else bif Nat.beq i κ.length then none else some (n+(i - κ.length)))=some k:=hk;cases h1:Nat.blt i κ.length with
      | true=>
        rw [h1] at hk;simp only [cond_true] at hk;rw [μk hk];exact him
      | false=>
        rw [h1] at hk;simp only [cond_false] at hk;cases h2:Nat.beq i κ.length with
        | true=> rw [h2] at hk;cases hk
        | false=>
          rw [h2] at hk;simp only [cond_false,YO] at hk;subst hk;have h1':¬i < κ.length:=fun hh=> by rw [show Nat.blt i κ.length=true from Nat.ble_eq_true_of_le hh] at h1;cases h1
          have h2':i≠κ.length:=fun hh=> by rw [hh] at h2;simp at h2
          have hlt:i+1 < a+1+news.length:=by
           rcases Nat.lt_or_ge (i+1) (a+1+news.length) with h | h
           ·exact h
           ·have hex:=hpost.ext (i+1) (by omega);rw [hfree (i+1) (by omega)] at hex;rw [hex] at him;cases him
          rw [μ2w (by omega) (by omega),show a+1+(n+(i - κ.length) - (n+1))=i+1 by omega];exact him
   ·unfold upT at hr;cases hc:(Nat.beq r 0 || Nat.beq r (κ.length+1)) with
    | false=> rw [hc] at hr;cases hr
    | true=>
      rw [hc] at hr;simp only [cond_true,YO] at hr;subst hr;refine ⟨_,μ2n,fun b x hx=> ?_⟩;simp only [Bool.or_eq_true] at hc;rcases hc with hc | hc
      ·have:=YE hc;subst this;rw [him0] at him;cases him;exact fm20 b x (by rw [<-e0] at hx;exact hx)
      ·have:=YE hc;rw [this,<-lb] at him;have him:μ' a=some im:=him;rw [hima] at him;cases him;exact fm2a b x hx
  have memκ:∀{k:Nat},k∈κ->∃j,κ[j]? =some k:=fun hk=> List.getElem?_of_mem hk
  have outW:∀{i:Nat},i∈List.range' 1 bs0.length->∃j k,i=j+1/\κ[j]? =some k:=fun {i} hi=> by
   rw [List.mem_range'_1] at hi;have:i - 1 < κ.length:=by omega
   exact ⟨i - 1,κ[i - 1],by omega,by simp [this]⟩
  -- where a block of the caller's stands in the contract
  let Pt:Nat->Nat->Prop:=fun i j=> (∃q,κ[q]? =some i/\j=q+1)\/(n < i/\i < n+1+news.length/\j=a+1+(i - (n+1)))
  have pt_inj:∀{i1 i2 j:Nat},Pt i1 j->Pt i2 j->i1=i2:=fun {i1 i2 j} h1 h2=> by
   rcases h1 with ⟨q1,hq1,rfl⟩ | ⟨h1,h1',rfl⟩
   ·have:=(List.getElem?_eq_some_iff.1 hq1).1;rcases h2 with ⟨q2,hq2,e⟩ | ⟨h2,h2',e⟩
    ·obtain rfl:q1=q2:=by omega
     rw [hq1] at hq2;cases hq2;rfl
    ·omega
   ·rcases h2 with ⟨q2,hq2,e⟩ | ⟨h2,h2',e⟩
    ·have:=(List.getElem?_eq_some_iff.1 hq2).1;omega
    ·omega
  have after:∀{i j:Nat},Pt i j->∃o o2,Gc j=some o/\G2 i=some o2/\j < a+1+news.length/\μ2 i=μ' j/\(live o/\¬Qcu o)/\(live o2/\¬Qcu o2)/\∀im,OR μ' w' im o->OR μ2 w' im o2/\im.rw=true:=fun {i j} hp=> by
   rcases hp with ⟨q,hq,rfl⟩ | ⟨h1,h2,rfl⟩
   ·have hql:=(List.getElem?_eq_some_iff.1 hq).1;have hj:q < outs.length:=by omega
    obtain ⟨o2,ho2⟩:=newAt hq;obtain ⟨p,o',M,g1,g2,g3⟩:=go q o2 ho2;rw [List.getElem?_map,show outs[q]? =some outs[q] by simp [hj]] at g1;simp only [Option.map_some,YO] at g1;obtain ⟨m1,m2⟩:=Qnv g2;refine ⟨o',o2, ?_,by rw [gk hq,ho2],by omega,μk hq,m1,m2,fun im hor=> QvF upVR g2 g3 hor⟩;rw [Gc_get,Qco,if_pos (by omega)];simp [hj,g1]
   ·have hi:i - (n+1) < news.length:=by omega
    have hi':i - (n+1) < ns.length:=by omega
    obtain ⟨p,o',M,g1,g2,g3⟩:=gnw (i - (n+1)) ns[i - (n+1)] (by simp [hi']);rw [List.getElem?_map,show news[i - (n+1)]? =some news[i - (n+1)] by simp [hi]] at g1;simp only [Option.map_some,YO] at g1;obtain ⟨m1,m2⟩:=Qnv g2;refine ⟨o',ns[i - (n+1)], ?_,by rw [gw h1 h2];simp [hi'],by omega,μ2w h1 h2,m1,m2,fun im hor=> QvF upVR g2 g3 hor⟩;rw [Gc_get,Qco,if_pos (by omega),List.getElem?_eq_none (by omega)];simp only;rw [if_neg (by omega),Qco,if_pos (by omega),show a+1+(i - (n+1)) - (a+1)=i - (n+1) by omega];simp [hi,g1]
  have regNot:∀{i:Nat} {o:Obj},i∈κ->Qao H i=some o->live o/\¬Qcu o:=fun {i o} hi ho=> by
   obtain ⟨j,hj⟩:=memκ hi;obtain ⟨o1,hg,h1,_⟩:=was hj;rw [ho] at hg;cases hg;exact h1
  have Rκ:∀{i:Nat},i∈R->i ∉ κ:=fun {i} hi hk=> by
   obtain ⟨o,ho,hr⟩:=Qby (Rreg i hi);exact (regNot hk ho).2 hr
  -- what is live, and what is a region, behind the call
  have isPt:∀{i:Nat} {o:Obj},((i∈κ\/i∈R)\/(n<=i/\i < n+1+news.length))->G2 i=some o->live o->∃j,Pt i j:=fun {i o} hi ho hl=> by
   rcases hi with (hi | hi) | hi
   ·obtain ⟨q,hq⟩:=memκ hi;exact ⟨q+1,.inl ⟨q,hq,rfl⟩⟩
   ·rw [gr (Rκ hi) (Rno hi)] at ho;obtain ⟨o',ho',hr⟩:=Qby (Rreg i hi);rw [ho] at ho';cases ho';exact absurd hl (by cases o <;> first | exact id | exact hr.elim)
   ·by_cases e:i=n
    ·subst e;rw [gn] at ho;cases ho;exact hl.elim
    ·exact ⟨_,.inr ⟨by omega,hi.2,rfl⟩⟩
  have isR:∀{i:Nat} {o:Obj},((i∈κ\/i∈R)\/(n<=i/\i < n+1+news.length))->G2 i=some o->Qcu o->(i∈R/\Qao H i=some o)\/(i=n/\o=QbH):=fun {i o} hi ho hr=> by
   rcases hi with (hi | hi) | hi
   ·obtain ⟨q,hq⟩:=memκ hi;obtain ⟨_,o2,_,h2,_,_,_,h5,_⟩:=after (.inl ⟨q,hq,rfl⟩);rw [h2] at ho;cases ho;exact absurd hr h5.2
   ·exact .inl ⟨hi,by rw [<-gr (Rκ hi) (Rno hi)];exact ho⟩
   ·by_cases e:i=n
    ·subst e;rw [gn] at ho;cases ho;exact .inr ⟨rfl,rfl⟩
    ·obtain ⟨_,o2,_,h2,_,_,_,h5,_⟩:=after (i:=i) (.inr ⟨by omega,hi.2,rfl⟩);rw [h2] at ho;cases ho;exact absurd hr h5.2
  have frm:∀b,b < w.heap.size->(∀k∈κ,∀im,μ k=some im->im.blk≠b)->w'.heap[b]? =w.heap[b]? :=fun b hb hx=> hpost.frame b hb fun i hi hia im him=> by
   obtain ⟨j,k,rfl,hk⟩:=outW hi;rw [μs hk] at him;exact hx k (List.mem_of_getElem? hk) im him
  have newSz:∀{i j:Nat} {o:Obj} {im:Img},n < i->i < n+1+news.length->j=a+1+(i - (n+1))->Gc j=some o->live o->μ' j=some im->im.rw=true/\w.heap.size<=im.blk:=fun {i j o im} h1 h2 hj ho hl him=> by
   obtain ⟨p,q⟩:=hpost.fresh j im o (by omega) (by omega) ho hl him;refine ⟨p,q.elim id ?_⟩;rintro ⟨k,hk,hka,him',hd⟩;obtain ⟨q',k',rfl,hk'⟩:=outW hk;obtain ⟨o',_,h3,_,_,_,h4,_⟩:=after (.inl ⟨q',hk',rfl⟩);exact absurd h4.1 (hd o' h3)
  have hPG:PG B.B (fun i=> i∈κ\/i∈R) (fun i=> n<=i/\i < n+1+news.length) (fun i=> i∈κ) μ μ2 (Qao H) G2 w w':=by
   refine ⟨⟨fun i o hi ho hl=> ?_,fun i o im hi ho hl him=> ?_,fun i j oi oj x y hi hj hij hoi hoj hli hlj hx hy hrx hry=> ?_,fun i o hi ho hr=> ?_,fun i j oi oj x y z hi hj hoi hoj hri hlj hx hy hry hz=> ?_⟩,fun i hi=> μ2o hi,fun i hi hw=> gr hw hi,hpost.grow,fun b hb hx=> frm b hb hx,fun i hi=> ?_,fun i im o hi ho hl him=> ?_,fun i im o hi ho hr him b x hx=> ?_,hpost.os,hpost.tape,hpost.output⟩
   ·obtain ⟨j,hp⟩:=isPt hi ho hl;obtain ⟨o',o2,h1,h2,h3,h4,h5,h6,h7⟩:=after hp;rw [h2] at ho;cases ho;obtain ⟨im,him,hor⟩:=okG.rel j o' ((aS j).2 h3) h1 h5.1;exact ⟨im,by rw [h4];exact him,(h7 im hor).1⟩
   ·obtain ⟨j,hp⟩:=isPt hi ho hl;obtain ⟨o',o2,h1,h2,h3,h4,h5,h6,h7⟩:=after hp;rw [h4] at him;exact okG.low j o' im ((aS j).2 h3) h1 h5.1 him
   ·obtain ⟨j1,hp1⟩:=isPt hi hoi hli;obtain ⟨j2,hp2⟩:=isPt hj hoj hlj;obtain ⟨o1,_,g1,_,l1,m1,n1,_⟩:=after hp1;obtain ⟨o2,_,g2,_,l2,m2,n2,_⟩:=after hp2;rw [m1] at hx;rw [m2] at hy;refine okG.inj j1 j2 o1 o2 x y ((aS j1).2 l1) ((aS j2).2 l2) (fun e=> ?_) g1 g2 n1.1 n2.1 hx hy hrx hry;subst e;exact hij (pt_inj hp1 hp2)
   ·rcases isR hi ho hr with ⟨hi,hg⟩ | ⟨rfl,rfl⟩
    ·obtain ⟨im,him,hx⟩:=hok.reg i o (RS i hi) hg hr;refine ⟨im,by rw [μ2o (Rno hi)];exact him,fun b x hb=> ?_⟩;have hw:=hx b x hb;rw [frm b (Array.getElem?_eq_some_iff.1 hw).1 fun k hk im' him' hbb=> ?_]
     ·exact hw
     ·obtain ⟨j,hj⟩:=memκ hk;obtain ⟨o1,hg1,h1,h3⟩:=was hj;exact hok.sep i k o o1 im im' x (RS i hi) (κS k hk) hg hg1 hr h1.1 him him' (h3 im' him') (by rw [hbb];exact hb)
    ·exact ⟨_,μ2n,fm2w⟩
   ·obtain ⟨q,hp⟩:=isPt hj hoj hlj;obtain ⟨o',o2,h1,h2,h3,h4,h5,h6,h7⟩:=after hp;rcases isR hi hoi hri with ⟨hi,hg⟩ | ⟨rfl,rfl⟩
    ·rw [μ2o (Rno hi)] at hx;rcases hp with ⟨q',hq',rfl⟩ | ⟨g1,g2,rfl⟩
     ·obtain ⟨o1,hg1,h1',_⟩:=was hq';rw [μ2o (κno (List.mem_of_getElem? hq'))] at hy;exact hok.sep i j oi o1 x y z (RS i hi) (κS j (List.mem_of_getElem? hq')) hg hg1 hri h1'.1 hx hy hry hz
     ·rw [h4] at hy;have hsz:=(newSz g1 g2 rfl h1 h5.1 hy).2;have:=Qfc hok (RS i hi) hg hri hx hz;omega
    ·rw [μ2n] at hx;cases hx;rw [h4] at hy;have hz:(match fmU μ H w R y.blk with | some x=> some x | none=> ima.fm y.blk)=some z:=hz;cases hu:fmU μ H w R y.blk with
     | some u=> exact okG.sep 0 q QbH o' im0 y u ((aS 0).2 (by omega)) ((aS q).2 h3) hg0 h1 trivial h5.1 him0 hy hry (by rw [<-e0];exact hu)
     | none=>
       rw [hu] at hz;exact okG.sep a q QbH o' ima y z ((aS a).2 (by omega)) ((aS q).2 h3) hga h1 trivial h5.1 hima hy hry hz
   ·obtain ⟨j,hj⟩:=memκ hi;obtain ⟨o1,hg1,h1,h3⟩:=was hj;obtain ⟨im2,him2,hor⟩:=hok.rel i o1 (κS i hi) hg1 h1.1;exact ⟨.inl hi,⟨o1,hg1,h1.1⟩,im2,him2,h3 im2 him2⟩
   ·obtain ⟨j,hp⟩:=isPt (.inr hi) ho hl;obtain ⟨o',o2,h1,h2,h3,h4,h5,h6,h7⟩:=after hp;rw [h4] at him;rcases hp with ⟨q',hq',rfl⟩ | ⟨g1,g2,rfl⟩
    ·have:=κlt i (List.mem_of_getElem? hq');omega
    ·have:=newSz g1 g2 rfl h1 h5.1 him;exact ⟨this.1,.inl this.2⟩
   ·rcases isR (hi.elim .inr fun hi=> .inl (.inl hi)) ho hr with ⟨hiR,_⟩ | ⟨rfl,rfl⟩
    ·exact absurd (hi.elim (fun h=> absurd h (Rno hiR)) (fun h=> absurd h (Rκ hiR))) id
    rw [μ2n] at him;cases him;have old:∀y,fmU μ H w R b=some y->∃k kim ko,(k∈κ\/k∈R)/\Qao H k=some ko/\Qcu ko/\μ k=some kim/\kim.fm b=some y:=fun y hy=> by
     have hw:=Qcp hy;unfold fmU at hy;split at hy
     ·rename_i hc;obtain ⟨i,hi,o,im',hg,him',hcase⟩:=hc;obtain ⟨o',ho',hr'⟩:=Qby (Rreg i hi);rw [hg] at ho';cases ho';rcases hcase with ⟨_,hne⟩ | ⟨hl',_⟩
      ·cases hz:im'.fm b with
       | none=> exact absurd hz hne
       | some z=>
         obtain ⟨im3,him3,hf3⟩:=hok.reg i o (RS i hi) hg hr';rw [him'] at him3;cases him3;have:=hf3 b z hz;rw [hw] at this;cases this;exact ⟨i,im',o,.inr hi,hg,hr',him',hz⟩
      ·exact absurd hl' (by cases o <;> first | exact id | exact hr'.elim)
     ·cases hy
    have hx:(match fmU μ H w R b with | some x=> some x | none=> ima.fm b)=some x:=hx;cases hu:fmU μ H w R b with
    | some u=>
      rw [hu] at hx;cases hx;exact .inr (.inl (old _ hu))
    | none=>
      rw [hu] at hx;rcases hpost.rf a ima QbH (.inl ⟨Nat.le_refl _,by omega⟩) hga trivial hima b x hx with q | ⟨k,kim,ko,k1,_,k3,k4,k5,k6⟩ | ⟨k,hk,hka,him',hd⟩
      ·exact .inl q
      ·rcases blk k ko k1 k3 with ⟨rfl,rfl⟩ | ⟨_,_,_,_,_,_,_,k7,_⟩
       ·rw [μ0] at k5;cases k5;have:fmU μ H w R b=some x:=k6;rw [hu] at this;cases this
       ·exact absurd k4 k7.2
      ·obtain ⟨j,k',rfl,hk'⟩:=outW hk;obtain ⟨o',_,h3,_,_,_,h4,_⟩:=after (.inl ⟨j,hk',rfl⟩);exact absurd h4.1 (hd o' h3)
  have hthen:=PG.then (G2:=G2) (PG.refl hok) hPG (fun i hi=> .inl (hi.elim (κS i) (RS i))) (fun i _=> rfl) (fun i hi=> ⟨fun hs=> by have:=hS i hs;omega,id⟩) (fun i hi=> hfn i hi.1 hi.2) (fun i _=> rfl) fun i hw hn=> gr hw hn
  have eW:(fun i=> False\/(i∈κ/\¬False))=fun i=> i∈κ/\i < n:=funext fun i=> propext ⟨fun hi=> hi.elim False.elim fun hi=> ⟨hi.1,κlt i hi.1⟩,fun hi=> .inr ⟨hi.1,id⟩⟩
  have hthen:PG B.B S (fun i=> False\/(n<=i/\i < n+1+news.length)) (fun i=> False\/(i∈κ/\¬False)) μ μ2 (Qao H) G2 w w':=hthen;rw [eW] at hthen;refine ⟨out',w',μ2,hthen.post (fun i=> ⟨fun hi=> hi.elim False.elim id,.inr⟩) (by omega) hS, ?_,he⟩;cases hout with
  | ret hvr=>
    unfold Q27 at e3;split at e3
    ·rename_i v0 q0;cases q0;split at e3
     ·rename_i u hu1;simp only [YO] at e3;subst e3;exact .ret (upVR _ _ _ hu1 hvr)
     ·cases e3
    ·rename_i v0 q0;cases q0
  | pan hvr=>
    unfold Q27 at e3;split at e3
    ·rename_i v0 q0;cases q0
    ·rename_i v0 q0;cases q0;split at e3
     ·rename_i u hu1;simp only [YO] at e3;subst e3;exact .pan (upVR _ _ _ hu1 hvr)
     ·cases e3
 ·cases e
end
end Go.CE
