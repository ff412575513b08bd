/- CE: frames. Eighth part: the whole run. -/
import Derived.Test.YtncjjangllkokaaZRP03
set_option linter.all false
namespace Go.CE
open Go Go.RowKit

theorem Qzg {α:Type} {q:Bool} {x:α} {r:Option α} (h:(bif q then some x else none)=r) (hr:r.isSome=true):q=true:=by
 cases q with
 | true=> rfl
 | false=> subst h;cases hr
section
variable {P:Program} {F:FuncId->Bool} {orc:Orc} {B:Lo} {rec:CF->Qan->Nat->Option Rs} {c:CF} {H:Qan} {n:Nat}
theorem Qhf (hF:∀g,F g=true->Qa3 P g=true) (hrec:Qut P B rec) {f:Operand} {ps:Array Tmp} {assign body:Code} {k:List Item} {fv:Value} {H1:Qan} {l:Nat} {ds R1 R2:List Nat} {g:FuncId} {args:Array Value} {c1:CF} {s:Rs} (hm:c.mode=.run) (hu:Under H n)
 (ht:c.todo=.code (.rangeFunc f ps assign body)::k) (hfv:evC c.tmps f=some fv) (ho:Qdj c H n ps assign body=some (H1,l,ds,R1)) (hc:Qhh F H1 fv #[.func (.yield l) #[] #[]]=some (.enter g args,R2)) (he:QbQ P g args=some c1) (hs:rec c1 H1 (l+1)=some s):
 Shape H n s.H s.n (R1++R2++s.R) s.W/\∀(S:Nat->Prop) (μ:Mu) (w:World) (fr:Frame) (cs:List Frame) (Z:Bot),Ok B S μ (Qao H) w->B.has w->(∀i,S i->i < n)->QiU μ n s.n->FrR Z μ c fr->(∀i∈R1++R2++s.R,i < n->S i)->
  ∃out' w' μ' im mark L',Post B S n s.n s.W μ μ' H s.H w w'/\μ' l=some im/\OR2 μ' s.out out'/\TodoR μ' k L'/\DfR μ' ds mark/\fr.mode=.run/\Ext μ μ'/\TR μ' c.tmps fr.tmps/\
   Steps P (lone fr cs w) (lone (out'.on {fr with todo:=.inRangeFunc im.blk::L',defers:=mark++fr.defers}) cs w'):=by
 have hR2:=QqW hc;subst hR2;rw [List.append_nil];obtain ⟨hsh1,hsem⟩:=Qge (P:=P) (B:=B) hu ho;have hfj:=hrec c1 H1 (l+1) s (hu.shape hsh1) hs;have l1:=hsh1.le;have l2:=hfj.shape.le;refine ⟨hsh1.trans hfj.shape,fun S μ w fr cs Z hok hB hS hf hfr hR=> ?_⟩;obtain ⟨a,b,d⟩:=hfr.running hm;rw [ht] at d;obtain ⟨L',e,hL⟩:=d.code;have hf1:QiU μ n (l+1):=fun q x y=> hf q x (by omega)
 obtain ⟨mark,w1,μ1,im,hel,him,hp,hdf⟩:=hsem S μ w fr hok hB hS hf1 hfr.fn b hfr.round (fun q hq hlt=> hR q (List.mem_append_left _ hq) hlt);have e1:=hp.mu hf1;obtain ⟨nx',hrun,hnr⟩:=QpP (P:=P) hF hc hp.ok ((Qua b f fv hfv).mono e1) (args':=#[.func (.yield im.blk) #[] #[]]) ⟨rfl,fun i v v' h1 h2=> by
  match i,h1,h2 with
  | 0,h1,h2=> simp only [List.getElem?_toArray,List.getElem?_cons_zero,YO] at h1 h2;subst h1 h2;exact .yield him
  | i+1,h1,h2=> simp at h1⟩ (fun i hi=> by simp at hi)
 cases hnr with
 | enter ha=>
   have hf2:∀q,l+1<=q->q < s.n->μ1 q=none:=fun q x y=> by rw [hp.ext q (by omega)];exact hf q (by omega) y
   obtain ⟨out',w',μ',hp2,ho2,hends⟩:=hfj.sem _ μ1 w1 _ ({fr with todo:=.inRangeFunc im.blk::L',defers:=mark++fr.defers}::cs) hp.ok (hB.post hok hp) (fun q hq=> hq.elim (fun e=> by have:=hS q e;omega) (fun e=> e.2)) hf2 (QcE he ha) (fun q hq hlt=> by
    rcases Nat.lt_or_ge q n with h1 | h1
    ·exact .inl (hR q (List.mem_append_right _ hq) h1)
    ·exact .inr ⟨h1,hlt⟩)
   have e2:=hp2.mu hf2;exact ⟨out',w',μ',im,mark,L',hp.trans hp2,e2 _ _ him,ho2,hL.mono (e1.trans e2),hdf.mono e2,a,e1.trans e2,b.mono (e1.trans e2),.head (Ql3 a e hel hrun) (hends.2 _ _ rfl)⟩
theorem QpJ (hF:∀g,F g=true->Qa3 P g=true) (hrec:Qut P B rec) {f:Operand} {ps:Array Tmp} {assign body:Code} {k:List Item} {fv v:Value} {H1:Qan} {l:Nat} {ds R1 R2:List Nat} {g:FuncId} {args:Array Value} {c1:CF} {s:Rs} (hm:c.mode=.run) (hu:Under H n)
 (ht:c.todo=.code (.rangeFunc f ps assign body)::k) (hfv:evC c.tmps f=some fv) (ho:Qdj c H n ps assign body=some (H1,l,ds,R1)) (hc:Qhh F H1 fv #[.func (.yield l) #[] #[]]=some (.enter g args,R2)) (he:QbQ P g args=some c1) (hs:rec c1 H1 (l+1)=some s) (hv:s.out=.ret v):
 GoJ P B c H n {c with todo:=.endRangeFunc l::k,defers:=ds++c.defers} s.H s.n (R1++R2++s.R) s.W:=by
 obtain ⟨hsh,hsem⟩:=Qhf hF hrec hm hu ht hfv ho hc he hs;refine ⟨hsh,fun S μ w fr cs Z hok hB hS hf hfr hR=> ?_⟩;obtain ⟨out',w',μ',im,mark,L',hp,him,hor,hL,hdf,a,e,hT,hst⟩:=hsem S μ w fr cs Z hok hB hS hf hfr hR;rw [hv] at hor;cases hor with
 | ret _=> exact ⟨{fr with todo:=.endRangeFunc im.blk::L',defers:=mark++fr.defers},w',μ',hp,⟨hfr.fn,hT,fun _=> .cons (.endRF him) hL,DfB.app hdf (hfr.defers.mono e),hfr.mode.mono e,hfr.kind,hfr.round.mono e⟩,rfl,rfl,hst⟩
theorem QiE (hF:∀g,F g=true->Qa3 P g=true) (hrec:Qut P B rec) {f:Operand} {ps:Array Tmp} {assign body:Code} {k:List Item} {fv v:Value} {H1:Qan} {l:Nat} {ds R1 R2:List Nat} {g:FuncId} {args:Array Value} {c1:CF} {s:Rs} (hm:c.mode=.run) (hu:Under H n)
 (ht:c.todo=.code (.rangeFunc f ps assign body)::k) (hfv:evC c.tmps f=some fv) (ho:Qdj c H n ps assign body=some (H1,l,ds,R1)) (hc:Qhh F H1 fv #[.func (.yield l) #[] #[]]=some (.enter g args,R2)) (he:QbQ P g args=some c1) (hs:rec c1 H1 (l+1)=some s) (hv:s.out=.pan v):
 GoJ P B c H n {c with mode:=.pan v,defers:=ds++c.defers} s.H s.n (R1++R2++s.R) s.W:=by
 obtain ⟨hsh,hsem⟩:=Qhf hF hrec hm hu ht hfv ho hc he hs;refine ⟨hsh,fun S μ w fr cs Z hok hB hS hf hfr hR=> ?_⟩;obtain ⟨out',w',μ',im,mark,L',hp,him,hor,hL,hdf,a,e,hT,hst⟩:=hsem S μ w fr cs Z hok hB hS hf hfr hR;rw [hv] at hor;cases hor with
 | pan hvr=>
   rename_i v';refine ⟨{fr with todo:=.inRangeFunc im.blk::L',defers:=mark++fr.defers,mode:=.panicking [{v:=v',recovered:=false}]},w',μ',hp,⟨hfr.fn,hT,(fun h=> by cases h),DfB.app hdf (hfr.defers.mono e),.pan hvr,hfr.kind,hfr.round.mono e⟩,rfl,rfl,hst.trans ?_⟩;simp only [OO.on,Frame.raise,a];exact Steps.refl _ _
theorem Qcr (hF:∀g,F g=true->Qa3 P g=true) (hmix:P.follows .mixedOrders=true) (horc:QdD P B orc) (hrec:Qut P B rec) (hu:Under H n) {fs:FS} (h:Qg9 P F orc rec c H n=some fs):Q4A P B c H n fs:=by
 unfold Qg9 at h;split at h
 ·rename_i hm;split at h
  ·rename_i ht;exact QeQ hm hu (QtC ht) h
  ·rename_i k ht;exact QeQ hm hu (QuN ht) h
  ·rename_i k ht;simp only [YO] at h;subst h;exact Q21 hm ht
  ·rename_i l k ht;simp only [YO] at h;subst h;exact QzD hm ht
  ·rename_i l k ht;simp only [YO] at h;subst h;exact QuQ hm ht
  ·rename_i l k ht;simp only [YO] at h;subst h;exact QuC hm ht
  ·rename_i x y k ht;simp only [YO] at h;subst h;exact Q3m hm ht
  ·rename_i q x y k ht;split at h
   ·rename_i t hq;simp only [YO] at h;subst h;exact Q2C hm ht hq
   ·cases h
  ·rename_i id x k ht;simp only [YO] at h;subst h;exact Q0l hm ht
  ·rename_i x k ht;simp only [YO] at h;subst h;exact Q2j hm ht
  ·rename_i x k ht;simp only [YO] at h;subst h;exact Qyb hm ht
  ·rename_i x k ht;simp only [YO] at h;subst h;exact Qzl hm ht
  ·rename_i id k ht;split at h
   ·rename_i k' hx;simp only [YO] at h;subst h;exact Q1V hm ht hx
   ·rename_i hx;exact QeQ hm hu (Qq6 ht hx) h
  ·rename_i id k ht;split at h
   ·rename_i k' hx;simp only [YO] at h;subst h;exact Q1l hm ht hx
   ·rename_i hx;exact QeQ hm hu (Qr4 ht hx) h
  ·rename_i id ops draw k ht;split at h
   ·rename_i recs T' H' n' hr;cases hd:(!draw || (Qcw 0 ops.toList && indep ops 0 recs (QiG ops.toList []))) with
    | false=> rw [hd] at h;cases h
    | true=>
      rw [<-Qb8 h];exact Qwo hF hrec horc hmix hm hu ht hr hd
   ·rename_i recs T' v H' n' R W hr;cases hd:(!draw || Qg0 ops recs T') with
    | false=> rw [hd] at h;cases h
    | true=>
      rw [<-Qb8 h];cases draw with
      | true=>
        obtain ⟨hs,hk,hro⟩:=Qdb hF hrec horc (len:=c.tmps.len) ops.toList c.tmps H n recs _ rfl hu hr;exact Qk1 hmix hm ht hs hk hro (by simpa using hd)
      | false=> exact QmW hF hrec horc hm hu ht hr
   ·cases h
  ·rename_i f ps assign body k ht;split at h
   ·rename_i fv hfv;split at h
    ·rename_i H1 l ds R1 ho;split at h
     ·rename_i g args R2 hc;split at h
      ·rename_i c1 he;split at h
       ·rename_i s hs;split at h
        ·rename_i v hv;simp only [YO] at h;subst h;exact QpJ hF hrec hm hu ht hfv ho hc he hs hv
        ·rename_i v hv;simp only [YO] at h;subst h;exact QiE hF hrec hm hu ht hfv ho hc he hs hv
       ·cases h
      ·cases h
     ·cases h
    ·cases h
   ·cases h
  ·rename_i l k ht;split at h
   ·rename_i r hg;by_cases hs:r.state=.busy
    ·simp [hs] at h
    ·simp only [hs,decide_false,Bool.not_false,cond_true,YO] at h;subst h;exact QzA hm hu ht hg hs
   ·cases h
  ·rename_i k ht;split at h
   ·rename_i l hr;split at h
    ·rename_i r hg;by_cases hs:r.state=.ready
     ·simp only [hs,decide_true,cond_true,YO] at h;subst h;exact Qmn hm hu ht hr hg hs
     ·simp [hs] at h
    ·cases h
   ·cases h
  ·cases h
 ·rename_i hm;split at h
  ·rename_i d ds hd;split at h
   ·rename_i hg;simp only [YO] at h;subst h;exact QuR hm hu hd hg
   ·cases h
  ·rename_i hd;split at h
   ·rename_i v hv;have hq:=Qzg h rfl;rw [<-Qb8 h];exact Qy6 hv hd hq
   ·rename_i hnp;split at h
    ·rename_i v R hr hv;simp only [YO] at h;subst h;refine QzT hu ?_ hd hv;cases hq:c.mode with
     | run=> exact absurd hq hm
     | ret=> rfl
     | pan v=> exact absurd hq (hnp v)
    ·cases h
theorem FJ.lists {out:OO} {H':Qan} {n':Nat} {R W R' W':List Nat} (h:FJ P B c H n out H' n' R W) (hR:∀i,i < n->(i∈R'<->i∈R)) (hW:∀i,i < n->(i∈W'<->i∈W)) (hlt:∀i∈W',i < n):FJ P B c H n out H' n' R' W':=by
 refine ⟨⟨h.shape.le,fun i hi hw=> h.shape.keep i hi fun e=> hw ((hW i hi).2 e),h.shape.top,fun i hi=> (hR i (hlt i hi)).2 (h.shape.sub i ((hW i (hlt i hi)).1 hi)),fun i hi=> by have:=hlt i hi;have:=h.shape.le;omega⟩,fun S μ w fr cs hok hB hS hf hfr hRS=> ?_⟩;obtain ⟨out',w',μ',hp,ho,he⟩:=h.sem S μ w fr cs hok hB hS hf hfr (fun i hi hl=> hRS i ((hR i hl).2 hi) hl);exact ⟨out',w',μ',hp.lists hW,ho,he⟩
theorem Qbv {b:Nat} {l acc:List Nat} {i:Nat} (hi:i < b):i∈Qdf b l acc<->i∈acc\/i∈l:=by
 obtain ⟨h1,h2,h3⟩:=Qmp (b:=b) l acc i;exact ⟨fun h=> (h1 h).imp id And.left,fun h=> h.elim h2 fun h=> h3 h hi⟩
theorem Qf3 {b:Nat} {l acc:List Nat} (h:∀i∈acc,i < b):∀i∈Qdf b l acc,i < b:=fun i hi=> ((Qmp (b:=b) l acc i).1 hi).elim (h i) And.right
theorem Qd5 (hF:∀g,F g=true->Qa3 P g=true) (hmix:P.follows .mixedOrders=true) (horc:QdD P B orc):∀(fuel:Nat) (b:Nat) (c:CF) (H:Qan) (n:Nat) (R0 W0:List Nat) (s:Rs),Under H n->(∀i∈R0,i < b)->(∀i∈W0,i < b)->Qyn P F orc fuel b c H n R0 W0=some s->
 ∃Rr Wr,FJ P B c H n s.out s.H s.n Rr Wr/\(∀i,i < b->(i∈s.R<->i∈R0\/i∈Rr))/\(∀i,i < b->(i∈s.W<->i∈W0\/i∈Wr))/\(∀i∈s.R,i < b)/\(∀i∈s.W,i < b)
 | 0,b,c,H,n,R0,W0,s,hu,hR0,hW0,h=> by simp [Qyn] at h
 | fuel+1,b,c,H,n,R0,W0,s,hu,hR0,hW0,h=> by
   have hrec:Qut P B (fun c1 H1 n1=> Qyn P F orc fuel n1 c1 H1 n1 [] []):=by
    intro c1 H1 n1 s1 hu1 h1;obtain ⟨Rr,Wr,hfj,a1,a2,a3,a4⟩:=Qd5 hF hmix horc fuel n1 c1 H1 n1 [] [] s1 hu1 (fun i hi=> by simp at hi) (fun i hi=> by simp at hi) h1;exact hfj.lists (fun i hi=> by simpa using a1 i hi) (fun i hi=> by simpa using a2 i hi) a4
   simp only [Qyn] at h;split at h
   ·rename_i c' H' n' R' W' hs;have hgo:GoJ P B c H n c' H' n' R' W':=Qcr hF hmix horc hrec hu hs;obtain ⟨Rr,Wr,hfj,a1,a2,a3,a4⟩:=Qd5 hF hmix horc fuel b c' H' n' (Qdf b R' R0) (Qdf b W' W0) s (hu.shape hgo.shape) (Qf3 hR0) (Qf3 hW0) h;refine ⟨R'++Rr,W'++Wr,hgo.fj hfj,fun i hi=> ?_,fun i hi=> ?_,a3,a4⟩
    ·rw [a1 i hi,Qbv hi,List.mem_append,or_assoc]
    ·rw [a2 i hi,Qbv hi,List.mem_append,or_assoc]
   ·rename_i out H' n' R' W' hs;have hdone:FJ P B c H n out H' n' R' W':=Qcr hF hmix horc hrec hu hs;simp only [YO] at h;subst h;exact ⟨R',W',hdone,fun i hi=> Qbv hi,fun i hi=> Qbv hi,Qf3 hR0,Qf3 hW0⟩
   ·cases h
end
end Go.CE
