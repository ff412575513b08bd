/- TW 7: heads and ends of runs with trees; contracts. -/
import Derived.Test.YtncjjangllkokaaZRP09
import Derived.Deep.Slices
import Derived.Carry
import Derived.WideShapes
import Derived.ChangeShapes
import Derived.SevenTiedAt
import Derived.Test.YtncjjangllkokaaZRP07
import Derived.Test.YtncjjangllkokaaProg
set_option linter.all false
namespace Go.CE
open Go Go.RowKit

def H00:Qan:=[(0,QbH)]
def Qa6 (objs:List Obj):Qan:=(0,QbH)::(1,QbH)::Qbg 2 objs
theorem Qpm (objs:List Obj) (j:Nat):Qao (Qa6 objs) j=if j=0 then some QbH else if j=1 then some QbH else objs[j - 2]? :=by
 unfold Qa6;rw [Qa4,Qa4,Qco];by_cases h0:j=0
 ·simp [h0]
 ·by_cases h1:j=1
  ·simp [h1]
  ·rw [if_neg h0,if_neg h1,if_pos (by omega),if_neg h0,if_neg h1]
theorem Qkb (objs:List Obj):Under (Qa6 objs) (2+objs.length):=fun i hi=> by
 rw [Qpm,if_neg (by omega),if_neg (by omega),List.getElem?_eq_none (by omega)]
def QhY (H:Qan) (m:Nat) (pos:Nat->Option Nat) (fz:List Fz):List (Nat×KS)->Option (List Obj×List Prop)
 | []=> some ([],[])
 | (k,s)::l=> match coO H m pos fz (Qao H k) s with
   | some (o,L)=> match QhY H m pos fz l with
     | some (os,L2)=> some (o::os,L++L2)
     | none=> none
   | none=> none
structure Q38 where
 fn:FuncId
 len:Nat
 todo:List Item
 defers:List Nat
 mode:CM
 roundOf:Option Nat
 vals:List Value
 objs:List Obj
 L:List Prop
def Q3v:Option Obj->Bool
 | some (.cells _ _ (0,0))=> true
 | _=> false
def landM (s:Option ST) (slots:List Nat) (keeps:List (Nat×KS)) (fz:List Fz):Option Q38:=match s with
 | some ⟨.at c H n,W,L⟩=> bif W.isEmpty && distinct (keeps.map (·.1)) && (keeps.all fun k=> Nat.ble 1 k.1) && (fz.all fun x=> Nat.ble 1 x.k && Q3v (Qao H x.k) && (keeps.all fun k=> !(Nat.beq k.1 x.k))) then
  match coL (coV H 1 (posOf (keeps.map (·.1)) 2) fz 3) (slots.map (Qch c.tmps)),QhY H 1 (posOf (keeps.map (·.1)) 2) fz keeps with
  | some (vs,L1),some (os,L2)=> some ⟨c.fn,c.tmps.len,c.todo,c.defers,c.mode,c.roundOf,vs,os,L1++(L2++L)⟩
  | _,_=> none
   else none
 | _=> none
section
variable {P:Program} {F:FuncId->Bool} {J:World->Prop} {B:Lo}
theorem QpX {f:Value->Option (Value×List Prop)}:∀(l ts:List Value) (L:List Prop),coL f l=some (ts,L)->ts.length=l.length/\∀(i:Nat) v,ts[i]? =some v->∃u L1,l[i]? =some u/\f u=some (v,L1)/\(Qa2 L->Qa2 L1)
 | [],ts,L,h=> by
   simp only [coL,YO,YR] at h;obtain ⟨rfl,rfl⟩:=h;exact ⟨rfl,fun i v h=> by simp at h⟩
 | v::l,ts,L,h=> by
   simp only [coL] at h;split at h
   ·rename_i t L1 h1;split at h
    ·rename_i ts2 L2 h2;simp only [YO,YR] at h;obtain ⟨rfl,rfl⟩:=h;obtain ⟨k1,k2⟩:=QpX l ts2 L2 h2;refine ⟨by simp [k1],fun i u x=> ?_⟩;cases i with
     | zero=>
       simp only [List.getElem?_cons_zero,YO] at x;subst x;exact ⟨v,L1,rfl,h1,fun h=> (QaE h).1⟩
     | succ i=>
       obtain ⟨u',L',a,b,c⟩:=k2 i u (by simpa using x);exact ⟨u',L',by simpa using a,b,fun h=> c (QaE h).2⟩
    ·cases h
   ·cases h
theorem QcY {H:Qan} {m:Nat} {pos:Nat->Option Nat} {fz:List Fz}:∀(l:List (Nat×KS)) (os:List Obj) (L:List Prop),QhY H m pos fz l=some (os,L)->os.length=l.length/\∀(i:Nat) o,os[i]? =some o->∃k s L1,l[i]? =some (k,s)/\coO H m pos fz (Qao H k) s=some (o,L1)/\(Qa2 L->Qa2 L1)
 | [],os,L,h=> by
   simp only [QhY,YO,YR] at h;obtain ⟨rfl,rfl⟩:=h;exact ⟨rfl,fun i v h=> by simp at h⟩
 | (k,s)::l,os,L,h=> by
   simp only [QhY] at h;split at h
   ·rename_i t L1 h1;split at h
    ·rename_i ts2 L2 h2;simp only [YO,YR] at h;obtain ⟨rfl,rfl⟩:=h;obtain ⟨k1,k2⟩:=QcY l ts2 L2 h2;refine ⟨by simp [k1],fun i u x=> ?_⟩;cases i with
     | zero=>
       simp only [List.getElem?_cons_zero,YO] at x;subst x;exact ⟨k,s,L1,rfl,h1,fun h=> (QaE h).1⟩
     | succ i=>
       obtain ⟨k',s',L',a,b,c⟩:=k2 i u (by simpa using x);exact ⟨k',s',L',by simpa using a,b,fun h=> c (QaE h).2⟩
    ·cases h
   ·cases h
theorem TR.merge {μ' μ1:Mu} {T':Tm} {A:Array Value} {len:Nat} {live:List (Nat×Value)} (h:TR μ' T' A) (hlen:T'.len=len) (hl:len<=16000) (hlive:∀p∈live,∀v',VR μ' (Qch T' p.1) v'->VR μ1 p.2 v')
 {d:Nat->Value} (hd:∀t,Qbi (d t)/\∀μ v',VR μ (Qch T' t) v'->VR μ (d t) v'):TR μ1 (mkT len live d) A:=by
 refine ⟨hlen ▸ h.1,fun t=> ?_⟩;rw [Q1O hl];have ht:=h.2 t;split
 ·rcases QuD live t (d t) with e | ⟨v,hv,e⟩
  ·rw [e];exact (hd t).1 μ' μ1 _ ((hd t).2 μ' _ ht)
  ·rw [e];exact hlive _ hv _ ht
 ·rename_i hlt;have:A.getD t undef=undef:=by
   have:A.size<=t:=by rw [<-h.1,hlen];omega
   simp [this]
  rw [this];exact VR.undef
theorem GoE.landM {c0 c:CF} {H:Qan} {n:Nat} (hF:∀g,F g=true->Qa3 P g=true) (hJ:∀w,B.has w->J w) (hmix:P.follows .mixedOrders=true) (h:GoE P B c0 H00 1 c H n []) {fuel:Nat} {sc:Qax} {f:FuncId} {len:Nat} {todo:List Item} {slots:List Nat} {keeps:List (Nat×KS)} {fz:List Fz} {vs:List Value} {os:List Obj} {L:List Prop}
 (e:CE.landM (Qam P F J B fuel 1 c H n sc 0 [] []) slots keeps fz=some ⟨f,len,todo,[],.run,none,vs,os,L⟩) (hL:Qa2 L) (hlen:Nat.ble len 16000=true) (hplain:todo.all Qey=true):
 ∃d:Nat->Value,(∀t,Qbi (d t))/\GoE P B c0 H00 1 (Qa8 f len (slots.zip vs) d todo) (Qa6 os) (2+os.length) []:=by
 unfold CE.landM at e;split at e
 ·rename_i c' H' n' W' L' hs;have e:=e;cases hq:(W'.isEmpty && distinct (keeps.map (·.1)) && (keeps.all fun k=> Nat.ble 1 k.1) && (fz.all fun x=> Nat.ble 1 x.k && Q3v (Qao H' x.k) && (keeps.all fun k=> !(Nat.beq k.1 x.k)))) with
  | false=> rw [hq] at e;cases e
  | true=>
    rw [hq] at e;simp only [cond_true] at e;split at e
    ·rename_i vs0 L1 os0 L2 hvs hos;simp only [YO,Q38.mk.injEq] at e;obtain ⟨e1,e2,e3,e4,e5,e6,rfl,rfl,rfl⟩:=e;obtain ⟨hL1,hL23⟩:=QaE hL;obtain ⟨hL2,hL3⟩:=QaE hL23;simp only [YB] at hq;obtain ⟨⟨⟨hW,hdist⟩,hge⟩,hfz⟩:=hq;have hWe:W'=[]:=by simpa using hW
     subst hWe;obtain ⟨R,W2,hgo,hiff⟩:=QbX hF hJ hmix fuel 1 c H n sc 0 [] [] _ h.under hs hL3;have hg:=(h.step hgo).lists (W1:=[]) (fun i hi=> by
      have:=hiff i hi;simp only [List.not_mem_nil,false_or] at this;simp [<-this])
     have hd:∀t,∃d,Qbi d/\∀μ v',VR μ (Qch c'.tmps t) v'->VR μ d v':=fun t=> QdN _
     have hlenos:=(QcY keeps os0 L2 hos).1;refine ⟨fun t=> Classical.choose (hd t),fun t=> (Classical.choose_spec (hd t)).1,Qkb _,by omega,fun Z μ w fr cs hok hB hf hfr=> ?_⟩;obtain ⟨fr',w',μ',hp,hfr',a,b,hst⟩:=hg.sem Z μ w fr cs hok hB hf hfr;let ρ:Nat->Nat:=fun i=> if i=0 then 0 else ((keeps.map (·.1))[i - 2]?).getD i
     have hρ:∀i k,2<=i->(keeps.map (·.1))[i - 2]? =some k->ρ i=k:=fun i k hi hk=> by
      show (if i=0 then 0 else ((keeps.map (·.1))[i - 2]?).getD i)=k;rw [if_neg (by omega),hk];rfl
     have get:∀i,1 < i->i < 2+os0.length->∃k,(keeps.map (·.1))[i - 2]? =some k/\ρ i=k/\1<=k:=by
      intro i h1 h2;have hlt:i - 2 < keeps.length:=by omega
      refine ⟨(keeps[i - 2]).1,by simp [hlt],hρ i _ (by omega) (by simp [hlt]), ?_⟩;exact YL (List.all_eq_true.1 hge _ (List.getElem_mem hlt))
     let im1:Img:=⟨0,0,0,false,fmU μ' H' w' (QfU H' n'++fz.map (·.k))⟩
     let μ1:=muM 1 (2+os0.length) ρ μ μ' (fmU μ' H' w' (QfU H' n'++fz.map (·.k)))
     have hco:Q1h H' 1 (posOf (keeps.map (·.1)) 2) fz μ' μ1 w' n' (fz.map (·.k)) im1:=by
      refine ⟨⟨B.B,_,hp.ok,fun i hi=> ?_⟩,hg.under,fun k j hj=> ?_, ?_,rfl,fun x hx=> List.mem_map.2 ⟨x,hx,rfl⟩⟩
      ·rcases Nat.lt_or_ge i 1 with h | h
       ·exact .inl h
       ·exact .inr ⟨h,hi⟩
      ·obtain ⟨h1,h2⟩:=QfR _ _ _ _ hj;have hlt:j - 2 < keeps.length:=by
        have:=(List.getElem?_eq_some_iff.1 h2).1;simpa using this
       show muM 1 (2+os0.length) ρ μ μ' _ j=μ' k;unfold muM;rw [if_neg (by omega),if_pos ⟨by omega,by omega⟩,hρ j k h1 h2]
      ·show muM 1 (2+os0.length) ρ μ μ' _ 1=some im1;unfold muM;rw [if_pos rfl]
     have hkeeps:QxR 1 n' (2+os0.length) [] μ μ' H00 H' (Qa6 os0) w' ρ (fz.map (·.k)):=by
      refine ⟨by omega,fun i hi=> ?_,fun i h1 h2=> ?_,fun i j h1 h2 h3 h4 h5=> ?_,Qkb _,fun i hi _=> ?_, ?_,fun i o1 hi hc ho=> ?_,fun k hk=> ?_⟩
      ·have:i=0:=by omega
       subst this;rfl
      ·obtain ⟨k,hk,hk2,hk3⟩:=get i h1 h2;refine ⟨by omega, ?_⟩;rw [hk2];have hlt:i - 2 < os0.length:=by omega
       obtain ⟨k',s,L',ha,hb,hc⟩:=(QcY keeps os0 L2 hos).2 (i - 2) os0[i - 2] (by simp [hlt]);have:k'=k:=by
        rw [List.getElem?_map,ha] at hk;simpa using hk
       subst this;obtain ⟨⟨x,hx⟩,_⟩:=Qfb hco hb (hc hL2);exact hg.under.lt hx
      ·obtain ⟨k,hk,hk2,_⟩:=get i h1 h2;obtain ⟨k',hk',hk2',_⟩:=get j h3 h4;rw [hk2,hk2'] at h5;subst h5;have:=QdZ hdist _ _ _ hk hk';omega
      ·have:i=0:=by omega
       subst this;rfl
      ·rfl
      ·have h1i:1 < i:=hc.elim id fun h=> by simp at h
       rw [Qpm,if_neg (by omega),if_neg (by omega)] at ho;obtain ⟨k,s,L',ha,hb,hc'⟩:=(QcY keeps os0 L2 hos).2 (i - 2) o1 ho;obtain ⟨_,hnr,hli⟩:=Qfb hco hb (hc' hL2);refine ⟨hnr,fun hl1=> ?_⟩;obtain ⟨x,hx,hl,hor⟩:=hli hl1;refine ⟨x, ?_,hl,fun im _ h=> hor im h⟩;rw [hρ i k (by omega) (by rw [List.getElem?_map,ha];rfl)];exact hx
      ·obtain ⟨x,hx,rfl⟩:=List.mem_map.1 hk;have:=List.all_eq_true.1 hfz x hx;simp only [YB] at this;obtain ⟨⟨q1,q2⟩,q3⟩:=this;have hown:∃o,Qao H' x.k=some o/\live o:=by
        unfold Q3v at q2;split at q2
        ·rename_i ho;exact ⟨_,ho,trivial⟩
        ·cases q2
       obtain ⟨o,ho,hl⟩:=hown;refine ⟨YL q1,hg.under.lt ho,⟨o,ho,hl⟩,fun i h1 h2 hr=> ?_⟩;obtain ⟨k,hk,hk2,_⟩:=get i h1 h2;rw [hk2] at hr;rw [List.getElem?_map] at hk;cases hy:keeps[i - 2]? with
       | none=> rw [hy] at hk;cases hk
       | some y=>
         rw [hy] at hk;simp only [Option.map_some,YO] at hk;have:=List.all_eq_true.1 q3 y (List.mem_of_getElem? hy);rw [hk,hr] at this;simp at this
     have hpost:=hp.merge hok hf hkeeps;have hpans:c'.mode.pans=false:=by rw [e5];rfl
     refine ⟨fr',w',_,hpost,⟨by rw [hfr'.fn,e1];rfl, ?_,fun _=> (e3 ▸ hfr'.todo hpans).plain hplain, ?_, ?_,hfr'.kind, ?_⟩,a,b,hst⟩
     ·refine hfr'.tmps.merge e2 (YL hlen) (fun p hp v' hv=> ?_) fun t=> Classical.choose_spec (hd t)
      obtain ⟨i,hi⟩:=List.getElem?_of_mem hp;rw [List.getElem?_zip_eq_some] at hi;obtain ⟨hi1,hi2⟩:=hi;obtain ⟨u,L',ha,hb,hc⟩:=(QpX _ _ _ hvs).2 i p.2 hi2;rw [List.getElem?_map,hi1] at ha;simp only [Option.map_some,YO] at ha;subst ha;exact Qdl hco 3 _ _ _ _ hb (hc hL1) hv
     ·have:=hfr'.defers;rw [e4] at this;exact .of_empty this.empty
     ·have:=hfr'.mode;rw [e5] at this;generalize fr'.mode=ds at this;cases this;exact .run
     ·have:=hfr'.round;rw [e6] at this;generalize fr'.roundOf=x at this;cases x with
      | none=> trivial
      | some x=> cases this
    ·cases e
 ·cases e
def Qbd (s:Option ST) (fz:List Fz):Option (Value×List Prop):=match s with
 | some ⟨.fin (.ret v) H _,W,L⟩=> bif W.isEmpty then match QcU H fz 3 v with
  | some (t,_,L2)=> some (t,L2++L)
  | none=> none
   else none
 | _=> none
def EndsT (P:Program) (B:Lo) (c0:CF) (out:Value):Prop:=
 ∀(μ:Mu) (w:World) (fr:Frame) (cs:List Frame) (im:Img),Ok B (fun i=> i < 1) μ (Qao H00) w->B.has w->(∀i,1<=i->μ i=none)->μ 0=some im->FrR Bot.no μ c0 fr->
  ∃v' w',Below w.heap.size w w'/\TRv (QpR im.fm w w') out v'/\EndsAs P fr cs w (.ret v') w'
theorem GoE.endsT {c0 c:CF} {H:Qan} {n:Nat} (hF:∀g,F g=true->Qa3 P g=true) (hJ:∀w,B.has w->J w) (hmix:P.follows .mixedOrders=true) (h:GoE P B c0 H00 1 c H n []) {fuel:Nat} {sc:Qax} {fz:List Fz} {out:Value} {L:List Prop}
 (e:Qbd (Qam P F J B fuel 1 c H n sc 0 [] []) fz=some (out,L)) (hL:Qa2 L):EndsT P B c0 out:=by
 unfold Qbd at e;split at e
 ·rename_i v H' n' W' L' hs;cases hW:W'.isEmpty with
  | false=> rw [hW] at e;cases e
  | true=>
    rw [hW] at e;simp only [cond_true] at e;split at e
    ·rename_i t R2 L2 hst;simp only [YO,YR] at e;obtain ⟨rfl,rfl⟩:=e;obtain ⟨hL2,hL1⟩:=QaE hL;have hWe:W'=[]:=by simpa using hW
     subst hWe;obtain ⟨R,W2,hfj,hiff⟩:=QbX hF hJ hmix fuel 1 c H n sc 0 [] [] _ h.under hs hL1;intro μ w fr cs im hok hB hf him hfr;obtain ⟨out',w',μ',hp,ho,he⟩:=h.fj hfj μ w fr cs hok hB hf hfr;have hnoW:∀i,i∈[]++W2->¬i < 1:=fun i hi hlt=> by
      have:=(hiff i hlt).2 (.inr (by simpa using hi));simp at this
     have hbel:Below w.heap.size w w':=⟨hp.os,hp.tape,hp.output,hp.grow,fun b hb=> hp.frame b hb fun i hi hl=> absurd hl (hnoW i hi)⟩
     cases ho with
     | ret hvr=>
       rename_i v';refine ⟨v',w',hbel, ?_,he⟩;have hu':Under H' n':=h.under.shape hfj.shape;have hle:=hp.le
       -- of what is looked at, all is there
       have hall:∀r,(Qao H' r).isSome->r < 1\/1<=r/\r < n':=fun r hr=> by
        have:r < n':=by
         cases hg:Qao H' r with
         | none=> rw [hg] at hr;cases hr
         | some o=> exact hu'.lt hg
        omega
       have hok2:Ok B.B (fun _=> True) μ' (Qao H') w':=
        ⟨fun i o _ ho=> hp.ok.rel i o (hall i (by rw [ho];rfl)) ho,fun i o im _ ho=> hp.ok.low i o im (hall i (by rw [ho];rfl)) ho,
         fun i j oi oj a b _ _ hij hoi hoj=> hp.ok.inj i j oi oj a b (hall i (by rw [hoi];rfl)) (hall j (by rw [hoj];rfl)) hij hoi hoj,
         fun i o _ ho=> hp.ok.reg i o (hall i (by rw [ho];rfl)) ho,fun i j oi oj a b x _ _ hoi hoj=> hp.ok.sep i j oi oj a b x (hall i (by rw [hoi];rfl)) (hall j (by rw [hoj];rfl)) hoi hoj⟩
       refine (Qea hok2 3 v v' t R2 L2 hst hL2 (fun _ _=> trivial) hvr).mono fun b x hx=> ?_
       have hw:=Qcp hx;unfold fmU at hx;split at hx
       ·rename_i hc;obtain ⟨i,_,o,im2,hio,him2,hcase⟩:=hc;have hi:=hall i (by rw [hio];rfl);have old0:∀i,i < 1->i=0:=fun i h=> by omega
        have keep0:Qao H' 0=some QbH:=by
         rw [hp.keep 0 (by omega) fun e=> hnoW 0 e (by omega)];rfl
        have mu0:μ' 0=some im:=by rw [hp.ext 0 (by omega)];exact him
        have below:b < w.heap.size->im.fm b=some x->QpR im.fm w w' b=some x:=fun h1 h2=> by unfold QpR;rw [if_pos h1];exact h2
        have above:w.heap.size<=b->QpR im.fm w w' b=some x:=fun h1=> by unfold QpR;rw [if_neg (by omega)];exact hw
        have from0:im.fm b=some x->QpR im.fm w w' b=some x:=fun h=> by
         refine below ?_ h;exact Qfc hok (i:=0) (o:=QbH) (show 0 < 1 by omega) rfl trivial him h
        rcases hcase with ⟨hreg,hne⟩ | ⟨hl,hb⟩
        ·cases hfx:im2.fm b with
         | none=> exact absurd hfx hne
         | some y=>
           obtain ⟨im3,him3,hf3⟩:=hp.ok.reg i o hi hio hreg;rw [him2] at him3;cases him3;have:=hf3 b y hfx;rw [hw] at this;cases this;rcases hi with hi | hi
           ·rw [old0 i hi,mu0] at him2;cases him2;exact from0 hfx
           ·rcases hp.rf i im2 o (.inl hi) hio hreg him2 b x hfx with c | ⟨k,kim,ko,hk,_,hko,_,hkm,hkb⟩ | ⟨k,hk,hkn,_⟩
            ·exact above c
            ·rw [old0 k hk,him] at hkm;cases hkm;exact from0 hkb
            ·exact absurd hkn (hnoW k hk)
        ·rcases hi with hi | hi
         ·rw [old0 i hi,keep0] at hio;cases hio;exact hl.elim
         ·rcases (hp.fresh i im2 o hi.1 hi.2 hio hl him2).2 with c | ⟨k,hk,hkn,_⟩
          ·exact above (by omega)
          ·exact absurd hkn (hnoW k hk)
       ·cases hx
    ·cases e
 ·cases e
theorem QaV {g:FuncId} {ts:List Value} {out:Value} {c0:CF} (hst:∀w w':World,(∀b,b < w.heap.size->w'.heap[b]? =w.heap[b]?)->J w->J w') (hc:QbQ P g (ts.map (Qau 0 4)).toArray=some c0) (hok:(ts.all (okT 4))=true)
 (h:∀B:Lo,(∀w,B.has w->J w)->EndsT P B c0 out):Qaw P J g ts.toArray out:=by
 intro fm w args' hJ hfm hargs cs;let B:Lo:=⟨w.heap.size,fun w'=> ∀b,b < w.heap.size->w'.heap[b]? =w.heap[b]?,fun _ _ h hi b hb=> (h b hb).trans (hi b hb)⟩
 have hB:B.has w:=⟨Nat.le_refl _,fun _ _=> rfl⟩
 let im:Img:=⟨0,0,0,false,fm⟩
 let μ:Mu:=fun i=> if i=0 then some im else none
 have hOk:Ok B.B (fun i=> i < 1) μ (Qao H00) w:=by
  have only:∀i o,Qao H00 i=some o->i=0/\o=QbH:=by
   intro i o h;simp only [H00,Qa4,Qao] at h;split at h
   ·rename_i e;exact ⟨e,by simpa using h.symm⟩
   ·cases h
  refine ⟨fun i o _ ho hl=> ?_,fun i o im _ ho hl=> ?_,fun i j oi oj a b _ _ _ ho _ hl=> ?_,fun i o _ ho _=> ?_,fun i j oi oj a b x _ _ _ ho _ hl=> ?_⟩
  ·rw [(only i o ho).2] at hl;exact hl.elim
  ·rw [(only i o ho).2] at hl;exact hl.elim
  ·rw [(only i oi ho).2] at hl;exact hl.elim
  ·exact ⟨im,by rw [(only i o ho).1];rfl,hfm⟩
  ·rw [(only j oj ho).2] at hl;exact hl.elim
 have hv:VRs μ (ts.map (Qau 0 4)).toArray args':=by
  refine ⟨by simpa using hargs.1,fun i v v' hv hv'=> ?_⟩;simp only [List.getElem?_toArray,List.getElem?_map] at hv;cases ht:ts[i]? with
  | none=> rw [ht] at hv;cases hv
  | some t=>
    rw [ht] at hv;simp only [Option.map_some,YO] at hv;subst hv;exact QfA (im:=im) rfl 4 t v' (List.all_eq_true.1 hok t (List.mem_of_getElem? ht)) (hargs.2 i t v' (by simpa using ht) hv')
 obtain ⟨v',w',hb,ht,he⟩:=h B (fun w' h=> hst w w' h.inv hJ) μ w (Frame.enter P g args' .normal) cs im hOk hB (fun i hi=> by show (if i=0 then _ else _)=_;rw [if_neg (by omega)]) rfl (QcE hc hv);obtain ⟨frE,h1,h2,h3⟩:=he.1 rfl;exact ⟨.returned v',w',frE,⟨v',rfl,hb,ht⟩,h1,h2,h3⟩
theorem GoE.start {c0:CF}:GoE P B c0 H00 1 c0 H00 1 []:=GoE.refl (fun i hi=> by simp only [H00,Qa4,Qao];rw [if_neg (by omega)])
end
end Go.CE

namespace Go.CE
open Go Go.RowKit

def Qae {α:Type} (e:α->List Value) (xs:List α):Array Value:=(xs.flatMap e).toArray
def Qav (n:Int):List Value:=[.int .i64 n]
abbrev slI (xs:List Int):Value:=slT xs.length (Qae Qav xs)
section
variable {α:Type} {e:α->List Value} {z:Nat} {xs:List α}
theorem Qk8 (h:∀x,(e x).length=z):∀xs:List α,(xs.flatMap e).length=xs.length * z
 | []=> by simp
 | x::xs=> by simp [h,Qk8 h xs,Nat.add_mul,Nat.add_comm]
theorem QcK (h:∀x,(e x).length=z):(Qae e xs).size=xs.length * z:=by simp [Qae,Qk8 h]
theorem flat_get (h:∀x,(e x).length=z):∀(xs:List α) (k j:Nat) (x:α),j < z->xs[k]? =some x->(xs.flatMap e)[k * z+j]? =(e x)[j]?
 | [],k,j,x,hj,hk=> by simp at hk
 | y::xs,0,j,x,hj,hk=> by
   simp only [List.getElem?_cons_zero,YO] at hk;subst hk;simp only [List.flatMap_cons,Nat.zero_mul,Nat.zero_add];rw [List.getElem?_append_left (by rw [h];exact hj)]
 | y::xs,k+1,j,x,hj,hk=> by
   simp only [List.flatMap_cons];rw [List.getElem?_append_right (by rw [h,Nat.add_mul];omega),h,show (k+1) * z+j - z=k * z+j by rw [Nat.add_mul];omega];exact flat_get h xs k j x hj (by simpa using hk)
theorem QiW [Inhabited α] (h:∀x,(e x).length=z) {k j:Nat} (hk:k < xs.length) (hj:j < z):(Qae e xs)[k * z+j]? =(e (xs.getD k default))[j]? :=by
 have hx:xs[k]? =some (xs.getD k default):=by simp [hk]
 simp only [Qae,List.getElem?_toArray];exact flat_get h xs k j _ hj hx
theorem Q2v [Inhabited α] (h:∀x,(e x).length=z) {k j:Nat} {v:Value} (hk:k < xs.length) (hv:(e (xs.getD k default))[j]? =some v):(Qae e xs)[k * z+j]? =some v:=by
 have hj:j < z:=by rw [<-h (xs.getD k default)];exact (List.getElem?_eq_some_iff.1 hv).1
 rw [QiW h hk hj,hv]
theorem Qal [Inhabited α] (h:∀x,(e x).length=z) {k:Nat} (hk:k < xs.length):(Qae e xs).extract (k * z) (k * z+z)=(e (xs.getD k default)).toArray:=by
 have hsz:=QcK (xs:=xs) h;have hle:k * z+z<=xs.length * z:=by
  have:=Nat.mul_le_mul_right z (show k+1<=xs.length by omega);rw [Nat.add_mul,Nat.one_mul] at this;exact this
 refine Array.ext (by simp [hsz,h];omega) fun i h1 h2=> ?_
 have hi:i < z:=by simpa [h] using h2
 have a:=QiW (xs:=xs) h hk hi;rw [Array.getElem_extract];have b:(Qae e xs)[k * z+i]? =some ((Qae e xs)[k * z+i]'(by rw [hsz];omega)):=by simp
 have c:(e (xs.getD k default))[i]? =some ((e (xs.getD k default)).toArray[i]'h2):=by simp
 rw [b,c] at a;exact Option.some.inj a
theorem QxB {x:α}:Qae e xs++(e x).toArray=Qae e (xs++[x]):=by simp [Qae]
theorem Qay (h:∀x,∀v∈e x,simple v=true):∀v∈Qae e xs,simple v=true:=fun v hv=> by
 simp only [Qae,List.mem_toArray,List.mem_flatMap] at hv;obtain ⟨x,_,hx⟩:=hv;exact h x v hx
theorem QcA {rs:List Nat} (h:∀x,∀v∈e x,simple v=true):Qcv rs (Qae e xs) (Qae e xs):=Qhb (Array.all_eq_true'.2 (Qay h))
theorem Qt3 {x:α} (h:∀x,(e x).length=z):∀(xs:List α) (k i:Nat),k < xs.length->((xs.set k x).flatMap e)[i]? =if k * z<=i/\i < k * z+z then (e x)[i - k * z]? else (xs.flatMap e)[i]?
 | [],k,i,hk=> by simp at hk
 | y::xs,0,i,hk=> by
   simp only [List.set_cons_zero,List.flatMap_cons,Nat.zero_mul,Nat.zero_add,Nat.zero_le,true_and,Nat.sub_zero];by_cases hi:i < z
   ·rw [if_pos hi,List.getElem?_append_left (by rw [h];exact hi)]
   ·rw [if_neg hi,List.getElem?_append_right (by rw [h];omega),List.getElem?_append_right (by rw [h];omega),h,h]
 | y::xs,k+1,i,hk=> by
   simp only [List.set_cons_succ,List.flatMap_cons];by_cases hi:i < z
   ·rw [List.getElem?_append_left (by rw [h];exact hi),if_neg (by rw [Nat.add_mul];omega),List.getElem?_append_left (by rw [h];exact hi)]
   ·rw [List.getElem?_append_right (by rw [h];omega),List.getElem?_append_right (by rw [h];omega),h,Qt3 h xs k (i - z) (by simpa using hk)];by_cases hc:k * z<=i - z/\i - z < k * z+z
    ·rw [if_pos hc,if_pos (by rw [Nat.add_mul];omega),show i - z - k * z=i - (k+1) * z by rw [Nat.add_mul];omega]
    ·rw [if_neg hc,if_neg (by rw [Nat.add_mul];omega)]
theorem Qko {x:α} (h:∀x,(e x).length=z) {k:Nat} (hk:k < xs.length):k * z+z<=(Qae e xs).size/\splice (Qae e xs) (k * z) (e x).toArray=Qae e (xs.set k x):=by
 have hsz:=QcK (xs:=xs) h;have hle:k * z+z<=xs.length * z:=by
  have:=Nat.mul_le_mul_right z (show k+1<=xs.length by omega);rw [Nat.add_mul,Nat.one_mul] at this;exact this
 refine ⟨by rw [hsz];exact hle,Array.ext_getElem? fun i=> ?_⟩;have a:(Qae e (xs.set k x))[i]? =((xs.set k x).flatMap e)[i]? :=by simp [Qae]
 have b:(Qae e xs)[i]? =(xs.flatMap e)[i]? :=by simp [Qae]
 rw [a,Qt3 h xs k i hk,<-b];rw [QeD (by rw [hsz];simp [h];exact hle)];simp [h]
end
theorem TRv.len' {fm:Nat->Option Obj} {n:Nat} {cs:Array Value} {v':Value} (h:TRv fm (slT n cs) v'):n<=maxLen:=by
 rcases h.slice_inv with ⟨_,_,_,_,_,_,_,h1,h2,_⟩ | ⟨rfl,_⟩
 ·omega
 ·exact Nat.zero_le _
theorem QgM {a b:Int} (h:a≠b):(!eqq a b)=true:=by rw [Qnt h];rfl
theorem QeW {a b:Int} (h:a=b):(!eqq a b)=false:=by rw [QnZ h];rfl
theorem Qxx {α:Type} {e:α->List Value} {z:Nat} {xs:List α} (h:∀x,(e x).length=z) {k:Nat} (hk:k < xs.length):k * z+z<=(Qae e xs).size:=by
 rw [QcK h];have:=Nat.mul_le_mul_right z (show k+1<=xs.length by omega);rw [Nat.add_mul,Nat.one_mul] at this;exact this
theorem Q1F {α:Type} {e:α->List Value} {z:Nat} {xs:List α} (h:∀x,(e x).length=z) {k:Nat} (hk:k < xs.length) {x:α} {cs:Array Value} (hc:cs=(e x).toArray):k * z+z<=(Qae e xs).size/\splice (Qae e xs) (k * z) cs=Qae e (xs.set k x):=by
 rw [hc];exact Qko h hk
theorem EndsT.cast {P:Program} {B:Lo} {c0:CF} {a b:Value} (h:EndsT P B c0 a) (e:a=b):EndsT P B c0 b:=e ▸ h
theorem TRvs.len {fm:Nat->Option Obj} {ts args:Array Value} (h:TRvs fm ts args) {i n:Nat} {cs:Array Value} (hi:ts[i]? =some (slT n cs)):n<=maxLen:=by
 have hlt:i < args.size:=h.1 ▸ (Array.getElem?_eq_some_iff.1 hi).1;exact TRv.len' (h.2 i _ args[i] hi (by simp [hlt]))
theorem TRvs.len2 {fm:Nat->Option Obj} {ts args:Array Value} (h:TRvs fm ts args) {i j n:Nat} {xs cs:Array Value} (hi:ts[i]? =some (.agg xs)) (hj:xs[j]? =some (slT n cs)):n<=maxLen:=by
 have hlt:i < args.size:=h.1 ▸ (Array.getElem?_eq_some_iff.1 hi).1;have ht:=h.2 i _ args[i] hi (by simp [hlt]);generalize args[i]=v at ht;cases ht with
 | simple h=> cases h
 | agg h1 h2=>
   rename_i ys;have hlt:j < ys.size:=h1 ▸ (Array.getElem?_eq_some_iff.1 hj).1;exact TRv.len' (h2 j _ ys[j] hj (by simp [hlt]))
theorem TRvs.ln {fm:Nat->Option Obj} {ts args:Array Value} (h:TRvs fm ts args) {i n:Nat} {cs:Array Value} (hi:ts[i]? =some (slT n cs)):n<=9223372036854775807:=by
 have:=h.len hi;unfold maxLen at this;omega
theorem TRvs.ln2 {fm:Nat->Option Obj} {ts args:Array Value} (h:TRvs fm ts args) {i j n:Nat} {xs cs:Array Value} (hi:ts[i]? =some (.agg xs)) (hj:xs[j]? =some (slT n cs)):n<=9223372036854775807:=by
 have:=h.len2 hi hj;unfold maxLen at this;omega
section
variable {α:Type} [Inhabited α] {f:α->Bool} {xs:List α} {i:Int}
theorem drop_cons (h0:0<=i) (hi:i < xs.length):xs.drop i.toNat=xs.getD i.toNat default::xs.drop (i+1).toNat:=by
 have hlt:i.toNat < xs.length:=by omega
 rw [List.drop_eq_getElem_cons hlt,show (i+1).toNat=i.toNat+1 by omega];simp [hlt]
theorem QsO (h0:0<=i) (hi:i < xs.length):(xs.drop i.toNat).all f=(f (xs.getD i.toNat default) && (xs.drop (i+1).toNat).all f):=by rw [drop_cons h0 hi];rfl
omit [Inhabited α] in
theorem QyK (hi:xs.length<=i):xs.drop i.toNat=[]:=List.drop_eq_nil_of_le (by omega)
end
def upI (a b:Int):List Int:=(List.range (b - a).toNat).map fun (k:Nat)=> a+(k:Int)
theorem Qn5 {a b:Int} (h:a < b):upI a b=a::upI (a+1) b:=by
 unfold upI;obtain ⟨m,hm⟩:∃m:Nat,(b - a).toNat=m+1:=⟨(b - a).toNat - 1,by omega⟩
 rw [hm,show (b - (a+1)).toNat=m by omega,List.range_succ_eq_map];simp only [List.map_cons,List.map_map,Int.ofNat_zero,Int.add_zero,Int.cast_ofNat_Int];congr 1;apply List.map_congr_left;intro k _;simp only [Function.comp_apply,Nat.succ_eq_add_one];omega
theorem Qnd {a b:Int} (h:b<=a):upI a b=[]:=by
 unfold upI;rw [show (b - a).toNat=0 by omega];rfl
theorem QbY {P:Program} {J:World->Prop} {g:FuncId} {ts:List Value} {out:Value} {c0:CF} (facts:Prop) (hfacts:∀fm args',TRvs fm ts.toArray args'->facts) (hst:∀w w':World,(∀b,b < w.heap.size->w'.heap[b]? =w.heap[b]?)->J w->J w') (hc:QbQ P g (ts.map (Qau 0 4)).toArray=some c0) (hok:(ts.all (okT 4))=true)
 (h:facts->∀B:Lo,(∀w,B.has w->J w)->EndsT P B c0 out):Qaw P J g ts.toArray out:=fun fm w args' hJ hfm hargs=> QaV hst hc hok (h (hfacts fm args' hargs)) fm w args' hJ hfm hargs
def Qt6 (rs:List Nat):List Value->List Value->Prop
 | [],[]=> True
 | v::l,v1::l1=> Qqt rs v v1/\Qt6 rs l l1
 | _,_=> False
theorem Qhy {rs:List Nat}:∀{l l1:List Value},Qt6 rs l l1->l.length=l1.length/\∀(i:Nat) v v1,l[i]? =some v->l1[i]? =some v1->Qqt rs v v1
 | [],[],_=> ⟨rfl,fun i v v1 h=> by simp at h⟩
 | v::l,v1::l1,h=> ⟨by simp [(Qhy h.2).1],fun i u u1 h1 h2=> by
    cases i with
    | zero=> simp at h1 h2;subst h1;subst h2;exact h.1
    | succ i=> exact (Qhy h.2).2 i u u1 (by simpa using h1) (by simpa using h2)⟩
theorem Qus {rs:List Nat} {l l1:List Value} (h:Qt6 rs l l1):Qcv rs l.toArray l1.toArray:=by
 obtain ⟨h1,h2⟩:=Qhy h
 first
 | exact ⟨by simp [h1],fun i v v1 a b=> h2 i v v1 (by simpa using a) (by simpa using b)⟩
def unC (rs:List Nat) (v:Value):Option Value:=bif simple v then some v else match v with
 | .func (.via r ⟨[]⟩ 0 true) ⟨[t]⟩ ⟨[]⟩=> bif rs.contains r && QcT t then some t else none
 | _=> none
def unL (rs:List Nat):List Value->Option (List Value)
 | []=> some []
 | v::l=> match unC rs v,unL rs l with
   | some t,some ts=> some (t::ts)
   | _,_=> none
theorem Q2Z {rs:List Nat} {v t:Value} (h:unC rs v=some t):Qqt rs v t:=by
 unfold unC at h;cases hs:simple v with
 | true=>
   rw [hs] at h;simp only [cond_true,YO] at h;exact .inl ⟨hs,h.symm⟩
 | false=>
   rw [hs] at h;simp only [cond_false] at h;split at h
   ·rename_i r t0;cases hq:(rs.contains r && QcT t0) with
    | false=> rw [hq] at h;cases h
    | true=>
      rw [hq] at h;simp only [cond_true,YO] at h;subst h;simp only [YB,List.contains_iff_mem] at hq;exact .inr ⟨r,hq.1,rfl,hq.2⟩
   ·cases h
theorem Q0M {rs:List Nat}:∀{l l1:List Value},unL rs l=some l1->Qt6 rs l l1
 | [],l1,h=> by simp only [unL,YO] at h;subst h;exact trivial
 | v::l,l1,h=> by
   simp only [unL] at h;split at h
   ·rename_i t ts h1 h2;simp only [YO] at h;subst h;exact ⟨Q2Z h1,Q0M h2⟩
   ·cases h
theorem Qxa {rs:List Nat} {l l1:List Value} (h:unL rs l=some l1):Qcv rs l.toArray l1.toArray:=Qus (Q0M h)
end Go.CE

namespace Go.CE
open Go Go.RowKit

theorem Post.widen {B n n':Nat} {S:Nat->Prop} {W W':List Nat} {μ μ':Mu} {H H':Qan} {w w':World} (hok:Ok B S μ (Qao H) w) (h:Post B S n n' W μ μ' H H' w w') (hW:∀i,i < n->i∈W->i∈W') (hw:∀i,i < n->i∈W'->S i/\∃o,Qao H i=some o/\live o/\∀im,μ i=some im->im.rw=true):Post B S n n' W' μ μ' H H' w w':=
 ⟨h.ok,h.le,h.ext,fun i hi hw'=> h.keep i hi fun e=> hw' (hW i hi e),h.grow,fun b hb hx=> h.frame b hb fun i hi hl=> hx i (hW i hl hi) hl,fun i hi hl=> by
  obtain ⟨hs,o,hg,hl',hr⟩:=hw i hl hi;obtain ⟨im,him,_⟩:=hok.rel i _ hs hg hl';exact ⟨hs,⟨o,hg,hl'⟩,im,him,hr im him⟩,fun i im o h1 h2 ho hl hm=> by
  obtain ⟨hr,hf⟩:=h.fresh i im o h1 h2 ho hl hm;exact ⟨hr,hf.imp id fun ⟨k,a,b,d⟩=> ⟨k,hW k b a,b,d⟩⟩,fun i im o hi ho hr hm b x hx=> by
  have res:(n<=i/\i < n'\/i∈W/\i < n)->w.heap.size<=b\/(∃k kim ko,S k/\k < n/\Qao H k=some ko/\Qcu ko/\μ k=some kim/\kim.fm b=some x)\/∃k,k∈W'/\k < n/\(∃im',μ k=some im'/\im'.blk=b)/\∀o,Qao H' k=some o->¬live o:=fun hc=> by
   rcases h.rf i im o hc ho hr hm b x hx with e | e | ⟨k,p,q,r⟩
   ·exact .inl e
   ·exact .inr (.inl e)
   ·exact .inr (.inr ⟨k,hW k q p,q,r⟩)
  rcases hi with hi | ⟨hi,hlt⟩
  ·exact res (.inl hi)
  ·by_cases hin:i∈W
   ·exact res (.inr ⟨hin,hlt⟩)
   ·obtain ⟨_,o',hg,hl,_⟩:=hw i hlt hi;rw [h.keep i hlt hin,hg] at ho;cases ho;exact absurd hl (by cases o <;> first | exact id | exact hr.elim),h.os,h.tape,h.output⟩
def Writable (H0:Qan) (a:Nat) (Wf:List Nat):Prop:=∀i,i < a->i∈Wf->(∃cs t,Qao H0 i=some (.cells cs t (0,0)))\/(∃r,Qao H0 i=some (.loop r))\/(∃es clk,Qao H0 i=some (.map es clk))\/∃ds,Qao H0 i=some (.deferred ds)
def Q3g (o:Option Obj):Bool:=match o with
 | some (.cells _ _ (0,0)) | some (.loop _) | some (.map _ _) | some (.deferred _)=> true
 | _=> false
theorem Qat {H0:Qan} {a:Nat} {Wf:List Nat} (h:(Wf.all fun i=> Q3g (Qao H0 i))=true):Writable H0 a Wf:=fun i _ hi=> by
 have:=List.all_eq_true.1 h i hi;unfold Q3g at this;split at this
 ·rename_i cs t hg;exact .inl ⟨cs,t,hg⟩
 ·rename_i r hg;exact .inr (.inl ⟨r,hg⟩)
 ·rename_i es clk hg;exact .inr (.inr (.inl ⟨es,clk,hg⟩))
 ·rename_i ds hg;exact .inr (.inr (.inr ⟨ds,hg⟩))
 ·cases this
theorem Writable.rw {B:Nat} {μ:Mu} {H0:Qan} {a:Nat} {Wf:List Nat} {w:World} (h:Writable H0 a Wf) (hok:Ok B (fun i=> i < a) μ (Qao H0) w) {i:Nat} (hi:i < a) (hw:i∈Wf):i < a/\∃o,Qao H0 i=some o/\live o/\∀im,μ i=some im->im.rw=true:=by
 rcases h i hi hw with ⟨cs,t,hg⟩ | ⟨r,hg⟩ | ⟨es,clk,hg⟩ | ⟨ds,hg⟩
 ·refine ⟨hi,_,hg,trivial,fun im him=> ?_⟩;obtain ⟨im',him',hor⟩:=hok.rel i _ hi hg trivial;rw [him] at him';cases him';rcases hor with ⟨_,h,_⟩ | ⟨h,_⟩
  ·exact h
  ·exact absurd rfl h
 all_goals
  refine ⟨hi,_,hg,trivial,fun im him=> ?_⟩;obtain ⟨im',him',hor⟩:=hok.rel i _ hi hg trivial;rw [him] at him';cases him';exact hor.1
def Qep (ro:Option Nat) (f:FuncId) (len:Nat) (live:List (Nat×Value)) (d:Nat->Value) (todo:List Item):CF:=⟨f,mkT len live d,todo,[],.run,ro⟩
def QcO (Hb:Qan) (a:Nat) (ws:Qan) (os:List Obj):Qan:=ws++((a,QbH)::(Qbg (a+1) os++Hb))
def Qyf (a:Nat) (olds:List Nat) (k:Nat):Option Nat:=bif Nat.blt k a then some k else posOf olds (a+1) k
def Q2t (H:Qan) (m:Nat) (pos:Nat->Option Nat) (fz:List Fz):List (Nat×KS)->Option (Qan×List Prop)
 | []=> some ([],[])
 | (k,s)::l=> match coO H m pos fz (Qao H k) s with
   | some (o,L)=> match Q2t H m pos fz l with
     | some (os,L2)=> some ((k,o)::os,L++L2)
     | none=> none
   | none=> none
theorem Qn8 {H:Qan} {m:Nat} {pos:Nat->Option Nat} {fz:List Fz}:∀(l:List (Nat×KS)) (ws:Qan) (L:List Prop),Q2t H m pos fz l=some (ws,L)->∀i,(Qao ws i=none<->i ∉ l.map (·.1))/\∀o,Qao ws i=some o->∃s L1,coO H m pos fz (Qao H i) s=some (o,L1)/\(Qa2 L->Qa2 L1)
 | [],ws,L,h,i=> by
   simp only [Q2t,YO,YR] at h;obtain ⟨rfl,rfl⟩:=h;simp [Qao]
 | (k,s)::l,ws,L,h,i=> by
   simp only [Q2t] at h;split at h
   ·rename_i t L1 h1;split at h
    ·rename_i ts2 L2 h2;simp only [YO,YR] at h;obtain ⟨rfl,rfl⟩:=h;obtain ⟨k1,k2⟩:=Qn8 l ts2 L2 h2 i;rw [Qa4];by_cases e:i=k
     ·subst e;simp only [if_true,List.map_cons,List.mem_cons,true_or,not_true_eq_false,iff_false];exact ⟨by simp,fun o ho=> by cases ho;exact ⟨s,L1,h1,fun h=> (QaE h).1⟩⟩
     ·rw [if_neg e];refine ⟨by rw [k1];simp [e],fun o ho=> ?_⟩;obtain ⟨s',L',a,b⟩:=k2 o ho;exact ⟨s',L',a,fun h=> b (QaE h).2⟩
    ·cases h
   ·cases h
structure Q3s where
 fn:FuncId
 len:Nat
 todo:List Item
 defers:List Nat
 mode:CM
 roundOf:Option Nat
 vals:List Value
 ws:Qan
 objs:List Obj
 L:List Prop
def QnD (a:Nat) (H:Qan) (W:List Nat) (wks keeps:List (Nat×KS)) (fz:List Fz):Bool:=
 (W.all fun i=> (wks.map (·.1)).contains i) && (wks.all fun k=> Nat.blt k.1 a) && distinct (keeps.map (·.1)) && (keeps.all fun k=> Nat.ble a k.1) && (fz.all fun x=> Nat.ble a x.k && Q3v (Qao H x.k) && (keeps.all fun k=> !(Nat.beq k.1 x.k)))
def landA (a:Nat) (s:Option ST) (slots:List Nat) (wks keeps:List (Nat×KS)) (fz:List Fz):Option Q3s:=match s with
 | some ⟨.at c H n,W,L⟩=> bif QnD a H W wks keeps fz then
  match coL (coV H a (Qyf a (keeps.map (·.1))) fz 4) (slots.map (Qch c.tmps)),Q2t H a (Qyf a (keeps.map (·.1))) fz wks,QhY H a (Qyf a (keeps.map (·.1))) fz keeps with
  | some (vs,L1),some (ws,L3),some (os,L2)=> some ⟨c.fn,c.tmps.len,c.todo,c.defers,c.mode,c.roundOf,vs,ws,os,L1++(L3++(L2++L))⟩
  | _,_,_=> none
   else none
 | _=> none
section
variable {P:Program} {F:FuncId->Bool} {J:World->Prop} {B:Lo} {c0 c:CF} {Hb H:Qan} {a n:Nat} {W Wf:List Nat}
theorem GoE.widen (h:GoE P B c0 Hb a c H n W) (hW:∀i,i < a->i∈W->i∈Wf) (hw:Writable Hb a Wf):GoE P B c0 Hb a c H n Wf:=
 ⟨h.under,h.le,fun Z μ w fr cs hok hB hf hfr=> by
  obtain ⟨fr',w',μ',hp,r⟩:=h.sem Z μ w fr cs hok hB hf hfr;exact ⟨fr',w',μ',hp.widen hok hW fun i hi hiW=> hw.rw hok hi hiW,r⟩⟩
theorem QdM {ws:Qan} {os:List Obj} (i:Nat):Qao (QcO Hb a ws os) i=match Qao ws i with
 | some o=> some o
 | none=> if i=a then some QbH else if a < i/\i < a+1+os.length then os[i - (a+1)]? else Qao Hb i:=by
 unfold QcO;rw [Qbz];cases Qao ws i with
 | some o=> rfl
 | none=>
   simp only;rw [Qa4];by_cases e:i=a
   ·rw [if_pos e,if_pos e]
   ·rw [if_neg e,if_neg e,Qbz,Qco];by_cases h1:a+1<=i
    ·rw [if_pos h1];by_cases h2:i < a+1+os.length
     ·rw [if_pos ⟨by omega,h2⟩];have:i - (a+1) < os.length:=by omega
      simp [this]
     ·rw [if_neg (by omega),List.getElem?_eq_none (by omega)]
    ·rw [if_neg h1,if_neg (by omega)]
theorem Qk7 {ws:Qan} {os:List Obj} (hu:Under Hb a) (hws:∀i o,Qao ws i=some o->i < a):Under (QcO Hb a ws os) (a+1+os.length):=fun i hi=> by
 rw [QdM];cases hg:Qao ws i with
 | some o=> have:=hws i o hg;omega
 | none=> simp only;rw [if_neg (by omega),if_neg (by omega)];exact hu i (by omega)
theorem QlW {n':Nat} {H':Qan} {μ μ':Mu} {w w':World} {W':List Nat} {wks keeps:List (Nat×KS)} {fz:List Fz} {ws:Qan} {os:List Obj} {L2 L3:List Prop} (hu:Under Hb a) (hw:Writable Hb a (wks.map (·.1))) (hu':Under H' n') (hq:QnD a H' W' wks keeps fz=true)
 (hok:Ok B.B (fun i=> i < a) μ (Qao Hb) w) (hf:∀i,a<=i->μ i=none) (hp:Post B.B (fun i=> i < a) a n' (wks.map (·.1)) μ μ' Hb H' w w')
 (hws:Q2t H' a (Qyf a (keeps.map (·.1))) fz wks=some (ws,L3)) (hos:QhY H' a (Qyf a (keeps.map (·.1))) fz keeps=some (os,L2)) (hL3:Qa2 L3) (hL2:Qa2 L2):
 ∃μ1 im1,Q1h H' a (Qyf a (keeps.map (·.1))) fz μ' μ1 w' n' (fz.map (·.k)) im1/\Post B.B (fun i=> i < a) a (a+1+os.length) (wks.map (·.1)) μ μ1 Hb (QcO Hb a ws os) w w'/\(∀i,a+1+os.length<=i->μ1 i=none)/\(∀i o,Qao ws i=some o->i < a):=by
 unfold QnD at hq;simp only [YB] at hq;obtain ⟨⟨⟨⟨hW,hwlt⟩,hdist⟩,hge⟩,hfz⟩:=hq;have wlt:∀i,i∈wks.map (·.1)->i < a:=fun i hi=> by
  obtain ⟨k,hk,rfl⟩:=List.mem_map.1 hi;exact YL (List.all_eq_true.1 hwlt k hk)
 have wsget:=Qn8 wks ws L3 hws;have wslt:∀i o,Qao ws i=some o->i < a:=fun i o ho=> by
  refine wlt i (Decidable.of_not_not fun e=> ?_);have:=(wsget i).1.2 e;rw [this] at ho;cases ho
 have hlenos:=(QcY keeps os L2 hos).1;let ρ:Nat->Nat:=fun i=> if i < a then i else ((keeps.map (·.1))[i - (a+1)]?).getD i
 have hρ:∀i k,a+1<=i->(keeps.map (·.1))[i - (a+1)]? =some k->ρ i=k:=fun i k hi hk=> by
  show (if i < a then i else ((keeps.map (·.1))[i - (a+1)]?).getD i)=k;rw [if_neg (by omega),hk];rfl
 have hρlow:∀i,i < a->ρ i=i:=fun i hi=> by
  show (if i < a then i else ((keeps.map (·.1))[i - (a+1)]?).getD i)=i;rw [if_pos hi]
 have get:∀i,a < i->i < a+1+os.length->∃k,(keeps.map (·.1))[i - (a+1)]? =some k/\ρ i=k/\a<=k:=by
  intro i h1 h2;have hlt:i - (a+1) < keeps.length:=by omega
  refine ⟨(keeps[i - (a+1)]).1,by simp [hlt],hρ i _ (by omega) (by simp [hlt]), ?_⟩;exact YL (List.all_eq_true.1 hge _ (List.getElem_mem hlt))
 let im1:Img:=⟨0,0,0,false,fmU μ' H' w' (QfU H' n'++fz.map (·.k))⟩
 let μ1:=muM a (a+1+os.length) ρ μ μ' (fmU μ' H' w' (QfU H' n'++fz.map (·.k)))
 have hco:Q1h H' a (Qyf a (keeps.map (·.1))) fz μ' μ1 w' n' (fz.map (·.k)) im1:=by
  refine ⟨⟨B.B,_,hp.ok,fun i hi=> ?_⟩,hu',fun k j hj=> ?_, ?_,rfl,fun x hx=> List.mem_map.2 ⟨x,hx,rfl⟩⟩
  ·rcases Nat.lt_or_ge i a with h | h
   ·exact .inl h
   ·exact .inr ⟨h,hi⟩
  ·unfold Qyf at hj;cases hb:Nat.blt k a with
   | true=>
     rw [hb] at hj;simp only [cond_true,YO] at hj;subst hj;have hlt:k < a:=YL hb;show muM a (a+1+os.length) ρ μ μ' _ k=μ' k;unfold muM;rw [if_neg (by omega),if_neg (by omega),hp.ext k (by omega)]
   | false=>
     rw [hb] at hj;obtain ⟨h1,h2⟩:=QfR _ _ _ _ hj;have hlt:j - (a+1) < keeps.length:=by
      have:=(List.getElem?_eq_some_iff.1 h2).1;simpa using this
     show muM a (a+1+os.length) ρ μ μ' _ j=μ' k;unfold muM;rw [if_neg (by omega),if_pos ⟨by omega,by omega⟩,hρ j k h1 h2]
  ·show muM a (a+1+os.length) ρ μ μ' _ a=some im1;unfold muM;rw [if_pos rfl]
 have hkeeps:QxR a n' (a+1+os.length) (wks.map (·.1)) μ μ' Hb H' (QcO Hb a ws os) w' ρ (fz.map (·.k)):=by
  refine ⟨by omega,hρlow,fun i h1 h2=> ?_,fun i j h1 h2 h3 h4 h5=> ?_,Qk7 hu wslt,fun i hi hn=> ?_, ?_,fun i o1 hi hc ho=> ?_,fun k hk=> ?_⟩
  ·obtain ⟨k,hk,hk2,hk3⟩:=get i h1 h2;refine ⟨by omega, ?_⟩;rw [hk2];have hlt:i - (a+1) < os.length:=by omega
   obtain ⟨k',s,L',ha,hb,hc⟩:=(QcY keeps os L2 hos).2 (i - (a+1)) os[i - (a+1)] (by simp [hlt]);have:k'=k:=by
    rw [List.getElem?_map,ha] at hk;simpa using hk
   subst this;obtain ⟨⟨x,hx⟩,_⟩:=Qfb hco hb (hc hL2);exact hu'.lt hx
  ·obtain ⟨k,hk,hk2,_⟩:=get i h1 h2;obtain ⟨k',hk',hk2',_⟩:=get j h3 h4;rw [hk2,hk2'] at h5;subst h5;have:=QdZ hdist _ _ _ hk hk';omega
  ·rw [QdM,(wsget i).1.2 hn];simp only;rw [if_neg (by omega),if_neg (by omega)]
  ·rw [QdM];cases hg:Qao ws a with
   | some o=> have:=wslt a o hg;omega
   | none=> simp
  ·rcases hc with h1i | ⟨hin,hlt⟩
   ·rw [QdM] at ho;have hn:Qao ws i=none:=by
     cases hg:Qao ws i with
     | none=> rfl
     | some o=> have:=wslt i o hg;omega
    rw [hn] at ho;simp only at ho;rw [if_neg (by omega),if_pos ⟨h1i,hi⟩] at ho;obtain ⟨k,s,L',ha,hb,hc'⟩:=(QcY keeps os L2 hos).2 (i - (a+1)) o1 ho;obtain ⟨_,hnr,hli⟩:=Qfb hco hb (hc' hL2);refine ⟨hnr,fun hl1=> ?_⟩;obtain ⟨x,hx,hl,hor⟩:=hli hl1;refine ⟨x, ?_,hl,fun im _ h=> hor im h⟩;rw [hρ i k (by omega) (by rw [List.getElem?_map,ha];rfl)];exact hx
   ·cases hg:Qao ws i with
    | none=> exact absurd hin ((wsget i).1.1 hg)
    | some o=>
      rw [QdM,hg] at ho;simp only [YO] at ho;subst ho;obtain ⟨s,L1,h1,h2⟩:=(wsget i).2 o hg;obtain ⟨_,hnr,hli⟩:=Qfb hco h1 (h2 hL3);refine ⟨hnr,fun hl1=> ?_⟩;obtain ⟨x,hx,hl,hor⟩:=hli hl1;exact ⟨x,by rw [hρlow i hlt];exact hx,hl,fun im _ h=> hor im h⟩
  ·obtain ⟨x,hx,rfl⟩:=List.mem_map.1 hk;have:=List.all_eq_true.1 hfz x hx;simp only [YB] at this;obtain ⟨⟨q1,q2⟩,q3⟩:=this;have hown:∃o,Qao H' x.k=some o/\live o:=by
    unfold Q3v at q2;split at q2
    ·rename_i ho;exact ⟨_,ho,trivial⟩
    ·cases q2
   obtain ⟨o,ho,hl⟩:=hown;refine ⟨YL q1,hu'.lt ho,⟨o,ho,hl⟩,fun i h1 h2 hr=> ?_⟩;obtain ⟨k,hk,hk2,_⟩:=get i h1 h2;rw [hk2] at hr;rw [List.getElem?_map] at hk;cases hy:keeps[i - (a+1)]? with
   | none=> rw [hy] at hk;cases hk
   | some y=>
     rw [hy] at hk;simp only [Option.map_some,YO] at hk;have:=List.all_eq_true.1 q3 y (List.mem_of_getElem? hy);rw [hk,hr] at this;simp at this
 refine ⟨μ1,im1,hco,hp.merge hok hf hkeeps,fun i hi=> ?_,wslt⟩;show muM a (a+1+os.length) ρ μ μ' _ i=none;unfold muM;rw [if_neg (by omega),if_neg (by omega)];exact hf i (by omega)
theorem GoE.landA (hF:∀g,F g=true->Qa3 P g=true) (hJ:∀w,B.has w->J w) (hmix:P.follows .mixedOrders=true) {wks:List (Nat×KS)} (hu:Under Hb a) (hw:Writable Hb a (wks.map (·.1))) (h:GoE P B c0 Hb a c H n (wks.map (·.1))) {fuel:Nat} {sc:Qax} {f:FuncId} {len:Nat} {todo:List Item} {ro:Option Nat} {slots:List Nat} {keeps:List (Nat×KS)} {fz:List Fz} {vs:List Value} {ws:Qan} {os:List Obj} {L:List Prop}
 (e:CE.landA a (Qam P F J B fuel a c H n sc 0 [] []) slots wks keeps fz=some ⟨f,len,todo,[],.run,ro,vs,ws,os,L⟩) (hL:Qa2 L) (hlen:Nat.ble len 16000=true) (hplain:todo.all Qey=true) (hro:∀l,ro=some l->l < a):
 ∃d:Nat->Value,(∀t,Qbi (d t))/\GoE P B c0 Hb a (Qep ro f len (slots.zip vs) d todo) (QcO Hb a ws os) (a+1+os.length) (wks.map (·.1)):=by
 unfold CE.landA at e;split at e
 ·rename_i c' H' n' W' L' hs;cases hq:QnD a H' W' wks keeps fz with
  | false=> rw [hq] at e;cases e
  | true=>
    rw [hq] at e;simp only [cond_true] at e;split at e
    ·rename_i vs0 L1 ws0 L3 os0 L2 hvs hws hos;simp only [YO,Q3s.mk.injEq] at e;obtain ⟨e1,e2,e3,e4,e5,e6,rfl,rfl,rfl,rfl⟩:=e;obtain ⟨hL1,hLr⟩:=QaE hL;obtain ⟨hL3,hLr⟩:=QaE hLr;obtain ⟨hL2,hL4⟩:=QaE hLr;obtain ⟨R,W2,hgo,hiff⟩:=QbX hF hJ hmix fuel a c H n sc 0 [] [] _ h.under hs hL4;have hg:=(h.step hgo).widen (Wf:=wks.map (·.1)) (fun i hi hm=> by
      rcases List.mem_append.1 hm with hm | hm
      ·exact hm
      ·have hi':i∈W':=(hiff i hi).2 (.inr hm);unfold QnD at hq;simp only [YB] at hq;simpa using List.all_eq_true.1 hq.1.1.1.1 i hi') hw
     have hd:∀t,∃d,Qbi d/\∀μ v',VR μ (Qch c'.tmps t) v'->VR μ d v':=fun t=> QdN _
     have wslt:∀i o,Qao ws0 i=some o->i < a:=fun i o ho=> by
      have hq':=hq;unfold QnD at hq';simp only [YB] at hq';have hin:i∈wks.map (·.1):=Decidable.of_not_not fun e=> by
       have:=(Qn8 wks ws0 L3 hws i).1.2 e;rw [this] at ho;cases ho
      obtain ⟨k,hk,rfl⟩:=List.mem_map.1 hin;exact YL (List.all_eq_true.1 hq'.1.1.1.2 k hk)
     refine ⟨fun t=> Classical.choose (hd t),fun t=> (Classical.choose_spec (hd t)).1,Qk7 hu wslt,by omega,fun Z μ w fr cs hok hB hf hfr=> ?_⟩;obtain ⟨fr',w',μ',hp,hfr',ha,hb,hst⟩:=hg.sem Z μ w fr cs hok hB hf hfr;obtain ⟨μ1,im1,hco,hpost,hfree,_⟩:=QlW hu hw hg.under hq hok hf hp hws hos hL3 hL2;have hpans:c'.mode.pans=false:=by rw [e5];rfl
     refine ⟨fr',w',μ1,hpost,⟨by rw [hfr'.fn,e1];rfl, ?_,fun _=> (e3 ▸ hfr'.todo hpans).plain hplain, ?_, ?_,hfr'.kind, ?_⟩,ha,hb,hst⟩
     ·refine hfr'.tmps.merge e2 (YL hlen) (fun p hp v' hv=> ?_) fun t=> Classical.choose_spec (hd t)
      obtain ⟨i,hi⟩:=List.getElem?_of_mem hp;rw [List.getElem?_zip_eq_some] at hi;obtain ⟨hi1,hi2⟩:=hi;obtain ⟨u,L',ha,hb,hc⟩:=(QpX _ _ _ hvs).2 i p.2 hi2;rw [List.getElem?_map,hi1] at ha;simp only [Option.map_some,YO] at ha;subst ha;exact Qdl hco 4 _ _ _ _ hb (hc hL1) hv
     ·have:=hfr'.defers;rw [e4] at this;exact .of_empty this.empty
     ·have:=hfr'.mode;rw [e5] at this;generalize fr'.mode=ds at this;cases this;exact .run
     ·have:=hfr'.round;rw [e6] at this;show RoR μ1 ro fr'.roundOf;generalize fr'.roundOf=x at this;cases ro with
      | none=>
        cases x with
        | none=> trivial
        | some x=> cases this
      | some l=>
        cases x with
        | none=> cases this
        | some x=>
          obtain ⟨im,h1,h2⟩:=this;have hl:=hro l rfl;refine ⟨im, ?_,h2⟩;rw [hpost.ext l (by omega)];rw [hp.ext l (by omega)] at h1;exact h1
    ·cases e
 ·cases e
def Q0R (a:Nat) (v:Value):Bool:=simple v || match v with
 | .func (.via r ⟨[]⟩ 0 true) ⟨[_]⟩ ⟨[]⟩=> Nat.blt r a
 | .pointer (some ⟨k,_,none⟩)=> Nat.blt k a
 | .slice (some ⟨k,_,none⟩) _ _=> Nat.blt k a
 | .map (some r)=> Nat.blt r a
 | .func (.yield l) ⟨[]⟩ ⟨[]⟩=> Nat.blt l a
 | .chan none=> true
 | _=> false
def Qmc (a:Nat):Nat->Value->Bool
 | 0,v=> Q0R a v
 | f+1,v=> match v with
   | .agg xs=> xs.all (Qmc a f)
   | .tuple xs=> xs.all (Qmc a f)
   | .iface _ x=> Qmc a f x
   | .func (.func _) xs ys=> xs.all (Qmc a f) && ys.all (Qmc a f)
   | v=> Q0R a v
section
variable {μ μ0:Mu} (hμ:∀b,b < a->μ0 b=μ b)
include hμ
theorem Qs2 {v v':Value} (h:Q0R a v=true) (hv:VR μ v v'):VR μ0 v v':=by
 unfold Q0R at h;cases hs:simple v with
 | true=> rw [simple_eq hs hv];exact Qb2 hs
 | false=>
   rw [hs] at h;simp only [Bool.false_or] at h;have lt:∀{k},Nat.blt k a=true->μ0 k=μ k:=fun h=> hμ _ (YL h)
   split at h
   ·cases hv with
    | top h1 h2 h3=> exact .top h1 (by rw [lt h];exact h2) h3
   ·cases hv with
    | ptr har=>
      obtain ⟨im,h1,h2,h3⟩:=har;exact .ptr ⟨im,by rw [lt h];exact h1,h2,h3⟩
   ·cases hv with
    | slice har x y z=>
      obtain ⟨im,h1,h2,h3⟩:=har;exact .slice ⟨im,by rw [lt h];exact h1,h2,h3⟩ x y fun hz im' him'=> z hz im' (by rw [<-lt h];exact him')
   ·cases hv with
    | map hr=> exact .map (by rw [lt h];exact hr)
   ·cases hv with
    | yield hr=> exact .yield (by rw [lt h];exact hr)
   ·cases hv with
    | junk x y z=> exact .junk x y z
   ·cases h
theorem Qmd:∀(f:Nat) (v v':Value),Qmc a f v=true->VR μ v v'->VR μ0 v v'
 | 0,v,v',h,hv=> Qs2 hμ h hv
 | f+1,v,v',h,hv=> by
   have arr:∀{xs xs':Array Value},xs.all (Qmc a f)=true->(∀(i:Nat) v v',xs[i]? =some v->xs'[i]? =some v'->VR μ v v')->∀(i:Nat) v v',xs[i]? =some v->xs'[i]? =some v'->VR μ0 v v':=
    fun ha hx i v v' h1 h2=> Qmd f v v' (Array.all_eq_true'.1 ha v (Array.mem_of_getElem? h1)) (hx i v v' h1 h2)
   cases v with
   | agg xs=> cases hv with | agg h1 h2=> exact .agg h1 (arr h h2)
   | tuple xs=> cases hv with | tuple h1 h2=> exact .tuple h1 (arr h h2)
   | iface t x=> cases hv with | iface hv=> exact .iface (Qmd f x _ h hv)
   | func fn xs ys=>
     cases fn with
     | func g=>
       have h:(xs.all (Qmc a f) && ys.all (Qmc a f))=true:=h;simp only [YB] at h;cases hv with
       | func h1 h2 h3 h4=> exact .func h1 h2 (arr h.1 h3) (arr h.2 h4)
     | _=> exact Qs2 hμ (by exact h) hv
   | _=> exact Qs2 hμ (by exact h) hv
end
theorem Qv9 {μ μ0:Mu} (hμ:∀b,b < a->μ0 b=μ b) {T:Tm} {A:Array Value} (hl:∀t,Qmc a 4 (Qch T t)=true\/Qbi (Qch T t)) (h:TR μ T A):TR μ0 T A:=⟨h.1,fun t=> (hl t).elim (fun h1=> Qmd hμ 4 _ _ h1 (h.2 t)) fun h1=> h1 _ _ _ (h.2 t)⟩
theorem FrR.low {μ μ0:Mu} {fr:Frame} (hμ:∀b,b < a->μ0 b=μ b) (hs:∀t,Qmc a 4 (Qch c.tmps t)=true\/Qbi (Qch c.tmps t)) (hp:c.todo.all Qey=true) (hd:c.defers=[]) (hm:c.mode=.run) (hr:∀l,c.roundOf=some l->l < a) (h:FrR Bot.no μ c fr):FrR Bot.no μ0 c fr:=by
 have hpans:c.mode.pans=false:=by rw [hm];rfl
 refine ⟨h.fn,Qv9 hμ hs h.tmps,fun _=> (h.todo hpans).plain hp, ?_, ?_,h.kind, ?_⟩
 ·have:=h.defers;rw [hd] at this ⊢;exact .of_empty this.empty
 ·have:=h.mode;rw [hm] at this ⊢;generalize fr.mode=ds at this ⊢;cases this;exact .run
 ·have:=h.round;generalize fr.roundOf=x at this ⊢;cases hro:c.roundOf with
  | none=>
    rw [hro] at this;cases x with
    | none=> trivial
    | some x=> cases this
  | some l=>
    rw [hro] at this;cases x with
    | none=> cases this
    | some x=>
      obtain ⟨im,h1,h2⟩:=this;exact ⟨im,by rw [hμ l (hr l hro)];exact h1,h2⟩
def LV (a:Nat) (v:Value):Prop:=Qmc a 4 v=true\/Qbi v
theorem LV.vr {μ μ0:Mu} {v v':Value} (hμ:∀b,b < a->μ0 b=μ b) (h:LV a v) (hv:VR μ v v'):VR μ0 v v':=h.elim (fun h=> Qmd hμ 4 _ _ h hv) fun h=> h _ _ _ hv
def Q1p (a:Nat):Obj->Prop
 | .cells cs _ _=> ∀(i:Nat) v,cs[i]? =some v->LV a v
 | .map es _=> ∀(i:Nat) e,es[i]? =some e->LV a e.val
 | .loop l=> ∀(i:Nat) v,l.tmps[i]? =some v->LV a v
 | _=> True
theorem OR.low {μ μ0:Mu} {w:World} {im:Img} {o:Obj} (hμ:∀b,b < a->μ0 b=μ b) (hl:Q1p a o) (h:OR μ w im o):OR μ0 w im o:=by
 cases o with
 | cells cs t fz=>
   rcases h with ⟨h1,h2,h3,arr,h4,h5,h6,h7⟩ | ⟨h1,h2⟩
   ·exact .inl ⟨h1,h2,h3,arr,h4,h5,h6,fun i v hv=> by
     obtain ⟨v',a1,b1⟩:=h7 i v hv;exact ⟨v',a1,(hl i v hv).vr hμ b1⟩⟩
   ·exact .inr ⟨h1,fun i v hv=> by
     obtain ⟨v',a1,b1⟩:=h2 i v hv;exact ⟨v',a1,(hl i v hv).vr hμ b1⟩⟩
 | map es clk=>
   obtain ⟨h1,es',h2,h3,h4⟩:=h;exact ⟨h1,es',h2,h3,fun i e e' he he'=> by
    obtain ⟨x,y,z,u⟩:=h4 i e e' he he';exact ⟨x,y,z,(hl i e he).vr hμ u⟩⟩
 | loop l=>
   obtain ⟨h1,tm,df,h2,h3⟩:=h;exact ⟨h1,tm,df,h2,h3.1,fun i v v' hv hv'=> (hl i v hv).vr hμ (h3.2 i v v' hv hv')⟩
 | deferred ds=> exact h
 | pending x y=> trivial
 | _=> exact h
def Q36 (a:Nat):Obj->Bool
 | .cells cs _ _=> cs.toList.all (Qmc a 4)
 | .map es _=> es.toList.all fun e=> Qmc a 4 e.val
 | .loop l=> l.tmps.toList.all (Qmc a 4)
 | _=> true
theorem Qzx {a:Nat} {o:Obj} (h:Q36 a o=true):Q1p a o:=by
 cases o with
 | cells cs t fz=> exact fun i v hv=> .inl (List.all_eq_true.1 h v (Array.mem_toList_iff.2 (Array.mem_of_getElem? hv)))
 | map es clk=> exact fun i e he=> .inl (List.all_eq_true.1 h e (Array.mem_toList_iff.2 (Array.mem_of_getElem? he)))
 | loop l=> exact fun i v hv=> .inl (List.all_eq_true.1 h v (Array.mem_toList_iff.2 (Array.mem_of_getElem? hv)))
 | _=> exact trivial
theorem Qm6:∀{H:Qan} {i:Nat} {o:Obj},Qao H i=some o->(i,o)∈H
 | [],_,_,h=> by cases h
 | (k,x)::l,i,o,h=> by
   rw [Qa4] at h;split at h
   ·rename_i e;cases h;subst e;exact List.mem_cons_self
   ·exact List.mem_cons_of_mem _ (Qm6 h)
theorem Qa0 {H:Qan} {n:Nat} (h:(H.all fun p=> Nat.blt p.1 n)=true):Under H n:=fun i hi=> by
 cases hg:Qao H i with
 | none=> rfl
 | some o=> have:=YL (List.all_eq_true.1 h _ (Qm6 hg));simp at this;omega
end
end Go.CE

namespace Go.CE
open Go Go.RowKit

def hvI (n:Int):Qai:=.old (.val (.int .i64 n))
def hvT:Qai:=.old (.val (.bool true))
def hvF:Qai:=.old (.val (.bool false))
def Q2a (f:Value->Option (Value×List Prop)):OO->Option (OO×List Prop)
 | .ret v=> match f v with
   | some (v1,L)=> some (.ret v1,L)
   | none=> none
 | .pan v=> match f v with
   | some (v1,L)=> some (.pan v1,L)
   | none=> none
def finK (a:Nat) (s:Option ST) (wks keeps:List (Nat×KS)) (fz:List Fz):Option (OO×Qan×List Obj×List Prop):=match s with
 | some ⟨.fin out H _,W,L⟩=> bif QnD a H W wks keeps fz then
  match Q2a (coV H a (Qyf a (keeps.map (·.1))) fz 4) out,Q2t H a (Qyf a (keeps.map (·.1))) fz wks,QhY H a (Qyf a (keeps.map (·.1))) fz keeps with
  | some (v1,L1),some (ws,L3),some (os,L2)=> some (v1,ws,os,L1++(L3++(L2++L)))
  | _,_,_=> none
   else none
 | _=> none
def FinK (P:Program) (B:Lo) (c0:CF) (Hb:Qan) (a:Nat) (out:OO) (ws:Qan) (os:List Obj) (Wf:List Nat):Prop:=
 ∀(μ:Mu) (w:World) (fr:Frame) (cs:List Frame),Ok B (fun i=> i < a) μ (Qao Hb) w->B.has w->(∀i,a<=i->μ i=none)->FrR Bot.no μ c0 fr->
  ∃out' w' μ',Post B (fun i=> i < a) a (a+1+os.length) Wf μ μ' Hb (QcO Hb a ws os) w w'/\OR2 μ' out out'/\(∀i,a+1+os.length<=i->μ' i=none)/\EndsAs P fr cs w out' w'
section
variable {P:Program} {F:FuncId->Bool} {J:World->Prop} {B:Lo} {c0 c:CF} {Hb H:Qan} {a n:Nat} {W Wf:List Nat}
theorem GoE.finK (hF:∀g,F g=true->Qa3 P g=true) (hJ:∀w,B.has w->J w) (hmix:P.follows .mixedOrders=true) {wks keeps:List (Nat×KS)} (hu:Under Hb a) (hw:Writable Hb a (wks.map (·.1))) (h:GoE P B c0 Hb a c H n (wks.map (·.1))) {fuel:Nat} {sc:Qax} {fz:List Fz} {out:OO} {ws:Qan} {os:List Obj} {L:List Prop}
 (e:CE.finK a (Qam P F J B fuel a c H n sc 0 [] []) wks keeps fz=some (out,ws,os,L)) (hL:Qa2 L):FinK P B c0 Hb a out ws os (wks.map (·.1)):=by
 unfold CE.finK at e;split at e
 ·rename_i out0 H' n' W' L' hs;cases hq:QnD a H' W' wks keeps fz with
  | false=> rw [hq] at e;cases e
  | true=>
    rw [hq] at e;simp only [cond_true] at e;split at e
    ·rename_i v1 L1 ws0 L3 os0 L2 hv1 hws hos;simp only [YO,YR] at e;obtain ⟨rfl,rfl,rfl,rfl⟩:=e;obtain ⟨hL1,hLr⟩:=QaE hL;obtain ⟨hL3,hLr⟩:=QaE hLr;obtain ⟨hL2,hL4⟩:=QaE hLr;obtain ⟨R,W2,hfj,hiff⟩:=QbX hF hJ hmix fuel a c H n sc 0 [] [] _ h.under hs hL4;intro μ w fr cs hok hB hf hfr;obtain ⟨out',w',μ',hp,ho,he⟩:=h.fj hfj μ w fr cs hok hB hf hfr;have hp:=hp.widen (W':=wks.map (·.1)) hok (fun i hi hm=> by
      rcases List.mem_append.1 hm with hm | hm
      ·exact hm
      ·have hi':i∈W':=(hiff i hi).2 (.inr hm);have hq':=hq;unfold QnD at hq';simp only [YB] at hq';simpa using List.all_eq_true.1 hq'.1.1.1.1 i hi') (fun i hi hiW=> hw.rw hok hi hiW)
     obtain ⟨μ1,im1,hco,hpost,hfree,_⟩:=QlW hu hw (h.under.shape hfj.shape) hq hok hf hp hws hos hL3 hL2;cases ho with
     | ret hvr=>
       unfold Q2a at hv1;split at hv1
       ·rename_i v0 e0;cases e0;split at hv1
        ·rename_i v2 L2' hv2;simp only [YO,YR] at hv1;obtain ⟨rfl,rfl⟩:=hv1;exact ⟨_,w',μ1,hpost,.ret (Qdl hco 4 _ _ _ _ hv2 hL1 hvr),hfree,he⟩
        ·cases hv1
       ·rename_i e0;cases e0
     | pan hvr=>
       unfold Q2a at hv1;split at hv1
       ·rename_i e0;cases e0
       ·rename_i v0 e0;cases e0;split at hv1
        ·rename_i v2 L2' hv2;simp only [YO,YR] at hv1;obtain ⟨rfl,rfl⟩:=hv1;exact ⟨_,w',μ1,hpost,.pan (Qdl hco 4 _ _ _ _ hv2 hL1 hvr),hfree,he⟩
        ·cases hv1
    ·cases e
 ·cases e
theorem FinK.cast {out out1:OO} {ws ws1:Qan} {os os1:List Obj} (h:FinK P B c0 Hb a out ws os Wf) (e1:out=out1) (e2:ws=ws1) (e3:os=os1):FinK P B c0 Hb a out1 ws1 os1 Wf:=e1 ▸ e2 ▸ e3 ▸ h
theorem FinK.fj {out:OO} {ws:Qan} {os:List Obj} (h:FinK P B c0 Hb a out ws os Wf) (hub:Under Hb a) (hws:∀i o,Qao ws i=some o->i < a/\i∈Wf) (hWf:∀i∈Wf,i < a) (hs:∀t,Qmc a 4 (Qch c0.tmps t)=true\/Qbi (Qch c0.tmps t)) (hp:c0.todo.all Qey=true) (hd:c0.defers=[]) (hm:c0.mode=.run) (hr:∀l,c0.roundOf=some l->l < a) (hob:∀i o,Qao Hb i=some o->Q1p a o):
 FJ P B c0 Hb a out ((ws++((a,QbH)::Qbg (a+1) os))++Hb) (a+1+os.length) (List.range a) Wf:=by
 have hG:(ws++((a,QbH)::Qbg (a+1) os))++Hb=QcO Hb a ws os:=by unfold QcO;simp
 rw [hG];refine ⟨⟨by omega,fun i hi hw=> ?_,fun i hi=> ?_,fun i hi=> List.mem_range.2 (hWf i hi),fun i hi=> by have:=hWf i hi;omega⟩,fun S μ w fr cs hok hB hS hf hfr hR=> ?_⟩
 ·rw [QdM];cases hg:Qao ws i with
  | some o=> exact absurd (hws i o hg).2 hw
  | none=> simp only;rw [if_neg (by omega),if_neg (by omega)]
 ·rw [QdM];cases hg:Qao ws i with
  | some o=> have:=(hws i o hg).1;omega
  | none=> simp only;rw [if_neg (by omega),if_neg (by omega)]
 ·have hSeq:S=fun i=> i < a:=funext fun i=> propext ⟨hS i,fun hi=> hR i (List.mem_range.2 hi) hi⟩
  subst hSeq;let μc:Mu:=fun i=> if i < a then μ i else none
  have hμc:∀b,b < a->μc b=μ b:=fun b hb=> by show (if b < a then μ b else none)=μ b;rw [if_pos hb]
  have hextc:Ext μc μ:=fun k im hk=> by
   have hk:(if k < a then μ k else none)=some im:=hk;split at hk
   ·exact hk
   ·cases hk
  have hokc:Ok B.B (fun i=> i < a) μc (Qao Hb) w:=by
   refine ⟨fun i o hi hg hl=> ?_,fun i o im hi hg hl him=> ?_,fun i j oi oj x y hi hj hne hg1 hg2 l1 l2 m1 m2 r1 r2=> ?_,fun i o hi hg hr=> ?_,fun i j oi oj x y z hi hj hg1 hg2 r1 l2 m1 m2 hrw=> ?_⟩
   ·obtain ⟨im,him,hor⟩:=hok.rel i o hi hg hl;exact ⟨im,(hμc i hi).trans him,OR.low hμc (hob i o hg) hor⟩
   ·exact hok.low i o im hi hg hl ((hμc i hi).symm.trans him)
   ·exact hok.inj i j oi oj x y hi hj hne hg1 hg2 l1 l2 ((hμc i hi).symm.trans m1) ((hμc j hj).symm.trans m2) r1 r2
   ·obtain ⟨im,him,hx⟩:=hok.reg i o hi hg hr;exact ⟨im,(hμc i hi).trans him,hx⟩
   ·exact hok.sep i j oi oj x y z hi hj hg1 hg2 r1 l2 ((hμc i hi).symm.trans m1) ((hμc j hj).symm.trans m2) hrw
  obtain ⟨out',w',μ',hpost,hv,hfree,he⟩:=h μc w fr cs hokc hB (fun i hi=> by show (if i < a then μ i else none)=none;rw [if_neg (by omega)]) (hfr.low hμc hs hp hd hm hr);let μ2:Mu:=fun i=> if i < a+1+os.length then μ' i else μ i
  have hμ2:∀i,i < a+1+os.length->μ2 i=μ' i:=fun i hi=> by show (if i < a+1+os.length then μ' i else μ i)=μ' i;rw [if_pos hi]
  have ext2:Ext μ' μ2:=fun k im hk=> by
   rcases Nat.lt_or_ge k (a+1+os.length) with h1 | h1
   ·rw [hμ2 k h1];exact hk
   ·rw [hfree k h1] at hk;cases hk
  have Slt:∀i,(i < a\/a<=i/\i < a+1+os.length)->i < a+1+os.length:=fun i h=> by omega
  refine ⟨_,w',μ2,⟨?_,by omega,fun i hi=> ?_,fun i hi hw=> ?_,hpost.grow,fun b hb hx=> hpost.frame b hb fun i hiW hi im him=> hx i hiW hi im ((hμc i hi).symm.trans him),fun i hiW hi=> ?_,fun i im o h1 h2 ho hl him=> ?_,fun i im o hc ho hr him b x hx=> ?_,hpost.os,hpost.tape,hpost.output⟩,OR2.mono ext2 hv,he⟩
  ·have ok:=hpost.ok;refine ⟨fun i o hi hg hl=> ?_,fun i o im hi hg hl him=> ?_,fun i j oi oj x y hi hj hne hg1 hg2 l1 l2 m1 m2 r1 r2=> ?_,fun i o hi hg hr=> ?_,fun i j oi oj x y z hi hj hg1 hg2 r1 l2 m1 m2 hrw=> ?_⟩
   ·obtain ⟨im,him,hor⟩:=ok.rel i o hi hg hl;exact ⟨im,(hμ2 i (Slt i hi)).trans him,hor.keep ext2 rfl⟩
   ·exact ok.low i o im hi hg hl ((hμ2 i (Slt i hi)).symm.trans him)
   ·exact ok.inj i j oi oj x y hi hj hne hg1 hg2 l1 l2 ((hμ2 i (Slt i hi)).symm.trans m1) ((hμ2 j (Slt j hj)).symm.trans m2) r1 r2
   ·obtain ⟨im,him,hx⟩:=ok.reg i o hi hg hr;exact ⟨im,(hμ2 i (Slt i hi)).trans him,hx⟩
   ·exact ok.sep i j oi oj x y z hi hj hg1 hg2 r1 l2 ((hμ2 i (Slt i hi)).symm.trans m1) ((hμ2 j (Slt j hj)).symm.trans m2) hrw
  ·rcases Nat.lt_or_ge i a with h1 | h1
   ·rw [hμ2 i (by omega),hpost.ext i (by omega),hμc i h1]
   ·show (if i < a+1+os.length then μ' i else μ i)=μ i;rw [if_neg (by omega)]
  ·exact hpost.keep i hi hw
  ·obtain ⟨p,q,im,s,t⟩:=hpost.wr i hiW hi;exact ⟨p,q,im,(hμc i hi).symm.trans s,t⟩
  ·obtain ⟨p,q⟩:=hpost.fresh i im o h1 h2 ho hl ((hμ2 i h2).symm.trans him);exact ⟨p,q.imp id fun ⟨k,x,y,⟨im',m,m2⟩,z⟩=> ⟨k,x,y,⟨im',(hμc k y).symm.trans m,m2⟩,z⟩⟩
  ·have hlt:i < a+1+os.length:=by omega
   rcases hpost.rf i im o hc ho hr ((hμ2 i hlt).symm.trans him) b x hx with e | ⟨k,kim,ko,p,q,r,s,t,u⟩ | ⟨k,p,q,⟨im',m,m2⟩,z⟩
   ·exact .inl e
   ·exact .inr (.inl ⟨k,kim,ko,p,q,r,s,(hμc k q).symm.trans t,u⟩)
   ·exact .inr (.inr ⟨k,p,q,⟨im',(hμc k q).symm.trans m,m2⟩,z⟩)
def Q47 (a:Nat) (l:List Value) (todo:List Item) (ro:Option Nat) (Hb ws:Qan) (Wf ex:List Nat):Bool:=
 l.all (Qmc a 4) && (todo.all Qey && ((match ro with | some l=> Nat.blt l a | none=> true) && ((Hb.all fun p=> Nat.blt p.1 a) && ((Hb.all fun p=> ex.contains p.1 || Q36 a p.2) && ((ws.all fun p=> Nat.blt p.1 a && Wf.contains p.1) && ((Wf.all fun k=> Nat.blt k a) && Nat.ble l.length 16000))))))
def Q3U (a:Nat):Qan->List Nat->Prop
 | [],_=> True
 | (k,o)::H,ex=> (bif ex.contains k then Q1p a o else True)/\Q3U a H ex
theorem QsM {a:Nat} {ex:List Nat}:∀{H:Qan} {k:Nat} {o:Obj},Q3U a H ex->ex.contains k=true->Qao H k=some o->Q1p a o
 | [],_,_,_,_,h=> by cases h
 | (j,x)::H,k,o,hx,hk,h=> by
   rw [Qa4] at h;split at h
   ·rename_i e;cases h;subst e;have:=hx.1;rw [hk] at this;exact this
   ·exact QsM hx.2 hk h
theorem QiY {a:Nat}:∀H:Qan,Q3U a H []
 | []=> trivial
 | (_,_)::H=> ⟨trivial,QiY H⟩
theorem Qrh {a:Nat} {v:Value} (h:simple v=true):Q0R a v=true:=by unfold Q0R;rw [h];rfl
theorem QlH {a:Nat} {v:Value} (h:simple v=true):Qmc a 4 v=true:=by
 have hs:=Qrh (a:=a) h;cases v with
 | agg xs=> cases h
 | tuple xs=> cases h
 | iface t x=> cases h
 | func fn xs ys=>
   cases fn with
   | func f=>
     simp only [simple,YB,beq_iff_eq,Array.size_eq_zero_iff] at h;obtain ⟨rfl,rfl⟩:=h;simp [Qmc]
   | _=> exact hs
 | _=> exact hs
theorem Qee {α:Type} {a:Nat} {e:α->List Value} {xs:List α} {t:TypeId} {fl:Nat×Nat} (h:∀x,∀v∈e x,simple v=true):Q1p a (.cells (Qae e xs) t fl):=fun i v hv=> .inl (QlH (Qay h v (Array.mem_of_getElem? hv)))
theorem FinK.fjB {fn:FuncId} {len:Nat} {l:List Value} {todo:List Item} {ro:Option Nat} {out:OO} {ws:Qan} {os:List Obj} {ex:List Nat} (h:FinK P B ⟨fn,ofList len l,todo,[],.run,ro⟩ Hb a out ws os Wf) (e:Q47 a l todo ro Hb ws Wf ex=true) (hx:Q3U a Hb ex):
 FJ P B ⟨fn,ofList len l,todo,[],.run,ro⟩ Hb a out ((ws++((a,QbH)::Qbg (a+1) os))++Hb) (a+1+os.length) (List.range a) Wf:=by
 simp only [Q47,YB] at e;obtain ⟨e1,e2,e3,e4,e5,e6,e7,e8⟩:=e;have e8:=YL e8;refine h.fj (Qa0 e4) (fun i o ho=> ?_) (fun i hi=> YL (List.all_eq_true.1 e7 i hi)) (fun t=> ?_) e2 rfl rfl (fun k hk=> ?_) (fun i o ho=> ?_)
 ·have:=List.all_eq_true.1 e6 _ (Qm6 ho);simp only [YB] at this;exact ⟨YL this.1,by simpa using this.2⟩
 ·simp only [Qch,ofList];rw [QmJ _ _ _ _ (by omega)];split
  ·rename_i ht;have ht:t < l.length:=by omega
   refine .inl (List.all_eq_true.1 e1 _ ?_);rw [Nat.sub_zero,List.getD_eq_getElem?_getD,List.getElem?_eq_getElem ht];exact List.getElem_mem ht
  ·rw [Tri.get_lf];exact .inr (QfT (by simp [Go.undef,af]))
 ·have hk:ro=some k:=hk;subst hk;exact YL e3
 ·have:=List.all_eq_true.1 e5 _ (Qm6 ho);simp only [Bool.or_eq_true] at this;rcases this with h1 | h1
  ·exact QsM hx h1 ho
  ·exact Qzx h1
end
end Go.CE

namespace Go.CE
open Go Go.RowKit Go.ChangeShapes Go.WideShapes

inductive Sh where
 | int | bool | str | unit
 | pair (a b:Sh)
 | struct (f:Sh)
 | slice (e:Sh)
def Sh.sz:Sh->Nat
 | .unit=> 0
 | .pair a b=> a.sz+b.sz
 | .struct f=> f.sz
 | _=> 1
def Sh.ok:Sh->List Value->Prop
 | .int,cs=> ∃z:Int,(-9223372036854775808<=z/\z<=9223372036854775807)/\cs=[.int .i64 z]
 | .bool,cs=> ∃b,cs=[.bool b]
 | .str,cs=> ∃s:ByteArray,s.size<=maxLen/\cs=[.string s]
 | .unit,cs=> cs=[]
 | .pair a b,cs=> ∃x y,cs=x++y/\a.ok x/\b.ok y
 | .struct f,cs=> f.ok cs
 | .slice e,cs=> ∃(n:Nat) (r:Nat->List Value),(∀k,e.ok (r k)\/n<=k)/\(∀k,(r k).length=e.sz)/\cs=[slT n (Qae r (List.range n))]
theorem Sh.ok_sz:∀(s:Sh) (cs:List Value),s.ok cs->cs.length=s.sz
 | .int,cs,⟨z,_,h⟩=> by rw [h];rfl
 | .bool,cs,⟨z,h⟩=> by rw [h];rfl
 | .str,cs,⟨z,_,h⟩=> by rw [h];rfl
 | .unit,cs,h=> by rw [show cs=[] from h];rfl
 | .pair a b,cs,⟨x,y,h,hx,hy⟩=> by rw [h,List.length_append,Sh.ok_sz a x hx,Sh.ok_sz b y hy];rfl
 | .struct f,cs,h=> Sh.ok_sz f cs h
 | .slice e,cs,⟨n,r,_,_,h⟩=> by rw [h];rfl
def Sh.chk (P:Program):Sh->Option (List Field×Nat)->TypeId->Bool
 | .int,none,t=> match P.underlying t with | some (.int .i64)=> true | _=> false
 | .bool,none,t=> match P.underlying t with | some .bool=> true | _=> false
 | .str,none,t=> match P.underlying t with | some .string=> true | _=> false
 | .struct f,none,t=> match P.underlying t with | some (.struct fs)=> f.chk P (some (fs.toList,0)) t | _=> false
 | .slice e,none,t=> match P.underlying t with | some (.slice u)=> Nat.blt 0 e.sz && e.chk P none u | _=> false
 | .unit,some ([],off),t=> Nat.beq off (P.cellsOf t)
 | .pair a b,some (f::fs,off),t=> Nat.beq f.offset off && (a.chk P none f.type && (Nat.beq (P.cellsOf f.type) a.sz && b.chk P (some (fs,off+P.cellsOf f.type)) t))
 | _,_,_=> false
def TRl (fm:Nat->Option Obj) (ts cs:List Value):Prop:=ts.length=cs.length/\∀(i:Nat) v v',ts[i]? =some v->cs[i]? =some v'->TRv fm v v'
theorem TRl.nil {fm:Nat->Option Obj}:TRl fm [] []:=⟨rfl,fun i v v' h=> by simp at h⟩
theorem TRl.one {fm:Nat->Option Obj} {t v:Value} (h:TRv fm t v):TRl fm [t] [v]:=⟨rfl,fun i a b ha hb=> by
 cases i with
 | zero=> simp at ha hb;subst ha hb;exact h
 | succ i=> simp at ha⟩
theorem TRl.append {fm:Nat->Option Obj} {a b c d:List Value} (h:TRl fm a b) (k:TRl fm c d):TRl fm (a++c) (b++d):=⟨by simp [h.1,k.1],fun i v v' x y=> by
 rcases Nat.lt_or_ge i a.length with hi | hi
 ·rw [List.getElem?_append_left hi] at x;rw [List.getElem?_append_left (by rw [<-h.1];exact hi)] at y;exact h.2 i v v' x y
 ·rw [List.getElem?_append_right hi] at x;rw [List.getElem?_append_right (by rw [<-h.1];exact hi)] at y;exact k.2 _ v v' x (by rw [h.1];exact y)⟩
def allM (w:World) (b:Nat):Option Obj:=w.heap[b]?
section
variable {P:Program} {H:Type} {enc:TypeId×Value->H} {w:World} {held:Bool}
theorem Qup {a:Addr} {v:Value} (h:w.cell? a=some v):∃b o arr t fl,a=⟨b,o,none⟩/\w.heap[b]? =some (.cells arr t fl)/\arr[o]? =some v:=by
 obtain ⟨b,o,s⟩:=a;unfold World.cell? at h;split at h
 ·rename_i c t fl hb;cases s with
  | some _=> simp at h
  | none=> exact ⟨b,o,c,t,fl,rfl,hb,by simpa using h⟩
 ·cases h
theorem QoW {b o j:Nat}:(⟨b,o,none⟩:Addr).add j=⟨b,o+j,none⟩:=by
 unfold Addr.add;split <;> simp_all
theorem QpH {e:Nat->List Value} {z n:Nat} (h:∀k,(e k).length=z) {i:Nat} {v:Value} (hv:(Qae e (List.range n))[i]? =some v):∃k j,k < n/\j < z/\i=k * z+j/\(e k)[j]? =some v:=by
 have hlt:i < n * z:=by
  have:=(Array.getElem?_eq_some_iff.1 hv).1;rw [QcK h] at this;simpa using this
 have hz:0 < z:=by
  rcases Nat.eq_zero_or_pos z with rfl | h
  ·omega
  ·exact h
 have hk:i / z < n:=Nat.div_lt_of_lt_mul (by rwa [Nat.mul_comm] at hlt);have hj:i % z < z:=Nat.mod_lt _ hz;have hi:i=i / z * z+i % z:=by
  have:=Nat.div_add_mod i z;rw [Nat.mul_comm] at this;omega
 refine ⟨i / z,i % z,hk,hj,hi, ?_⟩;have:=QiW (e:=e) (xs:=List.range n) h (k:=i / z) (j:=i % z) (by simpa using hk) hj;rw [<-hi,hv] at this;rw [this];simp [List.getD,hk]
theorem Q1K:∀(s:Sh) (fuel:Nat) (t:TypeId) (cs:List Value) (x:DataW H×List MemPlace),s.chk P none t=true->DataW.trod enc P w 0 (fun _=> true) held fuel t cs=some x->∃ts,s.ok ts/\TRl (allM w) ts cs:=by
 intro s
 -- for fields, too
 have key:(∀(fuel:Nat) (t:TypeId) (cs:List Value) (x:DataW H×List MemPlace),s.chk P none t=true->DataW.trod enc P w 0 (fun _=> true) held fuel t cs=some x->∃ts,s.ok ts/\TRl (allM w) ts cs)/\
  (∀(fl:List Field) (off:Nat) (t:TypeId) (cs:List Value),s.chk P (some (fl,off)) t=true->cs.length=P.cellsOf t->(∀f∈fl,∃fuel x,DataW.trod enc P w 0 (fun _=> true) held fuel f.type ((cs.drop f.offset).take (P.cellsOf f.type))=some x)->∃ts,s.ok ts/\TRl (allM w) ts (cs.drop off)):=by
  induction s with
  | int=>
    refine ⟨fun fuel t cs x hc h=> ?_,fun fl off t cs hc=> by simp [Sh.chk] at hc⟩;simp only [Sh.chk] at hc;split at hc
    ·rename_i ht;obtain ⟨n,rfl,_,hw⟩:=DataW.trod_int ht h;simp only [Lit.wf,YB,decide_eq_true_eq] at hw;exact ⟨_,⟨n,⟨hw.1,hw.2⟩,rfl⟩,TRl.one (.simple rfl)⟩
    ·cases hc
  | bool=>
    refine ⟨fun fuel t cs x hc h=> ?_,fun fl off t cs hc=> by simp [Sh.chk] at hc⟩;simp only [Sh.chk] at hc;split at hc
    ·rename_i ht;obtain ⟨b,rfl,_⟩:=DataW.trod_bool ht h;exact ⟨_,⟨b,rfl⟩,TRl.one (.simple rfl)⟩
    ·cases hc
  | str=>
    refine ⟨fun fuel t cs x hc h=> ?_,fun fl off t cs hc=> by simp [Sh.chk] at hc⟩;simp only [Sh.chk] at hc;split at hc
    ·rename_i ht;obtain ⟨b,rfl,_,hl⟩:=DataW.trod_string ht h;exact ⟨_,⟨b,hl,rfl⟩,TRl.one (.simple rfl)⟩
    ·cases hc
  | unit=>
    refine ⟨fun fuel t cs x hc h=> by simp [Sh.chk] at hc,fun fl off t cs hc hl hf=> ?_⟩;cases fl with
    | nil=>
      simp only [Sh.chk] at hc;have:=YE hc;refine ⟨[],rfl, ?_⟩;rw [List.drop_eq_nil_of_le (by omega)];exact TRl.nil
    | cons f fl=> simp [Sh.chk] at hc
  | pair a b iha ihb=>
    refine ⟨fun fuel t cs x hc h=> by simp [Sh.chk] at hc,fun fl off t cs hc hl hf=> ?_⟩;cases fl with
    | nil=> simp [Sh.chk] at hc
    | cons f fl=>
      simp only [Sh.chk,YB] at hc;obtain ⟨h1,h2,h3,h4⟩:=hc;have h1:=YE h1;have h3:=YE h3;subst h1;obtain ⟨fuel,x,hx⟩:=hf f (by simp);obtain ⟨ta,oa,ra⟩:=iha.1 fuel f.type _ x h2 hx;obtain ⟨tb,ob,rb⟩:=ihb.2 fl _ t cs h4 hl (fun g hg=> hf g (by simp [hg]));refine ⟨ta++tb,⟨ta,tb,rfl,oa,ob⟩, ?_⟩;have:cs.drop f.offset=(cs.drop f.offset).take (P.cellsOf f.type)++cs.drop (f.offset+P.cellsOf f.type):=by
       rw [<-List.drop_drop,List.take_append_drop]
      rw [this];exact ra.append rb
  | struct f ih=>
    refine ⟨fun fuel t cs x hc h=> ?_,fun fl off t cs hc=> by simp [Sh.chk] at hc⟩;simp only [Sh.chk] at hc;split at hc
    ·rename_i fs ht;obtain ⟨xs,n,_,_,hl,hlen,hg⟩:=DataW.trod_struct ht h;obtain ⟨ts,h1,h2⟩:=ih.2 fs.toList 0 t cs hc hl fun g hg'=> by
      obtain ⟨i,hi⟩:=List.getElem?_of_mem hg';have hi':fs[i]? =some g:=by simpa using hi
      have:=hg i g hi';have hlt:i < xs.length:=by
       have:=(Array.getElem?_eq_some_iff.1 hi').1;omega
      rw [List.getElem?_eq_getElem hlt] at this;exact ⟨n,_,this⟩
     exact ⟨ts,h1,by simpa using h2⟩
    ·cases hc
  | slice e ih=>
    refine ⟨fun fuel t cs x hc h=> ?_,fun fl off t cs hc=> by simp [Sh.chk] at hc⟩;simp only [Sh.chk] at hc;split at hc
    ·rename_i u ht;simp only [YB] at hc;obtain ⟨hz,hc⟩:=hc;have hz:0 < e.sz:=YL hz;rcases Deep.open_slice ht h with ⟨rfl,_⟩ | ⟨a,len,cap,m,n',D,Pl,rfl,_,hl,hm,hmm,_,hi⟩
     ·exact ⟨_,⟨0,fun _=> List.replicate e.sz undef,fun k=> .inr (Nat.zero_le _),fun k=> by simp,rfl⟩,TRl.one .nil⟩
     ·simp only [if_true] at hmm;subst hmm;have each:∀k,∃r:List Value,(k < len->e.ok r/\(∀j,j < P.cellsOf u->w.cell? (a.add (k * P.cellsOf u+j))=none->False)/\∀(j:Nat) v v',r[j]? =some v->w.cell? (a.add (k * P.cellsOf u+j))=some v'->TRv (allM w) v v')/\r.length=e.sz/\(k < len->e.sz=P.cellsOf u):=by
       intro k;by_cases hk:k < len
       ·obtain ⟨cs',hc',ht'⟩:=hi k (by omega);obtain ⟨ts,ho,hr⟩:=ih.1 n' u cs' _ hc ht';obtain ⟨_,hln,hat⟩:=World.cells?_some hc';have hsz:e.sz=P.cellsOf u:=by rw [<-Sh.ok_sz e ts ho,hr.1,hln]
        refine ⟨ts,fun _=> ⟨ho,fun j hj hnone=> ?_,fun j v v' hv hv'=> ?_⟩,Sh.ok_sz e ts ho,fun _=> hsz⟩
        ·have:=hat j hj;rw [Deep.add_add,hnone,List.getElem?_eq_getElem (by omega)] at this;cases this
        ·have hj:j < ts.length:=(List.getElem?_eq_some_iff.1 hv).1;have:=hat j (by rw [hr.1,hln] at hj;exact hj);rw [Deep.add_add,hv'] at this;exact hr.2 j v v' hv this.symm
       ·exact ⟨List.replicate e.sz undef,fun h=> absurd h hk,by simp,fun h=> absurd h hk⟩
      refine ⟨_,⟨len,fun k=> Classical.choose (each k),fun k=> ?_,fun k=> (Classical.choose_spec (each k)).2.1,rfl⟩,TRl.one ?_⟩
      ·by_cases hk:k < len
       ·exact .inl ((Classical.choose_spec (each k)).1 hk).1
       ·exact .inr (by omega)
      ·generalize hr:(fun k=> Classical.choose (each k))=r;have hr1:∀k,k < len->e.ok (r k)/\(∀j,j < P.cellsOf u->w.cell? (a.add (k * P.cellsOf u+j))=none->False)/\∀(j:Nat) v v',(r k)[j]? =some v->w.cell? (a.add (k * P.cellsOf u+j))=some v'->TRv (allM w) v v':=fun k hk=> by rw [<-hr];exact (Classical.choose_spec (each k)).1 hk
       have hr2:∀k,(r k).length=e.sz:=fun k=> by rw [<-hr];exact (Classical.choose_spec (each k)).2.1
       have hr3:∀k,k < len->e.sz=P.cellsOf u:=fun k hk=> (Classical.choose_spec (each k)).2.2 hk
       rcases Nat.eq_zero_or_pos len with rfl | hpos
       ·have:Qae r (List.range 0)=#[]:=rfl;rw [this];exact .empty hm
       ·have hsz:=hr3 0 hpos;have hex:∃v,w.cell? a=some v:=by
         have:=(hr1 0 hpos).2.1 0 (by omega);have ea:a.add (0 * P.cellsOf u+0)=a:=by simp [Addr.add]
         rw [ea] at this;cases hq:w.cell? a with
         | none=> exact absurd hq this
         | some v=> exact ⟨v,rfl⟩
        obtain ⟨v0,hv0⟩:=hex;obtain ⟨b,o,arr,ty,fl,rfl,hb,_⟩:=Qup hv0;have cellE:∀i,w.cell? ⟨b,o+i,none⟩=arr[o+i]? :=fun i=> by simp [World.cell?,hb]
        refine TRv.slice (o:=o) hl hm hb (fun i hi'=> ?_) fun i v v' hv hv'=> ?_
        ·obtain ⟨k,j,hk,hj,rfl,_⟩:=QpH hr2 (i:=i) (v:=(Qae r (List.range len))[i]) (Array.getElem?_eq_getElem hi');have:=(hr1 k hk).2.1 j (by omega);rw [QoW,<-hsz,cellE] at this;rcases Nat.lt_or_ge (o+(k * e.sz+j)) arr.size with h1 | h1
         ·exact h1
         ·exact absurd (Array.getElem?_eq_none h1) this
        ·obtain ⟨k,j,hk,hj,rfl,hkj⟩:=QpH hr2 hv;refine (hr1 k hk).2.2 j v v' hkj ?_;rw [QoW,<-hsz,cellE];exact hv'
    ·cases hc
 exact key.1
def Sh.arg:Sh->Value->Prop
 | .struct f,v=> ∃cs,v=.agg cs.toArray/\f.ok cs
 | s,v=> s.ok [v]
def Qtd:List Sh->List Value->Prop
 | [],l=> l=[]
 | s::ss,l=> ∃t ts,l=t::ts/\s.arg t/\Qtd ss ts
theorem Qzb {s:Sh} {t:TypeId} {v:Value} {d:DataW H} {ps:List MemPlace} {r:Reach} {b0:Nat} (hc:s.chk P none t=true) (hv:Value.okWide P w r b0 t v) (h:DataW.Trod enc P w 0 (fun _=> true) held t v d ps):∃tr,s.arg tr/\TRv (allM w) tr v:=by
 obtain ⟨fuel,hf⟩:=h;obtain ⟨ts,ho,hr⟩:=Q1K s fuel t _ _ hc hf;have one:v.cells=#[v]->s.ok ts->(∀f,s≠.struct f)->∃tr,s.arg tr/\TRv (allM w) tr v:=fun hv1 ho hs=> by
  rw [hv1] at hr;match ts,hr,ho with
  | [tr],hr,ho=>
    refine ⟨tr, ?_,hr.2 0 tr v rfl rfl⟩;cases s <;> first | exact ho | exact absurd rfl (hs _)
  | [],hr,_=> have:=hr.1;simp at this
  | _::_::_,hr,_=> have:=hr.1;simp at this
 cases s with
 | int=>
   simp only [Sh.chk] at hc;split at hc
   ·rename_i ht;obtain ⟨n,rfl⟩:=okWide_int ht hv;exact one rfl ho fun f h=> by cases h
   ·cases hc
 | bool=>
   simp only [Sh.chk] at hc;split at hc
   ·rename_i ht;obtain ⟨n,rfl⟩:=okWide_bool ht hv;exact one rfl ho fun f h=> by cases h
   ·cases hc
 | str=>
   simp only [Sh.chk] at hc;split at hc
   ·rename_i ht;obtain ⟨n,rfl⟩:=okWide_string ht hv;exact one rfl ho fun f h=> by cases h
   ·cases hc
 | unit=> simp [Sh.chk] at hc
 | pair a b=> simp [Sh.chk] at hc
 | struct f=>
   simp only [Sh.chk] at hc;split at hc
   ·rename_i fs ht;obtain ⟨cs,rfl,_⟩:=okWide_struct ht hv;refine ⟨.agg ts.toArray,⟨ts,rfl,ho⟩,.agg ?_ fun i v v' h1 h2=> ?_⟩
    ·have:=hr.1;simpa [Value.cells] using this
    ·exact hr.2 i v v' (by simpa using h1) (by simpa [Value.cells] using h2)
   ·cases hc
 | slice e=>
   simp only [Sh.chk] at hc;split at hc
   ·rename_i u ht;obtain ⟨a,l,c,rfl⟩:=okWide_slice ht hv;exact one rfl ho fun f h=> by cases h
   ·cases hc
def Qlh (P:Program):List Sh->List TypeId->Bool
 | [],[]=> true
 | s::ss,t::ts=> s.chk P none t && Qlh P ss ts
 | _,_=> false
theorem trodAll_cons {t:TypeId} {ts:List TypeId} {vs:List Value} {ds:List (DataW H)} {ps:List MemPlace} {base:Nat} {spare:Nat->Bool} (h:DataW.TrodAll enc P w base spare held (t::ts) vs ds ps):
 ∃v vs' d ds' p q,vs=v::vs'/\ds=d::ds'/\DataW.Trod enc P w base spare held t v d p/\DataW.TrodAll enc P w base spare held ts vs' ds' q/\ps=p++q:=by
 cases vs with
 | nil=> cases ds <;> simp [DataW.TrodAll] at h
 | cons v vs=>
   cases ds with
   | nil=> simp [DataW.TrodAll] at h
   | cons d ds=>
     simp only [DataW.TrodAll] at h;obtain ⟨p,q,h1,h2,h3⟩:=h;exact ⟨v,vs,d,ds,p,q,rfl,rfl,h1,h2,h3⟩
theorem trodAll_nil {vs:List Value} {ds:List (DataW H)} {ps:List MemPlace} {base:Nat} {spare:Nat->Bool} (h:DataW.TrodAll enc P w base spare held [] vs ds ps):vs=[]/\ds=[]/\ps=[]:=by
 cases vs <;> cases ds <;> simp [DataW.TrodAll] at h
 exact ⟨rfl,rfl,h⟩
theorem Q3R:∀(ss:List Sh) (ts:List TypeId) (vs:List Value) (ds:List (DataW H)) (ps:List MemPlace) (r:Reach) (b0:Nat),Qlh P ss ts=true->DataW.TrodAll enc P w 0 (fun _=> true) held ts vs ds ps->
 (∀(j:Nat) t v,ts[j]? =some t->vs[j]? =some v->Value.okWide P w r b0 t v)->∃trs,Qtd ss trs/\TRl (allM w) trs vs
 | [],[],vs,ds,ps,r,b0,_,h,_=> by
   obtain ⟨rfl,_,_⟩:=trodAll_nil h;exact ⟨[],rfl,TRl.nil⟩
 | s::ss,t::ts,vs,ds,ps,r,b0,hc,h,hv=> by
   simp only [Qlh,YB] at hc;obtain ⟨v,vs',d,ds',p,q,rfl,rfl,h1,h2,rfl⟩:=trodAll_cons h;obtain ⟨tr,ha,hr⟩:=Qzb hc.1 (hv 0 t v rfl rfl) h1;obtain ⟨trs,ha2,hr2⟩:=Q3R ss ts vs' ds' q r b0 hc.2 h2 fun j t v h1 h2=> hv (j+1) t v (by simpa using h1) (by simpa using h2)
   exact ⟨tr::trs,⟨tr,trs,rfl,ha,ha2⟩,(TRl.one hr).append hr2⟩
 | [],_::_,_,_,_,_,_,hc,_,_=> by simp [Qlh] at hc
 | _::_,[],_,_,_,_,_,hc,_,_=> by simp [Qlh] at hc
theorem QyQ {J:World->Prop} {f:FuncId} {ss:List Sh} {ts:List TypeId} {args:Array Value} {ds:List (DataW H)} {ps:List MemPlace} {r:Reach} {b0:Nat} (hJ:J w) (hc:Qlh P ss ts=true) (h:DataW.TrodAll enc P w 0 (fun _=> true) held ts args.toList ds ps)
 (hv:∀(j:Nat) t v,ts[j]? =some t->args[j]? =some v->Value.okWide P w r b0 t v) (walk:∀trs,Qtd ss trs->Qaw P J f trs.toArray (.bool true)):Calls P f args w fun e w'=> e=.returned (.bool true)/\Below w.heap.size w w':=by
 obtain ⟨trs,ha,hr⟩:=Q3R ss ts args.toList ds ps r b0 hc h fun j t v h1 h2=> hv j t v h1 (by simpa using h2)
 refine (walk trs ha (allM w) w args hJ (fun b x h=> h) ⟨by simpa using hr.1,fun i v v' h1 h2=> hr.2 i v v' (by simpa using h1) (by simpa using h2)⟩).mono fun e w' ⟨v',he,hb,ht⟩=> ⟨?_,hb⟩
 rw [he,TRv.simple_eq rfl ht]
theorem Qhc (hl:laidOutB P=true) {W W':World} (hb:Below W.heap.size W W'):∀(ts:List TypeId) (vs:List Value) (ds:List (DataW H)) (ps:List MemPlace),(ts.all fun t=> P.readableRec t && decide (t < P.types.size))=true->DataW.TrodAll enc P W 0 (fun _=> true) true ts vs ds ps->(∀x∈ps,x.block < W.heap.size)->
 DataW.TrodAll enc P W' 0 (fun b=> decide (b < W.heap.size)) true ts vs ds ps
 | [],vs,ds,ps,_,h,_=> by
   obtain ⟨rfl,rfl,rfl⟩:=trodAll_nil h;exact rfl
 | t::ts,vs,ds,ps,ha,h,hlt=> by
   simp only [List.all_cons,YB,decide_eq_true_eq] at ha;obtain ⟨v,vs',d,ds',p,q,rfl,rfl,h1,h2,rfl⟩:=trodAll_cons h;exact ⟨p,q,Below.trod hl ha.1.1 ha.1.2 h1 hb fun x hx=> hlt x (List.mem_append_left _ hx),Qhc hl hb ts vs' ds' q ha.2 h2 fun x hx=> hlt x (List.mem_append_right _ hx),rfl⟩
theorem Q18 {α:Type} {s:Sh} {e:α->List Value} (dec:∀cs,s.ok cs->∃x,cs=e x) {n:Nat} {r:Nat->List Value} (h:∀k,s.ok (r k)\/n<=k):∃xs:List α,xs.length=n/\Qae r (List.range n)=Qae e xs:=by
 induction n with
 | zero=> exact ⟨[],rfl,rfl⟩
 | succ n ih=>
   obtain ⟨xs,hl,hx⟩:=ih fun k=> (h k).imp id fun h=> by omega
   obtain ⟨x,hxe⟩:=dec (r n) ((h n).resolve_right (by omega));refine ⟨xs++[x],by simp [hl], ?_⟩;unfold Qae at hx ⊢;rw [List.range_succ,List.flatMap_append,List.flatMap_append];have:(List.range n).flatMap r=xs.flatMap e:=by simpa using hx
   rw [this];simp [hxe]
theorem QiJ {α:Type} {s:Sh} {e:α->List Value} (dec:∀cs,s.ok cs->∃x,cs=e x) {cs:List Value} (h:Sh.ok (.slice s) cs):∃xs:List α,cs=[slT xs.length (Qae e xs)]:=by
 obtain ⟨n,r,h1,_,rfl⟩:=h;obtain ⟨xs,rfl,hx⟩:=Q18 dec h1;exact ⟨xs,by rw [hx]⟩
theorem Q2V {cs:List Value} (h:Sh.ok .int cs):∃z:Int,cs=Qav z:=by
 obtain ⟨z,_,rfl⟩:=h;exact ⟨z,rfl⟩
def Sh.zero:Sh->List Value
 | .int=> [.int .i64 0]
 | .bool=> [.bool false]
 | .str=> [.string ⟨#[]⟩]
 | .unit=> []
 | .pair a b=> a.zero++b.zero
 | .struct f=> f.zero
 | .slice _=> [.slice none 0 0]
def Sh.zeroA:Sh->Value
 | .struct f=> .agg f.zero.toArray
 | s=> s.zero.headD undef
def shS (l:List Sh):Sh:=.struct (l.foldr .pair .unit)
end
end Go.CE

namespace Go.CE
open Go Go.RowKit

def Q4q (T:Tm):Tm:=ofList T.len ((List.range T.len).map (Qch T))
structure SpD where
 c:CF
 H:Qan
 n:Nat
 g:FuncId
 args:Array Value
 R:List Nat
 W:List Nat
noncomputable def Q4P (P:Program) (F:FuncId->Bool) (c1:CF) (H:Qan) (n:Nat):Option SpD:=
 match c1.mode,c1.todo,c1.defers,c1.roundOf with
 | .run,.code (.region _ ops false)::todo,[],none=> match Qyj P F QaK 0 ops c1 H n with
   | some s=> match s.o.op,s.post with
     | .defer c,[]=> match c.callee with
       | .value x=> match evC s.T x with
         | some (.func (.func g) xs ys)=> bif c.args.isEmpty && F g && Nat.ble s.T.len 16000 then some ⟨⟨c1.fn,Q4q (QeV s.T s.o.dst undef),todo,[],.run,none⟩,s.H,s.n,g,xs++ys,QgJ s.recs,QeY s.recs⟩ else none
         | _=> none
       | _=> none
     | _,_=> none
   | none=> none
 | _,_,_,_=> none
section
variable {P:Program} {F:FuncId->Bool} {J:World->Prop} {B:Lo} {c0 c:CF} {Hb H:Qan} {a n:Nat} {W Wf:List Nat}
end
def Qe0 (n:Int):Nat:=2 ^ n.toNat
def QpT (a n:Int):Nat:=a.toNat >>> n.toNat
def Q03 (a b:Int):Nat:=a.toNat &&& b.toNat
theorem QnT {n:Int} (h1:n<=62):Qe0 n<=4611686018427387904:=by unfold Qe0;exact Nat.le_trans (Nat.pow_le_pow_right (by decide) (show n.toNat<=62 by omega)) (by decide)
theorem Q2r {a n:Int}:QpT a n<=a.toNat:=by unfold QpT;rw [Nat.shiftRight_eq_div_pow];exact Nat.div_le_self _ _
theorem Q0i {n:Int} (h1:n<=62):(2:Nat) ^ n.toNat<=2 ^ 62:=Nat.pow_le_pow_right (by decide) (by omega)
theorem Qzo {P:Program} {t:TypeId} {yk:IntKind} {n:Int} (h0:0<=n) (h1:n<=62):Qrs P .shl t (.int .i64 1) (.int yk n) (.int .i64 ((Qe0 n:Nat):Int)):=fun x y w=> by
 unfold Qe0;have e:min n.toNat (IntKind.bits IntKind.i64)=n.toNat:=Nat.min_eq_left (by show n.toNat<=64;omega);have hp:=Q0i h1;have e2:(2:Int) ^ n.toNat=((2 ^ n.toNat:Nat):Int):=by rw [Int.natCast_pow];rfl
 have e3:IntKind.wrap IntKind.i64 (1 * 2 ^ min n.toNat (IntKind.bits IntKind.i64))=((2 ^ n.toNat:Nat):Int):=by
  rw [e,Int.one_mul,e2];generalize 2 ^ n.toNat=z at *;exact Qfl (by omega) (by omega)
 have hn:¬n < 0:=by omega
 simp only [eqGuard,binOp,Op.shift,hn,if_false,e3];simp
theorem Q16 {P:Program} {t:TypeId} {yk:IntKind} {a n:Int} (ha:0<=a) (h0:0<=n) (h1:n<=62):Qrs P .shr t (.int .i64 a) (.int yk n) (.int .i64 ((QpT a n:Nat):Int)):=fun x y w=> by
 unfold QpT;obtain ⟨b,rfl⟩:∃b:Nat,a=b:=⟨a.toNat,by omega⟩
 have e:min n.toNat (IntKind.bits IntKind.i64)=n.toNat:=Nat.min_eq_left (by show n.toNat<=64;omega);have e3:Int.fdiv (b:Int) (2 ^ min n.toNat (IntKind.bits IntKind.i64))=((((b:Int)).toNat >>> n.toNat:Nat):Int):=by
  rw [e,Int.fdiv_eq_ediv_of_nonneg _ (Int.le_of_lt (Int.pow_pos (by decide))),Int.toNat_natCast,Nat.shiftRight_eq_div_pow,Int.natCast_ediv,Int.natCast_pow];rfl
 have hn:¬n < 0:=by omega
 simp only [eqGuard,binOp,Op.shift,hn,if_false,e3];simp
theorem Qp4 {a:Int} (ha:0<=a):BitVec.ofInt (IntKind.bits IntKind.i64) a=BitVec.ofNat 64 a.toNat:=by
 obtain ⟨b,rfl⟩:∃b:Nat,a=b:=⟨a.toNat,by omega⟩
 rw [Int.toNat_natCast];exact BitVec.ofInt_natCast 64 b
theorem Q1s {P:Program} {t:TypeId} {a b:Int} (ha:0<=a) (ha2:a<=9223372036854775807) (hb:0<=b) (hb2:b<=9223372036854775807):Qrs P .and t (.int .i64 a) (.int .i64 b) (.int .i64 ((Q03 a b:Nat):Int)):=fun x y w=> by
 unfold Q03;have e:IntKind.wrap IntKind.i64 ((BitVec.toNat (BitVec.ofInt (IntKind.bits IntKind.i64) a &&& BitVec.ofInt (IntKind.bits IntKind.i64) b):Nat):Int)=((a.toNat &&& b.toNat:Nat):Int):=by
  rw [Qp4 ha,Qp4 hb];have e3:BitVec.toNat (BitVec.ofNat 64 a.toNat &&& BitVec.ofNat 64 b.toNat)=a.toNat &&& b.toNat:=by
   rw [BitVec.toNat_and,BitVec.toNat_ofNat,BitVec.toNat_ofNat,Nat.mod_eq_of_lt (a:=a.toNat) (by omega),Nat.mod_eq_of_lt (a:=b.toNat) (by omega)]
  show IntKind.wrap IntKind.i64 ((BitVec.toNat (BitVec.ofNat 64 a.toNat &&& BitVec.ofNat 64 b.toNat):Nat):Int)=_;rw [e3];have:=Nat.and_le_left (n:=a.toNat) (m:=b.toNat);exact Qfl (by omega) (by omega)
 simp only [eqGuard,binOp,Op.intBits,ne_eq,not_true_eq_false,if_false,e];simp
def QaR {α:Type} (m:Nat) (e:α->List Value) (x:α):List Value:=(e x).map (Qce m)
def QxK {α:Type} (e:α->List Value):Prop:=∀x,∀v∈e x,simple v=true\/QcT v=true
section
variable {α:Type} {e:α->List Value} {m r j z:Nat} {rs:List (Nat×Nat)} {frs:List (Nat×Array Value)} {ow:List (Nat×Nat)} {xs:List α} {rsT:List Nat}
theorem QbW (h:∀x,(e x).all (fun v=> simple v || QcT v)=true):QxK e:=fun x v hv=> by
 have:=List.all_eq_true.1 (h x) v hv;simpa using this
theorem QeL (v:Value) (h:simple v=true\/QcT v=true):(simple v=true/\Qce m v=v)\/(QcT v=true/\Qce m v=Qaq m v):=by
 unfold Qce;cases hs:simple v with
 | true=> exact .inl ⟨rfl,rfl⟩
 | false=> rw [hs] at h;exact .inr ⟨by simpa using h,rfl⟩
theorem QtL (he:QxK e) (hm:(r,j)∈rs) (x:α):AllX m rs frs ow (QaR r e x) (QaR j e x):=by
 have key:∀l:List Value,(∀v∈l,simple v=true\/QcT v=true)->AllX m rs frs ow (l.map (Qce r)) (l.map (Qce j)):=by
  intro l;induction l with
  | nil=> intro _;trivial
  | cons v l ih=>
    intro h;refine ⟨?_,ih fun u hu=> h u (List.mem_cons_of_mem _ hu)⟩;show Qpa m rs frs ow (Qce r v) (Qce j v);rcases QeL (m:=r) v (h v (by simp)) with ⟨a,b⟩ | ⟨a,b⟩ <;> rcases QeL (m:=j) v (h v (by simp)) with ⟨c,d⟩ | ⟨c,d⟩
    ·rw [b,d];exact .simple a
    ·rw [b];unfold Qce;rw [a];exact .simple a
    ·rw [d];unfold Qce;rw [c];exact .simple c
    ·rw [b,d];exact .reg hm a
 exact key _ (he x)
theorem QtI {e1 e2:α->List Value} (h:∀x,AllX m rs frs ow (e1 x) (e2 x)):Qbx m rs frs ow (Qae e1 xs) (Qae e2 xs):=by
 unfold Qbx Qae;simp only;induction xs with
 | nil=> trivial
 | cons x xs ih=> simp only [List.flatMap_cons];exact (h x).append ih
theorem Qbq (he:QxK e) (hm:(r,j)∈rs):Qbx m rs frs ow (Qae (QaR r e) xs) (Qae (QaR j e) xs):=QtI (QtL he hm)
theorem Qsk {cs:Array Value} {vs:List Value} {x:α} (h:Qbx m rs frs ow cs (Qae e xs)) (hx:AllX m rs frs ow vs (e x)):Qbx m rs frs ow (cs++vs.toArray) (Qae e (xs++[x])):=by
 unfold Qbx at h ⊢;rw [<-QxB];simp only [Array.toList_append];exact AllX.append h hx
theorem QuE {vs:List Value} {x:α} (hx:AllX m rs frs ow vs (e x)):Qbx m rs frs ow vs.toArray (Qae e [x]):=by
 unfold Qbx Qae;simpa using hx
theorem QuU {vs:List Value} {x:α} (h:AllX m rs frs ow vs (e x)):∀k:Nat,Qbx m rs frs ow (Qae (fun (_:α)=> vs) (List.replicate k x)) (Qae e (List.replicate k x))
 | 0=> trivial
 | k+1=> by
   unfold Qbx Qae;simp only [List.replicate_succ,List.flatMap_cons];exact h.append (QuU h k)
theorem QhZ (he:QxK e) (hm:m∈rsT):Qcv rsT (Qae (QaR m e) xs) (Qae e xs):=by
 have key:∀l:List Value,(∀v∈l,simple v=true\/QcT v=true)->∀(i:Nat) v v1,(l.map (Qce m))[i]? =some v->l[i]? =some v1->Qqt rsT v v1:=by
  intro l h i v v1 h1 h2;rw [List.getElem?_map,h2] at h1;simp only [Option.map_some,YO] at h1;subst h1;rcases QeL (m:=m) v1 (h v1 (List.mem_of_getElem? h2)) with ⟨a,b⟩ | ⟨a,b⟩
  ·exact .inl ⟨by rw [b];exact a,b.symm⟩
  ·exact .inr ⟨m,hm,b,a⟩
 have e0:Qae (QaR m e) xs=((xs.flatMap e).map (Qce m)).toArray:=by
  unfold Qae QaR;rw [List.map_flatMap]
 refine ⟨by rw [e0];simp [Qae],fun i v v1 h1 h2=> ?_⟩;rw [e0] at h1;refine key (xs.flatMap e) (fun v hv=> ?_) i v v1 (by simpa using h1) (by simpa [Qae] using h2);obtain ⟨x,_,hx⟩:=List.mem_flatMap.1 hv;exact he x v hx
theorem QlQ {a:Nat} {t:TypeId} {fl:Nat×Nat} (he:QxK e) (hm:m < a):Q1p a (.cells (Qae (QaR m e) xs) t fl):=fun i v hv=> by
 have:v∈Qae (QaR m e) xs:=Array.mem_of_getElem? hv;simp only [Qae,List.mem_toArray,List.mem_flatMap,QaR,List.mem_map] at this;obtain ⟨x,_,u,hu,rfl⟩:=this;rcases QeL (m:=m) u (he x u hu) with ⟨h1,h2⟩ | ⟨h1,h2⟩
 ·rw [h2];exact .inl (QlH h1)
 ·rw [h2];refine .inl ?_;show Q0R a (Qaq m u)=true;have:Nat.blt m a=true:=Nat.ble_eq_true_of_le hm;unfold Q0R;rw [show simple (Qaq m u)=false from rfl,Bool.false_or];exact this
end
def Qc4 (zs:List Value) (_:Unit):List Value:=zs
theorem QwG {zc:Array Value} {z n:Nat} (hz:zc.size=z) (h0:0 < z):madeCells zc (n * z)=Qae (Qc4 zc.toList) (List.replicate n ()):=by
 have hl:∀x,(Qc4 zc.toList x).length=z:=fun x=> by simp [Qc4,hz]
 refine Array.ext_getElem? fun i=> ?_
 by_cases hi:i < n * z
 ·have hk:i / z < n:=(Nat.div_lt_iff_lt_mul h0).2 hi;have hj:i % z < z:=Nat.mod_lt _ h0;have e:i / z * z+i % z=i:=by rw [Nat.mul_comm];exact Nat.div_add_mod i z
  have:=QiW (e:=Qc4 zc.toList) (xs:=List.replicate n ()) hl (k:=i / z) (j:=i % z) (by simpa using hk) hj;rw [e] at this;rw [this];have hj':i % z < zc.size:=by rw [hz];exact hj
  simp only [madeCells,Array.getElem?_map,Array.getElem?_range,hi,if_true,Option.map_some,hz,Qc4];simp [hj']
 ·have a:(madeCells zc (n * z)).size=n * z:=size_madeCells _ _;have b:(Qae (Qc4 zc.toList) (List.replicate n ())).size=n * z:=by rw [QcK hl];simp
  rw [Array.getElem?_eq_none (by omega),Array.getElem?_eq_none (by omega)]
def Q4B (P:Program) (t e z bytes:Nat) (zs:List Value):Bool:=match und P t with
 | some (.slice e')=> Nat.beq e' e && match inf P e with
   | some i=> match i.zero with
     | some zv=> Nat.beq i.size z && (Nat.beq i.bytes bytes && (Nat.blt 0 z && (Nat.beq zv.cells.size z && (eqL (eqV 2) zv.cells.toList zs && zs.all simple))))
     | none=> false
   | none=> false
 | _=> false
theorem Qtu {P:Program} {t e z bytes:Nat} {zs:List Value} (h:Q4B P t e z bytes zs=true) {l:Int} {k k':IntKind} (h0:0<=l) (hb:bytes * l<=281474976710656) (hn:l<=9223372036854775807):
 Qj9 P t (.int k l) (.int k' l)=some (e,Qae (Qc4 zs) (List.replicate l.toNat ()),l.toNat,z):=by
 unfold Q4B at h;split at h
 ·rename_i e' hu;split at h
  ·rename_i i hi;split at h
   ·rename_i zv hz;simp only [YB] at h;obtain ⟨h1,h2,h3,h4,h5,h6,h7⟩:=h;have h1:=YE h1;have h2:=YE h2;have h3:=YE h3;have h4:0 < z:=YL h4;have h5:=YE h5;have h6:=Qdv (QcR 2) _ _ h6;subst h1 h2 h3;have e1:=QwG (n:=l.toNat) h5 h4;rw [h6] at e1;have hall:(madeCells zv.cells (l.toNat * i.size)).all simple=true:=by
     rw [e1,Array.all_eq_true'];intro v hv;simp only [Qae,List.mem_toArray,List.mem_flatMap,Qc4] at hv;obtain ⟨_,_,hv⟩:=hv;exact List.all_eq_true.1 h7 v hv
    simp only [Qj9,hu,hi,hz,decide_eq_true h0,decide_eq_true hb,decide_eq_true hn,decide_eq_true (Int.le_refl l),hall,Bool.and_self,cond_true];rw [e1]
   ·simp at h
  ·simp at h
 ·cases h
section
variable {α:Type} {e:α->List Value} {m z:Nat} {rs:List (Nat×Nat)} {frs:List (Nat×Array Value)} {ow:List (Nat×Nat)} {xs:List α}
theorem QdU {zs:List Value} {x:α} (h:AllX m rs frs ow zs (e x)):∀k:Nat,Qbx m rs frs ow (Qae (Qc4 zs) (List.replicate k ())) (Qae e (List.replicate k x))
 | 0=> trivial
 | k+1=> by
   unfold Qbx Qae;simp only [List.replicate_succ,List.flatMap_cons];exact AllX.append h (QdU h k)
theorem AllX.take {l k:List Value}:∀(n:Nat) {l k:List Value},AllX m rs frs ow l k->AllX m rs frs ow (l.take n) (k.take n)
 | 0,_,_,_=> trivial
 | _+1,[],[],_=> trivial
 | n+1,_::_,_::_,h=> ⟨h.1,AllX.take (l:=[]) (k:=[]) n h.2⟩
 | _+1,[],_::_,h=> h.elim
 | _+1,_::_,[],h=> h.elim
theorem AllX.drop {l k:List Value}:∀(n:Nat) {l k:List Value},AllX m rs frs ow l k->AllX m rs frs ow (l.drop n) (k.drop n)
 | 0,_,_,h=> h
 | _+1,[],[],_=> trivial
 | n+1,_::_,_::_,h=> AllX.drop (l:=[]) (k:=[]) n h.2
 | _+1,[],_::_,h=> h.elim
 | _+1,_::_,[],h=> h.elim
theorem Qt9 {cs:Array Value} {vs:List Value} {x:α} {k:Nat} (hz:∀y,(e y).length=z) (h:Qbx m rs frs ow cs (Qae e xs)) (hk:k < xs.length) (hx:AllX m rs frs ow vs (e x)):Qbx m rs frs ow (splice cs (k * z) vs.toArray) (Qae e (xs.set k x)):=by
 have hlen:=(AllX.get hx).1;rw [hz x] at hlen;rw [<-(Qko hz hk).2];unfold Qbx at h ⊢;unfold splice;simp only [hz x,<-hlen];exact AllX.append (AllX.append (AllX.take (l:=[]) (k:=[]) _ h) hx) (AllX.drop (l:=[]) (k:=[]) _ h)
theorem QjW {cs:Array Value} {vs:List Value} {x:α} {k:Nat} (hz:∀y,(e y).length=z) (h:Qbx m rs frs ow cs (Qae e xs)) (hk:k < xs.length) (hx:AllX m rs frs ow vs (e x)):Qbx m rs frs ow (splice cs (0+k * z) vs.toArray) (Qae e (xs.set k x)):=by
 rw [Nat.zero_add];exact Qt9 hz h hk hx
theorem Qc7 (h:∀x,(e x).length=z) {k z':Nat} (hk:k < xs.length) {x:α} {cs:Array Value} (hc:cs=(e x).toArray) (hz:z'=z):0+k * z+z'<=(Qae e xs).size/\splice (Qae e xs) (0+k * z) cs=Qae e (xs.set k x):=by
 subst hz;rw [Nat.zero_add];exact Q1F h hk hc
theorem QyP (h:∀x,(e x).length=z) {k z':Nat} (hk:k < xs.length) (hz:z'=z):0+k * z+z'<=(Qae e xs).size:=by
 subst hz;rw [Nat.zero_add];exact Qxx h hk
end
end Go.CE

noncomputable abbrev Go.CE.YP:Go.Program:=Go.Proofs.Try.prog
namespace Go.Proofs.Ytncjjangllkokaa
open Go Go.CE Go.RowKit
abbrev pA (b o:Nat):Value:=.pointer (some ⟨b,o,none⟩)
def J0:World->Prop:=fun _=> True
theorem QbS:∀w w':World,(∀b,b < w.heap.size->w'.heap[b]? =w.heap[b]?)->J0 w->J0 w':=fun _ _ _ _=> trivial
theorem Qab:YP.follows .mixedOrders=true:=by decide+kernel
theorem okF:∀g,Qa3 YP g=true->Qa3 YP g=true:=fun _ h=> h
end Go.Proofs.Ytncjjangllkokaa

namespace Go.CE
open Go Go.RowKit

section
variable {P:Program} {F:FuncId->Bool} {T:Tm} {o:Oper} {H:Qan} {n:Nat}
theorem QkG {t e:TypeId} {x hi:Operand} {b off N z:Nat} {k:IntKind} {l:Int} (ho:o.op=.slice t x none (some hi) none) (hx:evC T x=some (.pointer (some ⟨b,off,none⟩))) (hl:evC T hi=some (.int k l)) (hu:und P t=some (.array N e)) (hz:QdK P e=some z) (hN:Nat.ble N maxLen=true) (h1:0<=l) (h2:l<=N):
 opS P F QaK (fun _ _ _=> none) T o H n=some ⟨.ret (.slice (some ⟨b,off,none⟩) l.toNat 0),H,n,[],[]⟩:=by
 have e1:Q0D N none (some (.int k l))=some (0,l.toNat):=by
  simp only [Q0D,bnd,decide_eq_true h1,decide_eq_true h2,Bool.and_self,cond_true]
 have e4:Qi1 P t (.pointer (some ⟨b,off,none⟩)) none (some (.int k l))=some (.slice (some ⟨b,off,none⟩) l.toNat 0):=by
  simp only [Qi1,hu,hz,e1,hN,cond_true,Nat.zero_mul,Nat.add_zero,Nat.sub_zero];cases Nat.beq N 0 <;> rfl
 have e5:Qlt P F (evC T) o H n=some ⟨.val (.slice (some ⟨b,off,none⟩) l.toNat 0),H,n,[],[]⟩:=by
  unfold Qlt cop;simp only [ho,hx,evo,hl,e4,mkPure,Option.map_some,List.all_nil,cond_true]
 unfold opS;simp only [ho,e5]
end
section
variable {P:Program} {F:FuncId->Bool} {T:Tm} {o:Oper} {H:Qan} {n:Nat}
theorem QfK {c:Call} {s x:Operand} {sv:Value} {t e:TypeId} {b off m s2 z by':Nat} {cs cs':Array Value} {te:TypeId} {f:Nat×Nat} (ho:o.op=.call c) (hc:c.callee=.builtin .append) (ha:c.args.toList=[s,x]) (hat:c.argTypes.toList=[t,t])
 (hs:evC T s=some sv) (hbn:QdY sv=true) (hx:evC T x=some (.slice (some ⟨b,off,none⟩) m s2)) (hu:und P t=some (.slice e)) (hi:(inf P e).map (fun i=> (i.zero.map (·.cells.size),i.size,i.bytes))=some (some (z+1),z+1,by')) (hb:Qao H b=some (.cells cs te f)) (hn:b < n)
 (hq:0 < m/\m<=maxLen/\m * by'<=140737488355328/\off+m * (z+1)<=cs.size/\ones (cs.extract off (off+m * (z+1)))=true/\cs.extract off (off+m * (z+1))=cs'):
 opS P F QaK (fun _ _ _=> none) T o H n=some ⟨.ret (.slice (some ⟨n,0,none⟩) m (z+1)),(n,.cells cs' e (0,0))::H,n+1,[b],[]⟩:=by
 obtain ⟨h1,h2,h3,h4,h5,rfl⟩:=hq;cases hinf:inf P e with
 | none=> rw [hinf] at hi;cases hi
 | some i=>
   rw [hinf] at hi;simp only [Option.map_some,YO,YR] at hi;obtain ⟨i1,i2,i3⟩:=hi;cases hz:i.zero with
   | none=> rw [hz] at i1;cases i1
   | some zv=>
     rw [hz] at i1;simp only [Option.map_some,YO] at i1;have eb:bare sv=.slice none 0 0:=by
      unfold QdY at hbn;split at hbn
      ·rfl
      ·rfl
      ·cases hbn
     have e4:Q0T P t t H n sv (.slice (some ⟨b,off,none⟩) m s2)=some ⟨.val (.slice (some ⟨n,0,none⟩) m (z+1)),(n,.cells (cs.extract off (off+m * (z+1))) e (0,0))::H,n+1,[b],[]⟩:=by
      have q1:Nat.beq zv.cells.size (z+1)=true:=by rw [i1];simp
      have q2:Nat.ble m maxLen=true:=Nat.ble_eq_true_of_le h2;have q3:Nat.ble (m * i.bytes) 140737488355328=true:=Nat.ble_eq_true_of_le (by rw [i3];exact h3);have q4:Nat.blt 0 m=true:=Nat.ble_eq_true_of_le h1;have q5:Nat.ble (off+m * (z+1)) cs.size=true:=Nat.ble_eq_true_of_le h4;simp only [Q0T,eb,show Nat.beq t t=true by simp,cond_true,QcM,hu,hinf,hz,i2,QfW,QpL,hb,q5,h5,q1,q2,q3,q4,Nat.zero_add,Bool.and_self,QiF,Option.toList,Array.empty_append]
     have e5:Qlt P F (evC T) o H n=some ⟨.val (.slice (some ⟨n,0,none⟩) m (z+1)),(n,.cells (cs.extract off (off+m * (z+1))) e (0,0))::H,n+1,[b],[]⟩:=by
      unfold Qlt cop;simp only [ho,hc,ha,hat,hs,hx,e4,List.all_cons,List.all_nil,show Nat.blt b n=true from Nat.ble_eq_true_of_le hn,Bool.and_self,cond_true]
     unfold opS;simp only [ho,e5]
end
theorem QvW {α:Type} {e:α->List Value} (h:∀x,(e x).all (·.oneCell')=true) (zs:List α) (i j:Nat):ones ((Qae e zs).extract i j)=true:=by
 unfold ones;rw [Array.all_eq_true'];intro v hv;have hv':v∈(Qae e zs).toList:=by
  have:=Array.mem_def.1 hv;rw [Array.toList_extract,List.extract_eq_take_drop] at this;exact List.mem_of_mem_drop (List.mem_of_mem_take this)
 simp only [Qae,List.mem_flatMap] at hv';obtain ⟨x,_,hx⟩:=hv';exact List.all_eq_true.1 (h x) v hx
theorem QuJ {v:Value} (h:simple v=true):v.oneCell'=true:=by
 cases v <;> first | rfl | (cases h;done)
theorem QqP {α:Type} {e:α->List Value} {r:Nat} (hs:∀x,(e x).all simple=true) (xs:List α):(Qae e xs).map (Qce r)=Qae e xs/\((Qae e xs).all fun v=> simple v || QcT v)=true/\ones (Qae e xs)=true:=by
 have h:∀v∈Qae e xs,simple v=true:=Qay fun x=> List.all_eq_true.1 (hs x)
 refine ⟨?_,Array.all_eq_true'.2 fun v hv=> by rw [h v hv];rfl,Array.all_eq_true'.2 fun v hv=> QuJ (h v hv)⟩;apply Array.ext (by simp);intro i h1 h2;have hv:=h _ (Array.getElem_mem h2);simp [Qce,hv]
theorem QiI {α:Type} {e:α->List Value} {z:Nat} (hz:∀x,(e x).length=z) (hs:∀x,(e x).all (·.oneCell')=true) {xs:List α} {m:Nat} (hm:m=xs.length):0+m * z<=(Qae e xs).size/\ones ((Qae e xs).extract 0 (0+m * z))=true/\(Qae e xs).extract 0 (0+m * z)=Qae e xs:=by
 subst hm;refine ⟨by rw [QcK hz];omega,QvW hs _ _ _, ?_⟩;rw [Nat.zero_add,<-QcK (e:=e) (xs:=xs) hz];simp
def Qag (fs:List Int) (k:Nat):Int:=fs.getD k 0
def Q1X (k:Nat) (x:Int):Nat->List Int->List Int
 | _,[]=> []
 | j,f::l=> (if k=j then x else f)::Q1X k x (j+1) l
theorem QiO (k:Nat) (x:Int):∀(l:List Int) (j:Nat),(Q1X k x j l).length=l.length
 | [],_=> rfl
 | _::l,j=> by simp [Q1X,QiO k x l (j+1)]
theorem QsQ (k:Nat) (x:Int):∀(l:List Int) (j i:Nat),i < l.length->(Q1X k x j l)[i]? =some (if k=j+i then x else l.getD i 0)
 | [],_,_,h=> by simp at h
 | f::l,j,0,_=> by simp [Q1X]
 | f::l,j,i+1,h=> by
   have:=QsQ k x l (j+1) i (by simpa using h);simp only [Q1X,List.getElem?_cons_succ,this,List.getD_cons_succ];rw [show j+1+i=j+(i+1) by omega]
theorem Qtm {cs:Array Value} {fs:List Int} {off i:Nat} (h:(cs.toList.drop off).take fs.length=fs.map (Value.int .i64)) (hi:i < fs.length):cs[off+i]? =some (.int .i64 (fs.getD i 0)):=by
 have e:((cs.toList.drop off).take fs.length)[i]? =(fs.map (Value.int .i64))[i]? :=by rw [h]
 rw [List.getElem?_take_of_lt hi,List.getElem?_drop,List.getElem?_map,Array.getElem?_toList] at e;rw [e];simp [List.getD_eq_getElem?_getD,hi]
theorem QhU {cs:Array Value} {fs:List Int} {off k:Nat} (h:(cs.toList.drop off).take fs.length=fs.map (Value.int .i64)) (hk:k < fs.length):cs[off+k * 1]? =some (.int .i64 (Qag fs k)):=by
 rw [Nat.mul_one];exact Qtm h hk
theorem Qwl {l:List Int}:ones (Qae Qav l)=true:=by
 unfold ones;rw [Array.all_eq_true'];intro v hv;have:=Qay (e:=Qav) (fun x v hv=> by simp [Qav] at hv;subst hv;rfl) v hv;cases v <;> first | rfl | cases this
theorem Qv1 {cs:Array Value} {fs:List Int} {off m:Nat} (h:(cs.toList.drop off).take fs.length=fs.map (Value.int .i64)) (hm:m<=fs.length) (h0:0 < fs.length):off+m * 1<=cs.size/\ones (cs.extract off (off+m * 1))=true/\cs.extract off (off+m * 1)=Qae Qav (fs.take m):=by
 have hsz:off+fs.length<=cs.size:=by
  have e:=Qtm h (i:=fs.length - 1) (by omega);have:=(Array.getElem?_eq_some_iff.1 e).1;omega
 rw [Nat.mul_one];have e:cs.extract off (off+m)=Qae Qav (fs.take m):=by
  apply Array.ext';rw [Array.toList_extract,List.extract_eq_drop_take,show off+m - off=m by omega];have e2:(cs.toList.drop off).take m=((cs.toList.drop off).take fs.length).take m:=by rw [List.take_take,Nat.min_eq_left hm]
  rw [e2,h,<-List.map_take];induction fs.take m with
  | nil=> rfl
  | cons x l ih=> rw [List.map_cons,ih];rfl
 exact ⟨by omega,by rw [e];exact Qwl,e⟩
theorem QyY {cs:Array Value} {fs:List Int} {off k:Nat} (h:(cs.toList.drop off).take fs.length=fs.map (Value.int .i64)) (hk:k < fs.length):cs.extract (off+k * 1) (off+k * 1+1)=#[.int .i64 (Qag fs k)]:=by
 have e:=QhU h hk;have hs:=(Array.getElem?_eq_some_iff.1 e).1;refine Array.ext_getElem? fun i=> ?_
 rw [Array.getElem?_extract];by_cases hi:i=0
 ·subst hi;rw [if_pos (by omega),Nat.add_zero,e];rfl
 ·rw [if_neg (by omega),Array.getElem?_eq_none (by simp;omega)]
theorem Q4y {l:List Int} {k:Nat} (h:l.length<=4):Qag [l.getD 0 0,l.getD 1 0,l.getD 2 0,l.getD 3 0] k=l.getD k 0:=by
 match k with
 | 0=> rfl
 | 1=> rfl
 | 2=> rfl
 | 3=> rfl
 | k+4=>
   have e:l.getD (k+4) 0=0:=by rw [List.getD_eq_getElem?_getD,List.getElem?_eq_none (by omega)];rfl
   rw [e];rfl
theorem QsT {cs cs' vc:Array Value} {fs:List Int} {off k:Nat} {x:Int} (hv:vc=#[.int .i64 x]) (h:(cs.toList.drop off).take fs.length=fs.map (Value.int .i64)) (hk:k < fs.length) (hc:cs'.toList=cs.toList.take off++(Q1X k x 0 fs).map (Value.int .i64)++cs.toList.drop (off+fs.length)):
 off+k * 1+1<=cs.size/\splice cs (off+k * 1) vc=cs':=by
 subst hv;have hsz:off+fs.length<=cs.size:=by
  have e:=Qtm h (i:=fs.length - 1) (by omega);have:=(Array.getElem?_eq_some_iff.1 e).1;omega
 rw [Nat.mul_one];refine ⟨by omega,Array.ext_getElem? fun i=> ?_⟩;rw [QeD (by simp;omega),<-Array.getElem?_toList (xs:=cs'),hc];have l1:(cs.toList.take off).length=off:=by simp;omega
 by_cases h1:i < off
 ·rw [if_neg (by simp;omega),List.append_assoc,List.getElem?_append_left (by omega),List.getElem?_take_of_lt h1,Array.getElem?_toList]
 ·rw [List.append_assoc,List.getElem?_append_right (by omega),l1];by_cases h2:i - off < fs.length
  ·rw [List.getElem?_append_left (by simp [QiO];omega),List.getElem?_map,QsQ k x fs 0 (i - off) h2];by_cases h3:i=off+k
   ·subst h3;rw [if_pos (by simp),if_pos (by omega)];simp
   ·rw [if_neg (by simp;omega),if_neg (by omega)];have e:=Qtm h h2;rw [show off+(i - off)=i by omega] at e;rw [e];rfl
  ·rw [if_neg (by simp;omega),List.getElem?_append_right (by simp [QiO];omega),List.getElem?_drop,List.length_map,QiO,Array.getElem?_toList];congr 1;omega
theorem QsB {xs:List Int} {cs cs':Array Value} {off k r m:Nat} {e:Int->List Value} (he:∀x,e x=[.int .i64 x]) (hm:m=xs.length) (h0:0 < m) (hk:m<=k) (h:(cs.toList.drop off).take k=List.replicate k (Value.int .i64 0)) (hz:off+k<=cs.size)
 (hc:cs'.toList=cs.toList.take off++((List.range k).map fun j=> Value.int .i64 (xs.getD j default))++cs.toList.drop (off+k)):
 0 < m/\off+Nat.min m k * 1<=cs.size/\Nat.min m k * 1<=(Qae e xs).size/\((Qae e xs).all fun v=> simple v || QcT v)=true/\ones (((Qae e xs).extract 0 (Nat.min m k * 1)).map (Qce r))=true/\splice cs off (((Qae e xs).extract 0 (Nat.min m k * 1)).map (Qce r))=cs':=by
 subst hm;have hmin:Nat.min xs.length k * 1=xs.length:=by rw [Nat.mul_one];exact Nat.min_eq_left hk
 have hrow:Qae e xs=(xs.map (Value.int .i64)).toArray:=by
  have:xs.flatMap e=xs.map (Value.int .i64):=by
   have:e=fun x=> [Value.int .i64 x]:=funext he
   rw [this];have h9:∀l:List Int,l.flatMap (fun x=> [Value.int .i64 x])=l.map (Value.int .i64):=fun l=> by
    induction l with
    | nil=> rfl
    | cons x l ih=> rw [List.flatMap_cons,ih];rfl
   exact h9 xs
  unfold Qae;rw [this]
 have hsz:(Qae e xs).size=xs.length:=by rw [hrow];simp
 have hext:((Qae e xs).extract 0 (Nat.min xs.length k * 1)).map (Qce r)=(xs.map (Value.int .i64)).toArray:=by
  rw [hmin,hrow];apply Array.ext_getElem?;intro i;rw [Array.getElem?_map,Array.getElem?_extract];by_cases hi:i < xs.length
  ·rw [if_pos (by simp;omega)];simp [hi,Qce,simple]
  ·rw [if_neg (by simp;omega)];simp [hi]
 rw [hext,hmin,hsz];refine ⟨h0,by omega,Nat.le_refl _, ?_, ?_,Array.ext_getElem? fun i=> ?_⟩
 ·rw [hrow];simp [simple]
 ·simp [ones,Value.oneCell']
 ·rw [QeD (by simp;omega),<-Array.getElem?_toList (xs:=cs'),hc];have l1:(cs.toList.take off).length=off:=by simp;omega
  by_cases h1:i < off
  ·rw [if_neg (by simp;omega),List.append_assoc,List.getElem?_append_left (by omega),List.getElem?_take_of_lt h1,Array.getElem?_toList]
  ·rw [List.append_assoc,List.getElem?_append_right (by omega),l1];by_cases h2:i - off < k
   ·rw [List.getElem?_append_left (by simp;omega),List.getElem?_map,List.getElem?_range h2];by_cases h3:i - off < xs.length
    ·rw [if_pos (by simp;omega)];simp [h3,List.getD_eq_getElem?_getD]
    ·rw [if_neg (by simp;omega)];have e2:((cs.toList.drop off).take k)[i - off]? =(List.replicate k (Value.int .i64 0))[i - off]? :=by rw [h]
     rw [List.getElem?_take_of_lt h2,List.getElem?_drop,show off+(i - off)=i by omega,Array.getElem?_toList,List.getElem?_replicate,if_pos h2] at e2;rw [e2];simp [List.getD_eq_getElem?_getD,List.getElem?_eq_none (show xs.length<=i - off by omega)]
   ·rw [if_neg (by simp;omega),List.getElem?_append_right (by simp;omega),List.getElem?_drop,Array.getElem?_toList];congr 1;simp;omega
theorem FinK.wri {P:Program} {J:World->Prop} {g:FuncId} {args:Array Value} {c0:CF} {Hb ws:Qan} {a:Nat} {Wf:List Nat} {bs outs news:List Obj} {out:OO} (hc:QbQ P g args=some c0) (e1:Hb=Qvn bs) (e2:a=bs.length+1) (e3:ws=Qbg 1 outs) (e4:Wf=List.range' 1 bs.length)
 (h:∀B:Lo,(∀w,B.has w->J w)->FinK P B c0 Hb a out ws news Wf):WriC P J g args bs out outs news:=fun B hJ μ w args' cs hok hB hf hv=> by
 subst e1 e2 e3 e4;obtain ⟨out',w',μ',hp,ho,_,he⟩:=h B hJ μ w _ cs hok hB hf (QcE hc hv);rw [show bs.length+1+1+news.length=bs.length+2+news.length by omega] at hp;exact ⟨out',w',μ',hp,ho,he⟩
theorem QbF {α:Type} {e:α->List Value} {xs:List α} {z:Nat} [Inhabited α] (h:∀x,(e x).length=z) {k j:Nat} {v:Value} (hk:k < xs.length) (hv:(e (xs.getD k default))[j]? =some v):(Qae e xs)[0+k * z+j]? =some v:=by
 rw [Nat.zero_add];exact Q2v h hk hv
end Go.CE
