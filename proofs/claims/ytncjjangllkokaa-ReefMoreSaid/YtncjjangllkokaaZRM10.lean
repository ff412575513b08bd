/- TW 7: heads and ends of runs with trees; contracts. -/
import Derived.Test.YtncjjangllkokaaZRM09
import Derived.Deep.Slices
import Derived.Carry
import Derived.WideShapes
import Derived.ChangeShapes
import Derived.SevenTiedAt
import Derived.Test.YtncjjangllkokaaZRM07
import Derived.Test.YtncjjangllkokaaProg
set_option linter.all false
open List renaming getElem?_eq_none->Lu,getElem?_cons_zero->Lq,getElem?_map->Lx,mem_of_getElem? ->Lm,getElem?_append_left->Lt,getElem?_append_right->Lj,range->Lv,mem_cons_of_mem->Ls,getD_eq_getElem?_getD->Ll,getElem?_eq_getElem->LP,getD->Ld,replicate->Li,mem_append_left->Lk,mem_append_right->Lr,append_assoc->LQ,getElem?_take_of_lt->LS,range'->LB
open Nat renaming ble->LI,beq->Lg,lt_or_ge->LA,le_refl->Ly,zero_add->Lz,blt->Lp,ble_eq_true_of_le->LH,min->LJ
open Option renaming map_some->LC
open Array renaming mem_of_getElem? ->LD,getElem?_toList->Ln,getElem?_extract->LO
open Int renaming le_refl->LL
open Inhabited renaming default->La
namespace Go.CE
open Go Go.RowKit

def ZH:Q0:=[(0,XM)]
def QI(objs:List Obj):Q0:=(0,XM)::(1,XM)::XJ 2 objs
theorem mi(objs:List Obj)(j:Nat):Q4 (QI objs) j=if j=0 then some XM else if j=1 then some XM else objs[j-2]? :=by
 unfold QI;rw[Xe,Xe,WH];by_cases h0:j=0
 ·simp[h0]
 ·by_cases h1:j=1
  ·simp[h1]
  ·rw[if_neg h0,if_neg h1,if_pos (by omega),if_neg h0,if_neg h1]
theorem cJ(objs:List Obj):Under (QI objs) (2+objs.length):=fun i hi=>by
 rw[mi,if_neg (by omega),if_neg (by omega),Lu (by omega)]
def PQ(H:Q0)(m:Nat)(pos:Nat->Option Nat)(fz:List Fz):List (Nat×KS)->Option (List Obj×List Prop)
 |[]=>some ([],[])
 |(k,s)::l=>match ET H m pos fz (Q4 H k) s with
  |some (o,L)=>match PQ H m pos fz l with
   |some (os,L2)=>some (o::os,L++L2)
   |none=>none
  |none=>none
structure DS where
 fn:FuncId
 len:Nat
 todo:List Item
 defers:List Nat
 mode:CM
 roundOf:Option Nat
 vals:List Value
 objs:List Obj
 L:List Prop
def Bk:Option Obj->Bool
 |some (.cells _ _ (0,0))=>true
 |_=>false
def landM(s:Option ST)(slots:List Nat)(keeps:List (Nat×KS))(fz:List Fz):Option DS:=match s with
 |some ⟨.at c H n,W,L⟩=>bif W.isEmpty && distinct (keeps.map (·.1)) && (keeps.all fun k=>LI 1 k.1) && (fz.all fun x=>LI 1 x.k && Bk (Q4 H x.k) && (keeps.all fun k=> !(Lg k.1 x.k)))then
  match nL (rS H 1 (posOf (keeps.map (·.1)) 2) fz 3) (slots.map (Zc c.tmps)),PQ H 1 (posOf (keeps.map (·.1)) 2) fz keeps with
  |some (vs,L1),some (os,L2)=>some ⟨c.fn,c.tmps.len,c.todo,c.defers,c.mode,c.roundOf,vs,os,L1++(L2++L)⟩
  |_,_=>none
   else none
 |_=>none
section
variable {P:Program} {F:FuncId->Bool} {J:World->Prop} {B:Lo}
theorem nK{f:Value->Option (Value×List Prop)}:∀(l ts:List Value) (L:List Prop),nL f l=some (ts,L)->ts.length=l.length/\∀(i:Nat) v,ts[i]? =some v->∃u L1,l[i]? =some u/\f u=some (v,L1)/\(Q3 L->Q3 L1)
 |[],ts,L,h=>by
  simp only[nL,YO,YR]at h;obtain⟨rfl,rfl⟩:=h;exact⟨rfl,fun i v h=>by simp at h⟩
 |v::l,ts,L,h=>by
  simp only[nL]at h;split at h
  ·rename_i t L1 h1;split at h
   ·rename_i ts2 L2 h2;simp only[YO,YR]at h;obtain⟨rfl,rfl⟩:=h;obtain⟨k1,k2⟩:=nK l ts2 L2 h2;refine⟨by simp[k1],fun i u x=> ?_⟩;cases i with
    |zero=>
     simp only[Lq,YO]at x;subst x;exact⟨v,L1,rfl,h1,fun h=>(X2 h).1⟩
    |succ i=>
     obtain⟨u',L',a,b,c⟩:=k2 i u (by simpa using x);exact⟨u',L',by simpa using a,b,fun h=>c (X2 h).2⟩
   ·cases h
  ·cases h
theorem Ui{H:Q0}{m:Nat}{pos:Nat->Option Nat}{fz:List Fz}:∀(l:List (Nat×KS)) (os:List Obj) (L:List Prop),PQ H m pos fz l=some (os,L)->os.length=l.length/\∀(i:Nat) o,os[i]? =some o->∃k s L1,l[i]? =some (k,s)/\ET H m pos fz (Q4 H k) s=some (o,L1)/\(Q3 L->Q3 L1)
 |[],os,L,h=>by
  simp only[PQ,YO,YR]at h;obtain⟨rfl,rfl⟩:=h;exact⟨rfl,fun i v h=>by simp at h⟩
 |(k,s)::l,os,L,h=>by
  simp only[PQ]at h;split at h
  ·rename_i t L1 h1;split at h
   ·rename_i ts2 L2 h2;simp only[YO,YR]at h;obtain⟨rfl,rfl⟩:=h;obtain⟨k1,k2⟩:=Ui l ts2 L2 h2;refine⟨by simp[k1],fun i u x=> ?_⟩;cases i with
    |zero=>
     simp only[Lq,YO]at x;subst x;exact⟨k,s,L1,rfl,h1,fun h=>(X2 h).1⟩
    |succ i=>
     obtain⟨k',s',L',a,b,c⟩:=k2 i u (by simpa using x);exact⟨k',s',L',by simpa using a,b,fun h=>c (X2 h).2⟩
   ·cases h
  ·cases h
theorem TR.merge{μ' μ1:Mu}{T':Tm}{A:Array Value}{len:Nat}{live:List (Nat×Value)}(h:TR μ' T' A)(hlen:T'.len=len)(hl:len<=16000)(hlive:∀p∈live,∀v',VR μ' (Zc T' p.1) v'->VR μ1 p.2 v')
 {d:Nat->Value} (hd:∀t,Zf (d t)/\∀μ v',VR μ (Zc T' t) v'->VR μ (d t) v'):TR μ1 (Fu len live d) A:=by
 refine⟨hlen ▸ h.1,fun t=> ?_⟩;rw[Dd hl];have ht:=h.2 t;split
 ·rcases ur live t (d t)with e|⟨v,hv,e⟩
  ·rw[e];exact(hd t).1 μ' μ1 _ ((hd t).2 μ' _ ht)
  ·rw[e];exact hlive _ hv _ ht
 ·rename_i Xu;have:A.getD t undef=undef:=by
   have:A.size<=t:=by rw[<-h.1,hlen];omega
   simp[this]
  rw[this];exact VR.undef
theorem GoE.landM{c0 c:CF}{H:Q0}{n:Nat}(hF:∀g,F g=true->QB P g=true)(hJ:∀w,B.has w->J w)(Ze:P.follows .mixedOrders=true)(h:GoE P B c0 ZH 1 c H n []){fuel:Nat}{sc:QA}{f:FuncId}{len:Nat}{todo:List Item}{slots:List Nat}{keeps:List (Nat×KS)}{fz:List Fz}{vs:List Value}{os:List Obj}{L:List Prop}
 (e:CE.landM (Q2 P F J B fuel 1 c H n sc 0 [] []) slots keeps fz=some ⟨f,len,todo,[],.run,none,vs,os,L⟩) (hL:Q3 L) (hlen:LI len 16000=true) (hplain:todo.all KE=true):
 ∃d:Nat->Value,(∀t,Zf (d t))/\GoE P B c0 ZH 1 (QJ f len (slots.zip vs) d todo) (QI os) (2+os.length) []:=by
 unfold CE.landM at e;split at e
 ·rename_i c' H' n' W' L' hs;have e:=e;cases hq:(W'.isEmpty && distinct (keeps.map (·.1)) && (keeps.all fun k=>LI 1 k.1) && (fz.all fun x=>LI 1 x.k && Bk (Q4 H' x.k) && (keeps.all fun k=> !(Lg k.1 x.k))))with
  |false=>rw[hq]at e;cases e
  |true=>
   rw[hq]at e;simp only[cond_true]at e;split at e
   ·rename_i vs0 L1 os0 L2 hvs hos;simp only[YO,DS.mk.injEq]at e;obtain⟨e1,e2,e3,e4,e5,e6,rfl,rfl,rfl⟩:=e;obtain⟨hL1,hL23⟩:=X2 hL;obtain⟨hL2,hL3⟩:=X2 hL23;simp only[YB]at hq;obtain⟨⟨⟨hW,hdist⟩,hge⟩,hfz⟩:=hq;have hWe:W'=[]:=by simpa using hW
    subst hWe;obtain⟨R,W2,Pa,hiff⟩:=Wo hF hJ Ze fuel 1 c H n sc 0 [] [] _ h.under hs hL3;have hg:=(h.step Pa).lists (W1:=[]) (fun i hi=>by
     have:=hiff i hi;simp only[List.not_mem_nil,false_or]at this;simp[<-this])
    have hd:∀t,∃d,Zf d/\∀μ v',VR μ (Zc c'.tmps t) v'->VR μ d v':=fun t=>UP _
    have hlenos:=(Ui keeps os0 L2 hos).1;refine⟨fun t=>Classical.choose (hd t),fun t=>(Classical.choose_spec (hd t)).1,cJ _,by omega,fun Z μ w fr cs QR hB hf X9=> ?_⟩;obtain⟨fr',w',μ',hp,hfr',a,b,Wn⟩:=hg.sem Z μ w fr cs QR hB hf X9;let ρ:Nat->Nat:=fun i=>if i=0 then 0 else((keeps.map (·.1))[i-2]?).getD i
    have hρ:∀i k,2<=i->(keeps.map (·.1))[i-2]? =some k->ρ i=k:=fun i k hi hk=>by
     show(if i=0 then 0 else((keeps.map (·.1))[i-2]?).getD i)=k;rw[if_neg (by omega),hk];rfl
    have get:∀i,1<i->i<2+os0.length->∃k,(keeps.map (·.1))[i-2]? =some k/\ρ i=k/\1<=k:=by
     intro i h1 h2;have Xu:i-2<keeps.length:=by omega
     refine⟨(keeps[i-2]).1,by simp[Xu],hρ i _ (by omega) (by simp[Xu]), ?_⟩;exact YL (List.all_eq_true.1 hge _ (List.getElem_mem Xu))
    let im1:Tc:=⟨0,0,0,false,UD μ' H' w' (Kr H' n'++fz.map (·.k))⟩
    let μ1:=eB 1 (2+os0.length) ρ μ μ' (UD μ' H' w' (Kr H' n'++fz.map (·.k)))
    have hco:se H' 1 (posOf (keeps.map (·.1)) 2) fz μ' μ1 w' n' (fz.map (·.k)) im1:=by
     refine⟨⟨B.B,_,hp.ok,fun i hi=> ?_⟩,hg.under,fun k j hj=> ?_, ?_,rfl,fun x hx=>List.mem_map.2 ⟨x,hx,rfl⟩⟩
     ·rcases LA i 1 with h|h
      ·exact .inl h
      ·exact .inr ⟨h,hi⟩
     ·obtain⟨h1,h2⟩:=JK _ _ _ _ hj;have Xu:j-2<keeps.length:=by
       have:=(List.getElem?_eq_some_iff.1 h2).1;simpa using this
      show eB 1 (2+os0.length) ρ μ μ' _ j=μ' k;unfold eB;rw[if_neg (by omega),if_pos ⟨by omega,by omega⟩,hρ j k h1 h2]
     ·show eB 1 (2+os0.length) ρ μ μ' _ 1=some im1;unfold eB;rw[if_pos rfl]
    have hkeeps:vd 1 n' (2+os0.length) [] μ μ' ZH H' (QI os0) w' ρ (fz.map (·.k)):=by
     refine⟨by omega,fun i hi=> ?_,fun i h1 h2=> ?_,fun i j h1 h2 h3 h4 h5=> ?_,cJ _,fun i hi _=> ?_, ?_,fun i o1 hi hc ho=> ?_,fun k hk=> ?_⟩
     ·have:i=0:=by omega
      subst this;rfl
     ·obtain⟨k,hk,hk2,hk3⟩:=get i h1 h2;refine⟨by omega, ?_⟩;rw[hk2];have Xu:i-2<os0.length:=by omega
      obtain⟨k',s,L',ha,hb,hc⟩:=(Ui keeps os0 L2 hos).2 (i-2) os0[i-2] (by simp[Xu]);have:k'=k:=by
       rw[Lx,ha]at hk;simpa using hk
      subst this;obtain⟨⟨x,hx⟩,_⟩:=Jv hco hb (hc hL2);exact hg.under.lt hx
     ·obtain⟨k,hk,hk2,_⟩:=get i h1 h2;obtain⟨k',hk',hk2',_⟩:=get j h3 h4;rw[hk2,hk2']at h5;subst h5;have:=K3 hdist _ _ _ hk hk';omega
     ·have:i=0:=by omega
      subst this;rfl
     ·rfl
     ·have h1i:1<i:=hc.elim id fun h=>by simp at h
      rw[mi,if_neg (by omega),if_neg (by omega)]at ho;obtain⟨k,s,L',ha,hb,hc'⟩:=(Ui keeps os0 L2 hos).2 (i-2) o1 ho;obtain⟨_,hnr,hli⟩:=Jv hco hb (hc' hL2);refine⟨hnr,fun hl1=> ?_⟩;obtain⟨x,hx,hl,ZJ⟩:=hli hl1;refine⟨x, ?_,hl,fun im _ h=>ZJ im h⟩;rw[hρ i k (by omega) (by rw[Lx,ha];rfl)];exact hx
     ·obtain⟨x,hx,rfl⟩:=List.mem_map.1 hk;have:=List.all_eq_true.1 hfz x hx;simp only[YB]at this;obtain⟨⟨q1,q2⟩,q3⟩:=this;have hown:∃o,Q4 H' x.k=some o/\live o:=by
       unfold Bk at q2;split at q2
       ·rename_i ho;exact⟨_,ho,trivial⟩
       ·cases q2
      obtain⟨o,ho,hl⟩:=hown;refine⟨YL q1,hg.under.lt ho,⟨o,ho,hl⟩,fun i h1 h2 hr=> ?_⟩;obtain⟨k,hk,hk2,_⟩:=get i h1 h2;rw[hk2]at hr;rw[Lx]at hk;cases hy:keeps[i-2]? with
      |none=>rw[hy]at hk;cases hk
      |some y=>
       rw[hy]at hk;simp only[LC,YO]at hk;have:=List.all_eq_true.1 q3 y (Lm hy);rw[hk,hr]at this;simp at this
    have Zj:=hp.merge QR hf hkeeps;have hpans:c'.mode.pans=false:=by rw[e5];rfl
    refine⟨fr',w',_,Zj,⟨by rw[hfr'.fn,e1];rfl, ?_,fun _=>(e3 ▸ hfr'.todo hpans).plain hplain, ?_, ?_,hfr'.kind, ?_⟩,a,b,Wn⟩
    ·refine hfr'.tmps.merge e2 (YL hlen) (fun p hp v' hv=> ?_) fun t=>Classical.choose_spec (hd t)
     obtain⟨i,hi⟩:=List.getElem?_of_mem hp;rw[List.getElem?_zip_eq_some]at hi;obtain⟨hi1,hi2⟩:=hi;obtain⟨u,L',ha,hb,hc⟩:=(nK _ _ _ hvs).2 i p.2 hi2;rw[Lx,hi1]at ha;simp only[LC,YO]at ha;subst ha;exact Uu hco 3 _ _ _ _ hb (hc hL1) hv
    ·have:=hfr'.defers;rw[e4]at this;exact .of_empty this.empty
    ·have:=hfr'.mode;rw[e5]at this;generalize fr'.mode=ds at this;cases this;exact .run
    ·have:=hfr'.round;rw[e6]at this;generalize fr'.roundOf=x at this;cases x with
     |none=>trivial
     |some x=>cases this
   ·cases e
 ·cases e
def QS(s:Option ST)(fz:List Fz):Option (Value×List Prop):=match s with
 |some ⟨.fin (.ret v) H _,W,L⟩=>bif W.isEmpty then match Vg H fz 3 v with
  |some (t,_,L2)=>some (t,L2++L)
  |none=>none
   else none
 |_=>none
def EndsT(P:Program)(B:Lo)(c0:CF)(out:Value):Prop:=
 ∀(μ:Mu) (w:World) (fr:Frame) (cs:List Frame) (im:Tc),Ok B (fun i=>i<1) μ (Q4 ZH) w->B.has w->(∀i,1<=i->μ i=none)->μ 0=some im->FrR Bot.no μ c0 fr->
  ∃v' w',Below w.heap.size w w'/\TRv (St im.fm w w') out v'/\EndsAs P fr cs w (.ret v') w'
theorem GoE.endsT{c0 c:CF}{H:Q0}{n:Nat}(hF:∀g,F g=true->QB P g=true)(hJ:∀w,B.has w->J w)(Ze:P.follows .mixedOrders=true)(h:GoE P B c0 ZH 1 c H n []){fuel:Nat}{sc:QA}{fz:List Fz}{out:Value}{L:List Prop}
 (e:QS (Q2 P F J B fuel 1 c H n sc 0 [] []) fz=some (out,L)) (hL:Q3 L):EndsT P B c0 out:=by
 unfold QS at e;split at e
 ·rename_i v H' n' W' L' hs;cases hW:W'.isEmpty with
  |false=>rw[hW]at e;cases e
  |true=>
   rw[hW]at e;simp only[cond_true]at e;split at e
   ·rename_i t R2 L2 Wn;simp only[YO,YR]at e;obtain⟨rfl,rfl⟩:=e;obtain⟨hL2,hL1⟩:=X2 hL;have hWe:W'=[]:=by simpa using hW
    subst hWe;obtain⟨R,W2,hfj,hiff⟩:=Wo hF hJ Ze fuel 1 c H n sc 0 [] [] _ h.under hs hL1;intro μ w fr cs im QR hB hf QV X9;obtain⟨Za,w',μ',hp,ho,he⟩:=h.fj hfj μ w fr cs QR hB hf X9;have hnoW:∀i,i∈[]++W2->¬i<1:=fun i hi Xu=>by
     have:=(hiff i Xu).2 (.inr (by simpa using hi));simp at this
    have hbel:Below w.heap.size w w':=⟨hp.os,hp.tape,hp.output,hp.grow,fun b hb=>hp.frame b hb fun i hi hl=>absurd hl (hnoW i hi)⟩
    cases ho with
    |ret Vi=>
     rename_i v';refine⟨v',w',hbel, ?_,he⟩;have hu':Under H' n':=h.under.shape hfj.shape;have hle:=hp.le
     -- of what is looked at, all is there
     have Ww:∀r,(Q4 H' r).isSome->r<1\/1<=r/\r<n':=fun r hr=>by
      have:r<n':=by
       cases hg:Q4 H' r with
       |none=>rw[hg]at hr;cases hr
       |some o=>exact hu'.lt hg
      omega
     have hok2:Ok B.B (fun _=>True) μ' (Q4 H') w':=
      ⟨fun i o _ ho=>hp.ok.rel i o (Ww i (by rw[ho];rfl)) ho,fun i o im _ ho=>hp.ok.low i o im (Ww i (by rw[ho];rfl)) ho,
       fun i j oi oj a b _ _ JZ ZT ZS=>hp.ok.inj i j oi oj a b (Ww i (by rw[ZT];rfl)) (Ww j (by rw[ZS];rfl)) JZ ZT ZS,
       fun i o _ ho=>hp.ok.K8 i o (Ww i (by rw[ho];rfl)) ho,fun i j oi oj a b x _ _ ZT ZS=>hp.ok.sep i j oi oj a b x (Ww i (by rw[ZT];rfl)) (Ww j (by rw[ZS];rfl)) ZT ZS⟩
     refine(Kw hok2 3 v v' t R2 L2 Wn hL2 (fun _ _=>trivial) Vi).mono fun b x hx=> ?_
     have hw:=WI hx;unfold UD at hx;split at hx
     ·rename_i hc;obtain⟨i,_,o,im2,hio,W4,Us⟩:=hc;have hi:=Ww i (by rw[hio];rfl);have old0:∀i,i<1->i=0:=fun i h=>by omega
      have keep0:Q4 H' 0=some XM:=by
       rw[hp.keep 0 (by omega) fun e=>hnoW 0 e (by omega)];rfl
      have mu0:μ' 0=some im:=by rw[hp.ext 0 (by omega)];exact QV
      have below:b<w.heap.size->im.fm b=some x->St im.fm w w' b=some x:=fun h1 h2=>by unfold St;rw[if_pos h1];exact h2
      have above:w.heap.size<=b->St im.fm w w' b=some x:=fun h1=>by unfold St;rw[if_neg (by omega)];exact hw
      have from0:im.fm b=some x->St im.fm w w' b=some x:=fun h=>by
       refine below ?_ h;exact KN QR (i:=0) (o:=XM) (show 0<1 by omega) rfl trivial QV h
      rcases Us with ⟨WG,Km⟩|⟨hl,hb⟩
      ·cases hfx:im2.fm b with
       |none=>exact absurd hfx Km
       |some y=>
        obtain⟨im3,him3,hf3⟩:=hp.ok.K8 i o hi hio WG;rw[W4]at him3;cases him3;have:=hf3 b y hfx;rw[hw]at this;cases this;rcases hi with hi|hi
        ·rw[old0 i hi,mu0]at W4;cases W4;exact from0 hfx
        ·rcases hp.rf i im2 o (.inl hi) hio WG W4 b x hfx with c|⟨k,V9,ko,hk,_,hko,_,hkm,hkb⟩|⟨k,hk,hkn,_⟩
         ·exact above c
         ·rw[old0 k hk,QV]at hkm;cases hkm;exact from0 hkb
         ·exact absurd hkn (hnoW k hk)
      ·rcases hi with hi|hi
       ·rw[old0 i hi,keep0]at hio;cases hio;exact hl.elim
       ·rcases(hp.fresh i im2 o hi.1 hi.2 hio hl W4).2 with c|⟨k,hk,hkn,_⟩
        ·exact above (by omega)
        ·exact absurd hkn (hnoW k hk)
     ·cases hx
   ·cases e
 ·cases e
theorem X8{g:FuncId}{ts:List Value}{out:Value}{c0:CF}(Wn:∀w w':World,(∀b,b<w.heap.size->w'.heap[b]? =w.heap[b]?)->J w->J w')(hc:ZM P g (ts.map (QG 0 4)).toArray=some c0)(QR:(ts.all (ni 4))=true)
 (h:∀B:Lo,(∀w,B.has w->J w)->EndsT P B c0 out):Qz P J g ts.toArray out:=by
 intro fm w args' hJ hfm hargs cs;let B:Lo:=⟨w.heap.size,fun w'=> ∀b,b<w.heap.size->w'.heap[b]? =w.heap[b]?,fun _ _ h hi b hb=>(h b hb).trans (hi b hb)⟩
 have hB:B.has w:=⟨Ly _,fun _ _=>rfl⟩
 let im:Tc:=⟨0,0,0,false,fm⟩
 let μ:Mu:=fun i=>if i=0 then some im else none
 have hOk:Ok B.B (fun i=>i<1) μ (Q4 ZH) w:=by
  have only:∀i o,Q4 ZH i=some o->i=0/\o=XM:=by
   intro i o h;simp only[ZH,Xe,Q4]at h;split at h
   ·rename_i e;exact⟨e,by simpa using h.symm⟩
   ·cases h
  refine⟨fun i o _ ho hl=> ?_,fun i o im _ ho hl=> ?_,fun i j oi oj a b _ _ _ ho _ hl=> ?_,fun i o _ ho _=> ?_,fun i j oi oj a b x _ _ _ ho _ hl=> ?_⟩
  ·rw[(only i o ho).2]at hl;exact hl.elim
  ·rw[(only i o ho).2]at hl;exact hl.elim
  ·rw[(only i oi ho).2]at hl;exact hl.elim
  ·exact⟨im,by rw[(only i o ho).1];rfl,hfm⟩
  ·rw[(only j oj ho).2]at hl;exact hl.elim
 have hv:VRs μ (ts.map (QG 0 4)).toArray args':=by
  refine⟨by simpa using hargs.1,fun i v v' hv ZK=> ?_⟩;simp only[List.getElem?_toArray,Lx]at hv;cases ht:ts[i]? with
  |none=>rw[ht]at hv;cases hv
  |some t=>
   rw[ht]at hv;simp only[LC,YO]at hv;subst hv;exact YN (im:=im) rfl 4 t v' (List.all_eq_true.1 QR t (Lm ht)) (hargs.2 i t v' (by simpa using ht) ZK)
 obtain⟨v',w',hb,ht,he⟩:=h B (fun w' h=>Wn w w' h.inv hJ) μ w (Frame.enter P g args' .normal) cs im hOk hB (fun i hi=>by show(if i=0 then _ else _)=_;rw[if_neg (by omega)]) rfl (Vz hc hv);obtain⟨frE,h1,h2,h3⟩:=he.1 rfl;exact⟨.returned v',w',frE,⟨v',rfl,hb,ht⟩,h1,h2,h3⟩
theorem GoE.start{c0:CF}:GoE P B c0 ZH 1 c0 ZH 1 []:=GoE.refl (fun i hi=>by simp only[ZH,Xe,Q4];rw[if_neg (by omega)])
end
end Go.CE

namespace Go.CE
open Go Go.RowKit

def Qj{α:Type}(e:α->List Value)(xs:List α):Array Value:=(xs.flatMap e).toArray
def Xl(n:Int):List Value:=[.int .i64 n]
abbrev Zu(xs:List Int):Value:=Xq xs.length (Qj Xl xs)
section
variable {α:Type} {e:α->List Value} {z:Nat} {xs:List α}
theorem dA(h:∀x,(e x).length=z):∀xs:List α,(xs.flatMap e).length=xs.length*z
 |[]=>by simp
 |x::xs=>by simp[h,dA h xs,Nat.add_mul,Nat.add_comm]
theorem Z6(h:∀x,(e x).length=z):(Qj e xs).size=xs.length*z:=by simp[Qj,dA h]
theorem flat_get(h:∀x,(e x).length=z):∀(xs:List α) (k j:Nat) (x:α),j<z->xs[k]? =some x->(xs.flatMap e)[k*z+j]? =(e x)[j]?
 |[],k,j,x,hj,hk=>by simp at hk
 |y::xs,0,j,x,hj,hk=>by
  simp only[Lq,YO]at hk;subst hk;simp only[List.flatMap_cons,Nat.zero_mul,Lz];rw[Lt (by rw[h];exact hj)]
 |y::xs,k+1,j,x,hj,hk=>by
  simp only[List.flatMap_cons];rw[Lj (by rw[h,Nat.add_mul];omega),h,show(k+1)*z+j-z=k*z+j by rw[Nat.add_mul];omega];exact flat_get h xs k j x hj (by simpa using hk)
theorem Ty[Inhabited α](h:∀x,(e x).length=z){k j:Nat}(hk:k<xs.length)(hj:j<z):(Qj e xs)[k*z+j]? =(e (xs.getD k La))[j]? :=by
 have hx:xs[k]? =some (xs.getD k La):=by simp[hk]
 simp only[Qj,List.getElem?_toArray];exact flat_get h xs k j _ hj hx
theorem vo[Inhabited α](h:∀x,(e x).length=z){k j:Nat}{v:Value}(hk:k<xs.length)(hv:(e (xs.getD k La))[j]? =some v):(Qj e xs)[k*z+j]? =some v:=by
 have hj:j<z:=by rw[<-h (xs.getD k La)];exact(List.getElem?_eq_some_iff.1 hv).1
 rw[Ty h hk hj,hv]
theorem QW[Inhabited α](h:∀x,(e x).length=z){k:Nat}(hk:k<xs.length):(Qj e xs).extract (k*z) (k*z+z)=(e (xs.getD k La)).toArray:=by
 have Xy:=Z6 (xs:=xs) h;have hle:k*z+z<=xs.length*z:=by
  have:=Nat.mul_le_mul_right z (show k+1<=xs.length by omega);rw[Nat.add_mul,Nat.one_mul]at this;exact this
 refine Array.ext (by simp[Xy,h];omega) fun i h1 h2=> ?_
 have hi:i<z:=by simpa[h]using h2
 have a:=Ty (xs:=xs) h hk hi;rw[Array.getElem_extract];have b:(Qj e xs)[k*z+i]? =some ((Qj e xs)[k*z+i]'(by rw[Xy];omega)):=by simp
 have c:(e (xs.getD k La))[i]? =some ((e (xs.getD k La)).toArray[i]'h2):=by simp
 rw[b,c]at a;exact Option.some.inj a
theorem l8{x:α}:Qj e xs++(e x).toArray=Qj e (xs++[x]):=by simp[Qj]
theorem Xr(h:∀x,∀v∈e x,simple v=true):∀v∈Qj e xs,simple v=true:=fun v hv=>by
 simp only[Qj,List.mem_toArray,List.mem_flatMap]at hv;obtain⟨x,_,hx⟩:=hv;exact h x v hx
theorem Qv{rs:List Nat}(h:∀x,∀v∈e x,simple v=true):QC rs (Qj e xs) (Qj e xs):=Sz (Array.all_eq_true'.2 (Xr h))
theorem rM{x:α}(h:∀x,(e x).length=z):∀(xs:List α) (k i:Nat),k<xs.length->((xs.set k x).flatMap e)[i]? =if k*z<=i/\i<k*z+z then(e x)[i-k*z]? else(xs.flatMap e)[i]?
 |[],k,i,hk=>by simp at hk
 |y::xs,0,i,hk=>by
  simp only[List.set_cons_zero,List.flatMap_cons,Nat.zero_mul,Lz,Nat.zero_le,true_and,Nat.sub_zero];by_cases hi:i<z
  ·rw[if_pos hi,Lt (by rw[h];exact hi)]
  ·rw[if_neg hi,Lj (by rw[h];omega),Lj (by rw[h];omega),h,h]
 |y::xs,k+1,i,hk=>by
  simp only[List.set_cons_succ,List.flatMap_cons];by_cases hi:i<z
  ·rw[Lt (by rw[h];exact hi),if_neg (by rw[Nat.add_mul];omega),Lt (by rw[h];exact hi)]
  ·rw[Lj (by rw[h];omega),Lj (by rw[h];omega),h,rM h xs k (i-z) (by simpa using hk)];by_cases hc:k*z<=i-z/\i-z<k*z+z
   ·rw[if_pos hc,if_pos (by rw[Nat.add_mul];omega),show i-z-k*z=i-(k+1)*z by rw[Nat.add_mul];omega]
   ·rw[if_neg hc,if_neg (by rw[Nat.add_mul];omega)]
theorem cP{x:α}(h:∀x,(e x).length=z){k:Nat}(hk:k<xs.length):k*z+z<=(Qj e xs).size/\splice (Qj e xs) (k*z) (e x).toArray=Qj e (xs.set k x):=by
 have Xy:=Z6 (xs:=xs) h;have hle:k*z+z<=xs.length*z:=by
  have:=Nat.mul_le_mul_right z (show k+1<=xs.length by omega);rw[Nat.add_mul,Nat.one_mul]at this;exact this
 refine⟨by rw[Xy];exact hle,Array.ext_getElem? fun i=> ?_⟩;have a:(Qj e (xs.set k x))[i]? =((xs.set k x).flatMap e)[i]? :=by simp[Qj]
 have b:(Qj e xs)[i]? =(xs.flatMap e)[i]? :=by simp[Qj]
 rw[a,rM h xs k i hk,<-b];rw[VZ (by rw[Xy];simp[h];exact hle)];simp[h]
end
theorem TRv.len'{fm:Nat->Option Obj}{n:Nat}{cs:Array Value}{v':Value}(h:TRv fm (Xq n cs) v'):n<=maxLen:=by
 rcases h.slice_inv with ⟨_,_,_,_,_,_,_,h1,h2,_⟩|⟨rfl,_⟩
 ·omega
 ·exact Nat.zero_le _
theorem JT{a b:Int}(h:a≠b):(!Yo a b)=true:=by rw[a6 h];rfl
theorem JU{a b:Int}(h:a=b):(!Yo a b)=false:=by rw[az h];rfl
theorem uI{m:Nat}{rs:List Nat}{cs:Array Value}(h:cs.all simple=true):ZG m rs cs cs:=Xk fun v hv=>Array.all_eq_true'.1 h v hv
theorem vn{α:Type}{e:α->List Value}{z:Nat}{xs:List α}(h:∀x,(e x).length=z){k:Nat}(hk:k<xs.length):k*z+z<=(Qj e xs).size:=by
 rw[Z6 h];have:=Nat.mul_le_mul_right z (show k+1<=xs.length by omega);rw[Nat.add_mul,Nat.one_mul]at this;exact this
theorem mJ{α:Type}{e:α->List Value}{z:Nat}{xs:List α}(h:∀x,(e x).length=z){k:Nat}(hk:k<xs.length){x:α}{cs:Array Value}(hc:cs=(e x).toArray):k*z+z<=(Qj e xs).size/\splice (Qj e xs) (k*z) cs=Qj e (xs.set k x):=by
 rw[hc];exact cP h hk
theorem EndsT.cast{P:Program}{B:Lo}{c0:CF}{a b:Value}(h:EndsT P B c0 a)(e:a=b):EndsT P B c0 b:=e ▸ h
theorem TRvs.len{fm:Nat->Option Obj}{ts args:Array Value}(h:TRvs fm ts args){i n:Nat}{cs:Array Value}(hi:ts[i]? =some (Xq n cs)):n<=maxLen:=by
 have Xu:i<args.size:=h.1 ▸ (Array.getElem?_eq_some_iff.1 hi).1;exact TRv.len' (h.2 i _ args[i] hi (by simp[Xu]))
theorem TRvs.len2{fm:Nat->Option Obj}{ts args:Array Value}(h:TRvs fm ts args){i j n:Nat}{xs cs:Array Value}(hi:ts[i]? =some (.agg xs))(hj:xs[j]? =some (Xq n cs)):n<=maxLen:=by
 have Xu:i<args.size:=h.1 ▸ (Array.getElem?_eq_some_iff.1 hi).1;have ht:=h.2 i _ args[i] hi (by simp[Xu]);generalize args[i]=v at ht;cases ht with
 |simple h=>cases h
 |agg h1 h2=>
  rename_i ys;have Xu:j<ys.size:=h1 ▸ (Array.getElem?_eq_some_iff.1 hj).1;exact TRv.len' (h2 j _ ys[j] hj (by simp[Xu]))
theorem TRvs.ln{fm:Nat->Option Obj}{ts args:Array Value}(h:TRvs fm ts args){i n:Nat}{cs:Array Value}(hi:ts[i]? =some (Xq n cs)):n<=9223372036854775807:=by
 have:=h.len hi;unfold maxLen at this;omega
theorem TRvs.ln2{fm:Nat->Option Obj}{ts args:Array Value}(h:TRvs fm ts args){i j n:Nat}{xs cs:Array Value}(hi:ts[i]? =some (.agg xs))(hj:xs[j]? =some (Xq n cs)):n<=9223372036854775807:=by
 have:=h.len2 hi hj;unfold maxLen at this;omega
section
variable {α:Type} [Inhabited α] {f:α->Bool} {xs:List α} {i:Int}
theorem drop_cons(h0:0<=i)(hi:i<xs.length):xs.drop i.toNat=xs.getD i.toNat La::xs.drop (i+1).toNat:=by
 have Xu:i.toNat<xs.length:=by omega
 rw[List.drop_eq_getElem_cons Xu,show(i+1).toNat=i.toNat+1 by omega];simp[Xu]
theorem jW(h0:0<=i)(hi:i<xs.length):(xs.drop i.toNat).all f=(f (xs.getD i.toNat La) && (xs.drop (i+1).toNat).all f):=by rw[drop_cons h0 hi];rfl
omit [Inhabited α]in
theorem jV(hi:xs.length<=i):xs.drop i.toNat=[]:=List.drop_eq_nil_of_le (by omega)
end
def fF(a b:Int):List Int:=(Lv (b-a).toNat).map fun(k:Nat)=>a+(k:Int)
theorem zR{a b:Int}(h:a<b):fF a b=a::fF (a+1) b:=by
 unfold fF;obtain⟨m,hm⟩:∃m:Nat,(b-a).toNat=m+1:=⟨(b-a).toNat-1,by omega⟩
 rw[hm,show(b-(a+1)).toNat=m by omega,List.range_succ_eq_map];simp only[List.map_cons,List.map_map,Int.ofNat_zero,Int.add_zero,Int.cast_ofNat_Int];congr 1;apply List.map_congr_left;intro k _;simp only[Function.comp_apply,Nat.succ_eq_add_one];omega
theorem vh{a b:Int}(h:b<=a):fF a b=[]:=by
 unfold fF;rw[show(b-a).toNat=0 by omega];rfl
theorem Uk{P:Program}{J:World->Prop}{g:FuncId}{ts:List Value}{out:Value}{c0:CF}(facts:Prop)(Zb:∀fm args',TRvs fm ts.toArray args'->facts)(Wn:∀w w':World,(∀b,b<w.heap.size->w'.heap[b]? =w.heap[b]?)->J w->J w')(hc:ZM P g (ts.map (QG 0 4)).toArray=some c0)(QR:(ts.all (ni 4))=true)
 (h:facts->∀B:Lo,(∀w,B.has w->J w)->EndsT P B c0 out):Qz P J g ts.toArray out:=fun fm w args' hJ hfm hargs=>X8 Wn hc QR (h (Zb fm args' hargs)) fm w args' hJ hfm hargs
def ou(rs:List Nat):List Value->List Value->Prop
 |[],[]=>True
 |v::l,v1::l1=>k8 rs v v1/\ou rs l l1
 |_,_=>False
theorem SZ{rs:List Nat}:∀{l l1:List Value},ou rs l l1->l.length=l1.length/\∀(i:Nat) v v1,l[i]? =some v->l1[i]? =some v1->k8 rs v v1
 |[],[],_=>⟨rfl,fun i v v1 h=>by simp at h⟩
 |v::l,v1::l1,h=>⟨by simp[(SZ h.2).1],fun i u u1 h1 h2=>by
   cases i with
   |zero=>simp at h1 h2;subst h1;subst h2;exact h.1
   |succ i=>exact(SZ h.2).2 i u u1 (by simpa using h1) (by simpa using h2)⟩
theorem uH{rs:List Nat}{l l1:List Value}(h:ou rs l l1):QC rs l.toArray l1.toArray:=by
 obtain⟨h1,h2⟩:=SZ h
 first
 |exact⟨by simp[h1],fun i v v1 a b=>h2 i v v1 (by simpa using a) (by simpa using b)⟩
def FI(rs:List Nat)(v:Value):Option Value:=bif simple v then some v else match v with
 | .func (.via r ⟨[]⟩ 0 true) ⟨[t]⟩ ⟨[]⟩=>bif rs.contains r && ZX t then some t else none
 |_=>none
def EX(rs:List Nat):List Value->Option (List Value)
 |[]=>some []
 |v::l=>match FI rs v,EX rs l with
  |some t,some ts=>some (t::ts)
  |_,_=>none
theorem DZ{rs:List Nat}{v t:Value}(h:FI rs v=some t):k8 rs v t:=by
 unfold FI at h;cases hs:simple v with
 |true=>
  rw[hs]at h;simp only[cond_true,YO]at h;exact .inl ⟨hs,h.symm⟩
 |false=>
  rw[hs]at h;simp only[cond_false]at h;split at h
  ·rename_i r t0;cases hq:(rs.contains r && ZX t0)with
   |false=>rw[hq]at h;cases h
   |true=>
    rw[hq]at h;simp only[cond_true,YO]at h;subst h;simp only[YB,List.contains_iff_mem]at hq;exact .inr ⟨r,hq.1,rfl,hq.2⟩
  ·cases h
theorem zS{rs:List Nat}:∀{l l1:List Value},EX rs l=some l1->ou rs l l1
 |[],l1,h=>by simp only[EX,YO]at h;subst h;exact trivial
 |v::l,l1,h=>by
  simp only[EX]at h;split at h
  ·rename_i t ts h1 h2;simp only[YO]at h;subst h;exact⟨DZ h1,zS h2⟩
  ·cases h
theorem zw{rs:List Nat}{l l1:List Value}(h:EX rs l=some l1):QC rs l.toArray l1.toArray:=uH (zS h)
end Go.CE

namespace Go.CE
open Go Go.RowKit

theorem Post.widen{B n n':Nat}{S:Nat->Prop}{W W':List Nat}{μ μ':Mu}{H H':Q0}{w w':World}(QR:Ok B S μ (Q4 H) w)(h:Post B S n n' W μ μ' H H' w w')(hW:∀i,i<n->i∈W->i∈W')(hw:∀i,i<n->i∈W'->S i/\∃o,Q4 H i=some o/\live o/\∀im,μ i=some im->im.rw=true):Post B S n n' W' μ μ' H H' w w':=
 ⟨h.ok,h.le,h.ext,fun i hi hw'=>h.keep i hi fun e=>hw' (hW i hi e),h.grow,fun b hb hx=>h.frame b hb fun i hi hl=>hx i (hW i hl hi) hl,fun i hi hl=>by
  obtain⟨hs,o,hg,hl',hr⟩:=hw i hl hi;obtain⟨im,QV,_⟩:=QR.rel i _ hs hg hl';exact⟨hs,⟨o,hg,hl'⟩,im,QV,hr im QV⟩,fun i im o h1 h2 ho hl hm=>by
  obtain⟨hr,hf⟩:=h.fresh i im o h1 h2 ho hl hm;exact⟨hr,hf.imp id fun⟨k,a,b,d⟩=>⟨k,hW k b a,b,d⟩⟩,fun i im o hi ho hr hm b x hx=>by
  have res:(n<=i/\i<n'\/i∈W/\i<n)->w.heap.size<=b\/(∃k V9 ko,S k/\k<n/\Q4 H k=some ko/\ZQ ko/\μ k=some V9/\V9.fm b=some x)\/∃k,k∈W'/\k<n/\(∃Z5,μ k=some Z5/\Z5.Zi=b)/\∀o,Q4 H' k=some o->¬live o:=fun hc=>by
   rcases h.rf i im o hc ho hr hm b x hx with e|e|⟨k,p,q,r⟩
   ·exact .inl e
   ·exact .inr (.inl e)
   ·exact .inr (.inr ⟨k,hW k q p,q,r⟩)
  rcases hi with hi|⟨hi,Xu⟩
  ·exact res (.inl hi)
  ·by_cases Jm:i∈W
   ·exact res (.inr ⟨Jm,Xu⟩)
   ·obtain⟨_,o',hg,hl,_⟩:=hw i Xu hi;rw[h.keep i Xu Jm,hg]at ho;cases ho;exact absurd hl (by cases o <;> first|exact id|exact hr.elim),h.os,h.tape,h.output⟩
def Writable(H0:Q0)(a:Nat)(Wf:List Nat):Prop:=∀i,i<a->i∈Wf->(∃cs t,Q4 H0 i=some (.cells cs t (0,0)))\/(∃r,Q4 H0 i=some (.loop r))\/(∃es Yy,Q4 H0 i=some (.map es Yy))\/∃ds,Q4 H0 i=some (.deferred ds)
def D9(o:Option Obj):Bool:=match o with
 |some (.cells _ _ (0,0))|some (.loop _)|some (.map _ _)|some (.deferred _)=>true
 |_=>false
theorem QX{H0:Q0}{a:Nat}{Wf:List Nat}(h:(Wf.all fun i=>D9 (Q4 H0 i))=true):Writable H0 a Wf:=fun i _ hi=>by
 have:=List.all_eq_true.1 h i hi;unfold D9 at this;split at this
 ·rename_i cs t hg;exact .inl ⟨cs,t,hg⟩
 ·rename_i r hg;exact .inr (.inl ⟨r,hg⟩)
 ·rename_i es Yy hg;exact .inr (.inr (.inl ⟨es,Yy,hg⟩))
 ·rename_i ds hg;exact .inr (.inr (.inr ⟨ds,hg⟩))
 ·cases this
theorem Writable.rw{B:Nat}{μ:Mu}{H0:Q0}{a:Nat}{Wf:List Nat}{w:World}(h:Writable H0 a Wf)(QR:Ok B (fun i=>i<a) μ (Q4 H0) w){i:Nat}(hi:i<a)(hw:i∈Wf):i<a/\∃o,Q4 H0 i=some o/\live o/\∀im,μ i=some im->im.rw=true:=by
 rcases h i hi hw with ⟨cs,t,hg⟩|⟨r,hg⟩|⟨es,Yy,hg⟩|⟨ds,hg⟩
 ·refine⟨hi,_,hg,trivial,fun im QV=> ?_⟩;obtain⟨Z5,Xa,ZJ⟩:=QR.rel i _ hi hg trivial;rw[QV]at Xa;cases Xa;rcases ZJ with ⟨_,h,_⟩|⟨h,_⟩
  ·exact h
  ·exact absurd rfl h
 all_goals
  refine⟨hi,_,hg,trivial,fun im QV=> ?_⟩;obtain⟨Z5,Xa,ZJ⟩:=QR.rel i _ hi hg trivial;rw[QV]at Xa;cases Xa;exact ZJ.1
def VO(ro:Option Nat)(f:FuncId)(len:Nat)(live:List (Nat×Value))(d:Nat->Value)(todo:List Item):CF:=⟨f,Fu len live d,todo,[],.run,ro⟩
def Wt(Hb:Q0)(a:Nat)(ws:Q0)(os:List Obj):Q0:=ws++((a,XM)::(XJ (a+1) os++Hb))
def gN(a:Nat)(olds:List Nat)(k:Nat):Option Nat:=bif Lp k a then some k else posOf olds (a+1) k
def uC(H:Q0)(m:Nat)(pos:Nat->Option Nat)(fz:List Fz):List (Nat×KS)->Option (Q0×List Prop)
 |[]=>some ([],[])
 |(k,s)::l=>match ET H m pos fz (Q4 H k) s with
  |some (o,L)=>match uC H m pos fz l with
   |some (os,L2)=>some ((k,o)::os,L++L2)
   |none=>none
  |none=>none
theorem ka{H:Q0}{m:Nat}{pos:Nat->Option Nat}{fz:List Fz}:∀(l:List (Nat×KS)) (ws:Q0) (L:List Prop),uC H m pos fz l=some (ws,L)->∀i,(Q4 ws i=none<->i ∉ l.map (·.1))/\∀o,Q4 ws i=some o->∃s L1,ET H m pos fz (Q4 H i) s=some (o,L1)/\(Q3 L->Q3 L1)
 |[],ws,L,h,i=>by
  simp only[uC,YO,YR]at h;obtain⟨rfl,rfl⟩:=h;simp[Q4]
 |(k,s)::l,ws,L,h,i=>by
  simp only[uC]at h;split at h
  ·rename_i t L1 h1;split at h
   ·rename_i ts2 L2 h2;simp only[YO,YR]at h;obtain⟨rfl,rfl⟩:=h;obtain⟨k1,k2⟩:=ka l ts2 L2 h2 i;rw[Xe];by_cases e:i=k
    ·subst e;simp only[if_true,List.map_cons,List.mem_cons,true_or,not_true_eq_false,iff_false];exact⟨by simp,fun o ho=>by cases ho;exact⟨s,L1,h1,fun h=>(X2 h).1⟩⟩
    ·rw[if_neg e];refine⟨by rw[k1];simp[e],fun o ho=> ?_⟩;obtain⟨s',L',a,b⟩:=k2 o ho;exact⟨s',L',a,fun h=>b (X2 h).2⟩
   ·cases h
  ·cases h
structure DT where
 fn:FuncId
 len:Nat
 todo:List Item
 defers:List Nat
 mode:CM
 roundOf:Option Nat
 vals:List Value
 ws:Q0
 objs:List Obj
 L:List Prop
def Tu(a:Nat)(H:Q0)(W:List Nat)(wks keeps:List (Nat×KS))(fz:List Fz):Bool:=
 (W.all fun i=>(wks.map (·.1)).contains i) && (wks.all fun k=>Lp k.1 a) && distinct (keeps.map (·.1)) && (keeps.all fun k=>LI a k.1) && (fz.all fun x=>LI a x.k && Bk (Q4 H x.k) && (keeps.all fun k=> !(Lg k.1 x.k)))
def landA(a:Nat)(s:Option ST)(slots:List Nat)(wks keeps:List (Nat×KS))(fz:List Fz):Option DT:=match s with
 |some ⟨.at c H n,W,L⟩=>bif Tu a H W wks keeps fz then
  match nL (rS H a (gN a (keeps.map (·.1))) fz 4) (slots.map (Zc c.tmps)),uC H a (gN a (keeps.map (·.1))) fz wks,PQ H a (gN a (keeps.map (·.1))) fz keeps with
  |some (vs,L1),some (ws,L3),some (os,L2)=>some ⟨c.fn,c.tmps.len,c.todo,c.defers,c.mode,c.roundOf,vs,ws,os,L1++(L3++(L2++L))⟩
  |_,_,_=>none
   else none
 |_=>none
section
variable {P:Program} {F:FuncId->Bool} {J:World->Prop} {B:Lo} {c0 c:CF} {Hb H:Q0} {a n:Nat} {W Wf:List Nat}
theorem GoE.widen(h:GoE P B c0 Hb a c H n W)(hW:∀i,i<a->i∈W->i∈Wf)(hw:Writable Hb a Wf):GoE P B c0 Hb a c H n Wf:=
 ⟨h.under,h.le,fun Z μ w fr cs QR hB hf X9=>by
  obtain⟨fr',w',μ',hp,r⟩:=h.sem Z μ w fr cs QR hB hf X9;exact⟨fr',w',μ',hp.widen QR hW fun i hi hiW=>hw.rw QR hi hiW,r⟩⟩
theorem UN{ws:Q0}{os:List Obj}(i:Nat):Q4 (Wt Hb a ws os) i=match Q4 ws i with
 |some o=>some o
 |none=>if i=a then some XM else if a<i/\i<a+1+os.length then os[i-(a+1)]? else Q4 Hb i:=by
 unfold Wt;rw[Z9];cases Q4 ws i with
 |some o=>rfl
 |none=>
  simp only;rw[Xe];by_cases e:i=a
  ·rw[if_pos e,if_pos e]
  ·rw[if_neg e,if_neg e,Z9,WH];by_cases h1:a+1<=i
   ·rw[if_pos h1];by_cases h2:i<a+1+os.length
    ·rw[if_pos ⟨by omega,h2⟩];have:i-(a+1)<os.length:=by omega
     simp[this]
    ·rw[if_neg (by omega),Lu (by omega)]
   ·rw[if_neg h1,if_neg (by omega)]
theorem cK{ws:Q0}{os:List Obj}(hu:Under Hb a)(hws:∀i o,Q4 ws i=some o->i<a):Under (Wt Hb a ws os) (a+1+os.length):=fun i hi=>by
 rw[UN];cases hg:Q4 ws i with
 |some o=>have:=hws i o hg;omega
 |none=>simp only;rw[if_neg (by omega),if_neg (by omega)];exact hu i (by omega)
theorem iw{n':Nat}{H':Q0}{μ μ':Mu}{w w':World}{W':List Nat}{wks keeps:List (Nat×KS)}{fz:List Fz}{ws:Q0}{os:List Obj}{L2 L3:List Prop}(hu:Under Hb a)(hw:Writable Hb a (wks.map (·.1)))(hu':Under H' n')(hq:Tu a H' W' wks keeps fz=true)
 (QR:Ok B.B (fun i=>i<a) μ (Q4 Hb) w) (hf:∀i,a<=i->μ i=none) (hp:Post B.B (fun i=>i<a) a n' (wks.map (·.1)) μ μ' Hb H' w w')
 (hws:uC H' a (gN a (keeps.map (·.1))) fz wks=some (ws,L3)) (hos:PQ H' a (gN a (keeps.map (·.1))) fz keeps=some (os,L2)) (hL3:Q3 L3) (hL2:Q3 L2):
 ∃μ1 im1,se H' a (gN a (keeps.map (·.1))) fz μ' μ1 w' n' (fz.map (·.k)) im1/\Post B.B (fun i=>i<a) a (a+1+os.length) (wks.map (·.1)) μ μ1 Hb (Wt Hb a ws os) w w'/\(∀i,a+1+os.length<=i->μ1 i=none)/\(∀i o,Q4 ws i=some o->i<a):=by
 unfold Tu at hq;simp only[YB]at hq;obtain⟨⟨⟨⟨hW,hwlt⟩,hdist⟩,hge⟩,hfz⟩:=hq;have wlt:∀i,i∈wks.map (·.1)->i<a:=fun i hi=>by
  obtain⟨k,hk,rfl⟩:=List.mem_map.1 hi;exact YL (List.all_eq_true.1 hwlt k hk)
 have wsget:=ka wks ws L3 hws;have wslt:∀i o,Q4 ws i=some o->i<a:=fun i o ho=>by
  refine wlt i (Decidable.of_not_not fun e=> ?_);have:=(wsget i).1.2 e;rw[this]at ho;cases ho
 have hlenos:=(Ui keeps os L2 hos).1;let ρ:Nat->Nat:=fun i=>if i<a then i else((keeps.map (·.1))[i-(a+1)]?).getD i
 have hρ:∀i k,a+1<=i->(keeps.map (·.1))[i-(a+1)]? =some k->ρ i=k:=fun i k hi hk=>by
  show(if i<a then i else((keeps.map (·.1))[i-(a+1)]?).getD i)=k;rw[if_neg (by omega),hk];rfl
 have hρlow:∀i,i<a->ρ i=i:=fun i hi=>by
  show(if i<a then i else((keeps.map (·.1))[i-(a+1)]?).getD i)=i;rw[if_pos hi]
 have get:∀i,a<i->i<a+1+os.length->∃k,(keeps.map (·.1))[i-(a+1)]? =some k/\ρ i=k/\a<=k:=by
  intro i h1 h2;have Xu:i-(a+1)<keeps.length:=by omega
  refine⟨(keeps[i-(a+1)]).1,by simp[Xu],hρ i _ (by omega) (by simp[Xu]), ?_⟩;exact YL (List.all_eq_true.1 hge _ (List.getElem_mem Xu))
 let im1:Tc:=⟨0,0,0,false,UD μ' H' w' (Kr H' n'++fz.map (·.k))⟩
 let μ1:=eB a (a+1+os.length) ρ μ μ' (UD μ' H' w' (Kr H' n'++fz.map (·.k)))
 have hco:se H' a (gN a (keeps.map (·.1))) fz μ' μ1 w' n' (fz.map (·.k)) im1:=by
  refine⟨⟨B.B,_,hp.ok,fun i hi=> ?_⟩,hu',fun k j hj=> ?_, ?_,rfl,fun x hx=>List.mem_map.2 ⟨x,hx,rfl⟩⟩
  ·rcases LA i a with h|h
   ·exact .inl h
   ·exact .inr ⟨h,hi⟩
  ·unfold gN at hj;cases hb:Lp k a with
   |true=>
    rw[hb]at hj;simp only[cond_true,YO]at hj;subst hj;have Xu:k<a:=YL hb;show eB a (a+1+os.length) ρ μ μ' _ k=μ' k;unfold eB;rw[if_neg (by omega),if_neg (by omega),hp.ext k (by omega)]
   |false=>
    rw[hb]at hj;obtain⟨h1,h2⟩:=JK _ _ _ _ hj;have Xu:j-(a+1)<keeps.length:=by
     have:=(List.getElem?_eq_some_iff.1 h2).1;simpa using this
    show eB a (a+1+os.length) ρ μ μ' _ j=μ' k;unfold eB;rw[if_neg (by omega),if_pos ⟨by omega,by omega⟩,hρ j k h1 h2]
  ·show eB a (a+1+os.length) ρ μ μ' _ a=some im1;unfold eB;rw[if_pos rfl]
 have hkeeps:vd a n' (a+1+os.length) (wks.map (·.1)) μ μ' Hb H' (Wt Hb a ws os) w' ρ (fz.map (·.k)):=by
  refine⟨by omega,hρlow,fun i h1 h2=> ?_,fun i j h1 h2 h3 h4 h5=> ?_,cK hu wslt,fun i hi hn=> ?_, ?_,fun i o1 hi hc ho=> ?_,fun k hk=> ?_⟩
  ·obtain⟨k,hk,hk2,hk3⟩:=get i h1 h2;refine⟨by omega, ?_⟩;rw[hk2];have Xu:i-(a+1)<os.length:=by omega
   obtain⟨k',s,L',ha,hb,hc⟩:=(Ui keeps os L2 hos).2 (i-(a+1)) os[i-(a+1)] (by simp[Xu]);have:k'=k:=by
    rw[Lx,ha]at hk;simpa using hk
   subst this;obtain⟨⟨x,hx⟩,_⟩:=Jv hco hb (hc hL2);exact hu'.lt hx
  ·obtain⟨k,hk,hk2,_⟩:=get i h1 h2;obtain⟨k',hk',hk2',_⟩:=get j h3 h4;rw[hk2,hk2']at h5;subst h5;have:=K3 hdist _ _ _ hk hk';omega
  ·rw[UN,(wsget i).1.2 hn];simp only;rw[if_neg (by omega),if_neg (by omega)]
  ·rw[UN];cases hg:Q4 ws a with
   |some o=>have:=wslt a o hg;omega
   |none=>simp
  ·rcases hc with h1i|⟨Jm,Xu⟩
   ·rw[UN]at ho;have hn:Q4 ws i=none:=by
     cases hg:Q4 ws i with
     |none=>rfl
     |some o=>have:=wslt i o hg;omega
    rw[hn]at ho;simp only at ho;rw[if_neg (by omega),if_pos ⟨h1i,hi⟩]at ho;obtain⟨k,s,L',ha,hb,hc'⟩:=(Ui keeps os L2 hos).2 (i-(a+1)) o1 ho;obtain⟨_,hnr,hli⟩:=Jv hco hb (hc' hL2);refine⟨hnr,fun hl1=> ?_⟩;obtain⟨x,hx,hl,ZJ⟩:=hli hl1;refine⟨x, ?_,hl,fun im _ h=>ZJ im h⟩;rw[hρ i k (by omega) (by rw[Lx,ha];rfl)];exact hx
   ·cases hg:Q4 ws i with
    |none=>exact absurd Jm ((wsget i).1.1 hg)
    |some o=>
     rw[UN,hg]at ho;simp only[YO]at ho;subst ho;obtain⟨s,L1,h1,h2⟩:=(wsget i).2 o hg;obtain⟨_,hnr,hli⟩:=Jv hco h1 (h2 hL3);refine⟨hnr,fun hl1=> ?_⟩;obtain⟨x,hx,hl,ZJ⟩:=hli hl1;exact⟨x,by rw[hρlow i Xu];exact hx,hl,fun im _ h=>ZJ im h⟩
  ·obtain⟨x,hx,rfl⟩:=List.mem_map.1 hk;have:=List.all_eq_true.1 hfz x hx;simp only[YB]at this;obtain⟨⟨q1,q2⟩,q3⟩:=this;have hown:∃o,Q4 H' x.k=some o/\live o:=by
    unfold Bk at q2;split at q2
    ·rename_i ho;exact⟨_,ho,trivial⟩
    ·cases q2
   obtain⟨o,ho,hl⟩:=hown;refine⟨YL q1,hu'.lt ho,⟨o,ho,hl⟩,fun i h1 h2 hr=> ?_⟩;obtain⟨k,hk,hk2,_⟩:=get i h1 h2;rw[hk2]at hr;rw[Lx]at hk;cases hy:keeps[i-(a+1)]? with
   |none=>rw[hy]at hk;cases hk
   |some y=>
    rw[hy]at hk;simp only[LC,YO]at hk;have:=List.all_eq_true.1 q3 y (Lm hy);rw[hk,hr]at this;simp at this
 refine⟨μ1,im1,hco,hp.merge QR hf hkeeps,fun i hi=> ?_,wslt⟩;show eB a (a+1+os.length) ρ μ μ' _ i=none;unfold eB;rw[if_neg (by omega),if_neg (by omega)];exact hf i (by omega)
theorem GoE.landA(hF:∀g,F g=true->QB P g=true)(hJ:∀w,B.has w->J w)(Ze:P.follows .mixedOrders=true){wks:List (Nat×KS)}(hu:Under Hb a)(hw:Writable Hb a (wks.map (·.1)))(h:GoE P B c0 Hb a c H n (wks.map (·.1))){fuel:Nat}{sc:QA}{f:FuncId}{len:Nat}{todo:List Item}{ro:Option Nat}{slots:List Nat}{keeps:List (Nat×KS)}{fz:List Fz}{vs:List Value}{ws:Q0}{os:List Obj}{L:List Prop}
 (e:CE.landA a (Q2 P F J B fuel a c H n sc 0 [] []) slots wks keeps fz=some ⟨f,len,todo,[],.run,ro,vs,ws,os,L⟩) (hL:Q3 L) (hlen:LI len 16000=true) (hplain:todo.all KE=true) (JY:∀l,ro=some l->l<a):
 ∃d:Nat->Value,(∀t,Zf (d t))/\GoE P B c0 Hb a (VO ro f len (slots.zip vs) d todo) (Wt Hb a ws os) (a+1+os.length) (wks.map (·.1)):=by
 unfold CE.landA at e;split at e
 ·rename_i c' H' n' W' L' hs;cases hq:Tu a H' W' wks keeps fz with
  |false=>rw[hq]at e;cases e
  |true=>
   rw[hq]at e;simp only[cond_true]at e;split at e
   ·rename_i vs0 L1 ws0 L3 os0 L2 hvs hws hos;simp only[YO,DT.mk.injEq]at e;obtain⟨e1,e2,e3,e4,e5,e6,rfl,rfl,rfl,rfl⟩:=e;obtain⟨hL1,hLr⟩:=X2 hL;obtain⟨hL3,hLr⟩:=X2 hLr;obtain⟨hL2,hL4⟩:=X2 hLr;obtain⟨R,W2,Pa,hiff⟩:=Wo hF hJ Ze fuel a c H n sc 0 [] [] _ h.under hs hL4;have hg:=(h.step Pa).widen (Wf:=wks.map (·.1)) (fun i hi hm=>by
     rcases List.mem_append.1 hm with hm|hm
     ·exact hm
     ·have hi':i∈W':=(hiff i hi).2 (.inr hm);unfold Tu at hq;simp only[YB]at hq;simpa using List.all_eq_true.1 hq.1.1.1.1 i hi') hw
    have hd:∀t,∃d,Zf d/\∀μ v',VR μ (Zc c'.tmps t) v'->VR μ d v':=fun t=>UP _
    have wslt:∀i o,Q4 ws0 i=some o->i<a:=fun i o ho=>by
     have hq':=hq;unfold Tu at hq';simp only[YB]at hq';have Jm:i∈wks.map (·.1):=Decidable.of_not_not fun e=>by
      have:=(ka wks ws0 L3 hws i).1.2 e;rw[this]at ho;cases ho
     obtain⟨k,hk,rfl⟩:=List.mem_map.1 Jm;exact YL (List.all_eq_true.1 hq'.1.1.1.2 k hk)
    refine⟨fun t=>Classical.choose (hd t),fun t=>(Classical.choose_spec (hd t)).1,cK hu wslt,by omega,fun Z μ w fr cs QR hB hf X9=> ?_⟩;obtain⟨fr',w',μ',hp,hfr',ha,hb,Wn⟩:=hg.sem Z μ w fr cs QR hB hf X9;obtain⟨μ1,im1,hco,Zj,Vy,_⟩:=iw hu hw hg.under hq QR hf hp hws hos hL3 hL2;have hpans:c'.mode.pans=false:=by rw[e5];rfl
    refine⟨fr',w',μ1,Zj,⟨by rw[hfr'.fn,e1];rfl, ?_,fun _=>(e3 ▸ hfr'.todo hpans).plain hplain, ?_, ?_,hfr'.kind, ?_⟩,ha,hb,Wn⟩
    ·refine hfr'.tmps.merge e2 (YL hlen) (fun p hp v' hv=> ?_) fun t=>Classical.choose_spec (hd t)
     obtain⟨i,hi⟩:=List.getElem?_of_mem hp;rw[List.getElem?_zip_eq_some]at hi;obtain⟨hi1,hi2⟩:=hi;obtain⟨u,L',ha,hb,hc⟩:=(nK _ _ _ hvs).2 i p.2 hi2;rw[Lx,hi1]at ha;simp only[LC,YO]at ha;subst ha;exact Uu hco 4 _ _ _ _ hb (hc hL1) hv
    ·have:=hfr'.defers;rw[e4]at this;exact .of_empty this.empty
    ·have:=hfr'.mode;rw[e5]at this;generalize fr'.mode=ds at this;cases this;exact .run
    ·have:=hfr'.round;rw[e6]at this;show RoR μ1 ro fr'.roundOf;generalize fr'.roundOf=x at this;cases ro with
     |none=>
      cases x with
      |none=>trivial
      |some x=>cases this
     |some l=>
      cases x with
      |none=>cases this
      |some x=>
       obtain⟨im,h1,h2⟩:=this;have hl:=JY l rfl;refine⟨im, ?_,h2⟩;rw[Zj.ext l (by omega)];rw[hp.ext l (by omega)]at h1;exact h1
   ·cases e
 ·cases e
def UL(a:Nat)(v:Value):Bool:=simple v || match v with
 | .func (.via r ⟨[]⟩ 0 true) ⟨[_]⟩ ⟨[]⟩=>Lp r a
 | .pointer (some ⟨k,_,none⟩)=>Lp k a
 | .slice (some ⟨k,_,none⟩) _ _=>Lp k a
 | .map (some r)=>Lp r a
 | .func (.yield l) ⟨[]⟩ ⟨[]⟩=>Lp l a
 | .chan none=>true
 |_=>false
def JV(a:Nat):Nat->Value->Bool
 |0,v=>UL a v
 |f+1,v=>match v with
  | .agg xs=>xs.all (JV a f)
  | .tuple xs=>xs.all (JV a f)
  | .iface _ x=>JV a f x
  | .func (.func _) xs ys=>xs.all (JV a f) && ys.all (JV a f)
  |v=>UL a v
section
variable {μ μ0:Mu} (hμ:∀b,b<a->μ0 b=μ b)
include hμ
theorem nA{v v':Value}(h:UL a v=true)(hv:VR μ v v'):VR μ0 v v':=by
 unfold UL at h;cases hs:simple v with
 |true=>rw[simple_eq hs hv];exact ZD hs
 |false=>
  rw[hs]at h;simp only[Bool.false_or]at h;have lt:∀{k},Lp k a=true->μ0 k=μ k:=fun h=>hμ _ (YL h)
  split at h
  ·cases hv with
   |top h1 h2 h3=>exact .top h1 (by rw[lt h];exact h2) h3
  ·cases hv with
   |ptr har=>
    obtain⟨im,h1,h2,h3⟩:=har;exact .ptr ⟨im,by rw[lt h];exact h1,h2,h3⟩
  ·cases hv with
   |slice har x y z=>
    obtain⟨im,h1,h2,h3⟩:=har;exact .slice ⟨im,by rw[lt h];exact h1,h2,h3⟩ x y fun hz Z5 Xa=>z hz Z5 (by rw[<-lt h];exact Xa)
  ·cases hv with
   |map hr=>exact .map (by rw[lt h];exact hr)
  ·cases hv with
   |yield hr=>exact .yield (by rw[lt h];exact hr)
  ·cases hv with
   |U9 x y z=>exact .U9 x y z
  ·cases h
theorem eN:∀(f:Nat) (v v':Value),JV a f v=true->VR μ v v'->VR μ0 v v'
 |0,v,v',h,hv=>nA hμ h hv
 |f+1,v,v',h,hv=>by
  have arr:∀{xs xs':Array Value},xs.all (JV a f)=true->(∀(i:Nat) v v',xs[i]? =some v->xs'[i]? =some v'->VR μ v v')->∀(i:Nat) v v',xs[i]? =some v->xs'[i]? =some v'->VR μ0 v v':=
   fun ha hx i v v' h1 h2=>eN f v v' (Array.all_eq_true'.1 ha v (LD h1)) (hx i v v' h1 h2)
  cases v with
  |agg xs=>cases hv with|agg h1 h2=>exact .agg h1 (arr h h2)
  |tuple xs=>cases hv with|tuple h1 h2=>exact .tuple h1 (arr h h2)
  |iface t x=>cases hv with|iface hv=>exact .iface (eN f x _ h hv)
  |func fn xs ys=>
   cases fn with
   |func g=>
    have h:(xs.all (JV a f) && ys.all (JV a f))=true:=h;simp only[YB]at h;cases hv with
    |func h1 h2 h3 h4=>exact .func h1 h2 (arr h.1 h3) (arr h.2 h4)
   |_=>exact nA hμ (by exact h) hv
  |_=>exact nA hμ (by exact h) hv
end
theorem zd{μ μ0:Mu}(hμ:∀b,b<a->μ0 b=μ b){T:Tm}{A:Array Value}(hl:∀t,JV a 4 (Zc T t)=true\/Zf (Zc T t))(h:TR μ T A):TR μ0 T A:=⟨h.1,fun t=>(hl t).elim (fun h1=>eN hμ 4 _ _ h1 (h.2 t)) fun h1=>h1 _ _ _ (h.2 t)⟩
theorem FrR.low{μ μ0:Mu}{fr:Frame}(hμ:∀b,b<a->μ0 b=μ b)(hs:∀t,JV a 4 (Zc c.tmps t)=true\/Zf (Zc c.tmps t))(hp:c.todo.all KE=true)(hd:c.defers=[])(hm:c.mode=.run)(hr:∀l,c.roundOf=some l->l<a)(h:FrR Bot.no μ c fr):FrR Bot.no μ0 c fr:=by
 have hpans:c.mode.pans=false:=by rw[hm];rfl
 refine⟨h.fn,zd hμ hs h.tmps,fun _=>(h.todo hpans).plain hp, ?_, ?_,h.kind, ?_⟩
 ·have:=h.defers;rw[hd]at this ⊢;exact .of_empty this.empty
 ·have:=h.mode;rw[hm]at this ⊢;generalize fr.mode=ds at this ⊢;cases this;exact .run
 ·have:=h.round;generalize fr.roundOf=x at this ⊢;cases JY:c.roundOf with
  |none=>
   rw[JY]at this;cases x with
   |none=>trivial
   |some x=>cases this
  |some l=>
   rw[JY]at this;cases x with
   |none=>cases this
   |some x=>
    obtain⟨im,h1,h2⟩:=this;exact⟨im,by rw[hμ l (hr l JY)];exact h1,h2⟩
def LV(a:Nat)(v:Value):Prop:=JV a 4 v=true\/Zf v
theorem LV.vr{μ μ0:Mu}{v v':Value}(hμ:∀b,b<a->μ0 b=μ b)(h:LV a v)(hv:VR μ v v'):VR μ0 v v':=h.elim (fun h=>eN hμ 4 _ _ h hv) fun h=>h _ _ _ hv
def va(a:Nat):Obj->Prop
 | .cells cs _ _=> ∀(i:Nat) v,cs[i]? =some v->LV a v
 | .map es _=> ∀(i:Nat) e,es[i]? =some e->LV a e.val
 | .loop l=> ∀(i:Nat) v,l.tmps[i]? =some v->LV a v
 |_=>True
theorem OR.low{μ μ0:Mu}{w:World}{im:Tc}{o:Obj}(hμ:∀b,b<a->μ0 b=μ b)(hl:va a o)(h:OR μ w im o):OR μ0 w im o:=by
 cases o with
 |cells cs t fz=>
  rcases h with ⟨h1,h2,h3,arr,h4,h5,h6,h7⟩|⟨h1,h2⟩
  ·exact .inl ⟨h1,h2,h3,arr,h4,h5,h6,fun i v hv=>by
    obtain⟨v',a1,b1⟩:=h7 i v hv;exact⟨v',a1,(hl i v hv).vr hμ b1⟩⟩
  ·exact .inr ⟨h1,fun i v hv=>by
    obtain⟨v',a1,b1⟩:=h2 i v hv;exact⟨v',a1,(hl i v hv).vr hμ b1⟩⟩
 |map es Yy=>
  obtain⟨h1,Uh,h2,h3,h4⟩:=h;exact⟨h1,Uh,h2,h3,fun i e e' he he'=>by
   obtain⟨x,y,z,u⟩:=h4 i e e' he he';exact⟨x,y,z,(hl i e he).vr hμ u⟩⟩
 |loop l=>
  obtain⟨h1,tm,df,h2,h3⟩:=h;exact⟨h1,tm,df,h2,h3.1,fun i v v' hv ZK=>(hl i v hv).vr hμ (h3.2 i v v' hv ZK)⟩
 |deferred ds=>exact h
 |pending x y=>trivial
 |_=>exact h
def DM(a:Nat):Obj->Bool
 | .cells cs _ _=>cs.toList.all (JV a 4)
 | .map es _=>es.toList.all fun e=>JV a 4 e.val
 | .loop l=>l.tmps.toList.all (JV a 4)
 |_=>true
theorem By{a:Nat}{o:Obj}(h:DM a o=true):va a o:=by
 cases o with
 |cells cs t fz=>exact fun i v hv=>.inl (List.all_eq_true.1 h v (Array.mem_toList_iff.2 (LD hv)))
 |map es Yy=>exact fun i e he=>.inl (List.all_eq_true.1 h e (Array.mem_toList_iff.2 (LD he)))
 |loop l=>exact fun i v hv=>.inl (List.all_eq_true.1 h v (Array.mem_toList_iff.2 (LD hv)))
 |_=>exact trivial
theorem eP:∀{H:Q0} {i:Nat} {o:Obj},Q4 H i=some o->(i,o)∈H
 |[],_,_,h=>by cases h
 |(k,x)::l,i,o,h=>by
  rw[Xe]at h;split at h
  ·rename_i e;cases h;subst e;exact List.mem_cons_self
  ·exact Ls _ (eP h)
theorem Xd{H:Q0}{n:Nat}(h:(H.all fun p=>Lp p.1 n)=true):Under H n:=fun i hi=>by
 cases hg:Q4 H i with
 |none=>rfl
 |some o=>have:=YL (List.all_eq_true.1 h _ (eP hg));simp at this;omega
end
end Go.CE

namespace Go.CE
open Go Go.RowKit

def UW(n:Int):Qu:=.WE (.val (.int .i64 n))
def V4:Qu:=.WE (.val (.bool true))
def V5:Qu:=.WE (.val (.bool false))
def BR(f:Value->Option (Value×List Prop)):OO->Option (OO×List Prop)
 | .ret v=>match f v with
   |some (v1,L)=>some (.ret v1,L)
   |none=>none
 | .ZW v=>match f v with
   |some (v1,L)=>some (.ZW v1,L)
   |none=>none
def finK(a:Nat)(s:Option ST)(wks keeps:List (Nat×KS))(fz:List Fz):Option (OO×Q0×List Obj×List Prop):=match s with
 |some ⟨.fin out H _,W,L⟩=>bif Tu a H W wks keeps fz then
  match BR (rS H a (gN a (keeps.map (·.1))) fz 4) out,uC H a (gN a (keeps.map (·.1))) fz wks,PQ H a (gN a (keeps.map (·.1))) fz keeps with
  |some (v1,L1),some (ws,L3),some (os,L2)=>some (v1,ws,os,L1++(L3++(L2++L)))
  |_,_,_=>none
   else none
 |_=>none
def FinK(P:Program)(B:Lo)(c0:CF)(Hb:Q0)(a:Nat)(out:OO)(ws:Q0)(os:List Obj)(Wf:List Nat):Prop:=
 ∀(μ:Mu) (w:World) (fr:Frame) (cs:List Frame),Ok B (fun i=>i<a) μ (Q4 Hb) w->B.has w->(∀i,a<=i->μ i=none)->FrR Bot.no μ c0 fr->
  ∃Za w' μ',Post B (fun i=>i<a) a (a+1+os.length) Wf μ μ' Hb (Wt Hb a ws os) w w'/\OR2 μ' out Za/\(∀i,a+1+os.length<=i->μ' i=none)/\EndsAs P fr cs w Za w'
section
variable {P:Program} {F:FuncId->Bool} {J:World->Prop} {B:Lo} {c0 c:CF} {Hb H:Q0} {a n:Nat} {W Wf:List Nat}
theorem GoE.finK(hF:∀g,F g=true->QB P g=true)(hJ:∀w,B.has w->J w)(Ze:P.follows .mixedOrders=true){wks keeps:List (Nat×KS)}(hu:Under Hb a)(hw:Writable Hb a (wks.map (·.1)))(h:GoE P B c0 Hb a c H n (wks.map (·.1))){fuel:Nat}{sc:QA}{fz:List Fz}{out:OO}{ws:Q0}{os:List Obj}{L:List Prop}
 (e:CE.finK a (Q2 P F J B fuel a c H n sc 0 [] []) wks keeps fz=some (out,ws,os,L)) (hL:Q3 L):FinK P B c0 Hb a out ws os (wks.map (·.1)):=by
 unfold CE.finK at e;split at e
 ·rename_i out0 H' n' W' L' hs;cases hq:Tu a H' W' wks keeps fz with
  |false=>rw[hq]at e;cases e
  |true=>
   rw[hq]at e;simp only[cond_true]at e;split at e
   ·rename_i v1 L1 ws0 L3 os0 L2 hv1 hws hos;simp only[YO,YR]at e;obtain⟨rfl,rfl,rfl,rfl⟩:=e;obtain⟨hL1,hLr⟩:=X2 hL;obtain⟨hL3,hLr⟩:=X2 hLr;obtain⟨hL2,hL4⟩:=X2 hLr;obtain⟨R,W2,hfj,hiff⟩:=Wo hF hJ Ze fuel a c H n sc 0 [] [] _ h.under hs hL4;intro μ w fr cs QR hB hf X9;obtain⟨Za,w',μ',hp,ho,he⟩:=h.fj hfj μ w fr cs QR hB hf X9;have hp:=hp.widen (W':=wks.map (·.1)) QR (fun i hi hm=>by
     rcases List.mem_append.1 hm with hm|hm
     ·exact hm
     ·have hi':i∈W':=(hiff i hi).2 (.inr hm);have hq':=hq;unfold Tu at hq';simp only[YB]at hq';simpa using List.all_eq_true.1 hq'.1.1.1.1 i hi') (fun i hi hiW=>hw.rw QR hi hiW)
    obtain⟨μ1,im1,hco,Zj,Vy,_⟩:=iw hu hw (h.under.shape hfj.shape) hq QR hf hp hws hos hL3 hL2;cases ho with
    |ret Vi=>
     unfold BR at hv1;split at hv1
     ·rename_i v0 e0;cases e0;split at hv1
      ·rename_i v2 L2' hv2;simp only[YO,YR]at hv1;obtain⟨rfl,rfl⟩:=hv1;exact⟨_,w',μ1,Zj,.ret (Uu hco 4 _ _ _ _ hv2 hL1 Vi),Vy,he⟩
      ·cases hv1
     ·rename_i e0;cases e0
    |ZW Vi=>
     unfold BR at hv1;split at hv1
     ·rename_i e0;cases e0
     ·rename_i v0 e0;cases e0;split at hv1
      ·rename_i v2 L2' hv2;simp only[YO,YR]at hv1;obtain⟨rfl,rfl⟩:=hv1;exact⟨_,w',μ1,Zj,.ZW (Uu hco 4 _ _ _ _ hv2 hL1 Vi),Vy,he⟩
      ·cases hv1
   ·cases e
 ·cases e
theorem FinK.cast{out out1:OO}{ws ws1:Q0}{os os1:List Obj}(h:FinK P B c0 Hb a out ws os Wf)(e1:out=out1)(e2:ws=ws1)(e3:os=os1):FinK P B c0 Hb a out1 ws1 os1 Wf:=e1 ▸ e2 ▸ e3 ▸ h
theorem FinK.fj{out:OO}{ws:Q0}{os:List Obj}(h:FinK P B c0 Hb a out ws os Wf)(hub:Under Hb a)(hws:∀i o,Q4 ws i=some o->i<a/\i∈Wf)(hWf:∀i∈Wf,i<a)(hs:∀t,JV a 4 (Zc c0.tmps t)=true\/Zf (Zc c0.tmps t))(hp:c0.todo.all KE=true)(hd:c0.defers=[])(hm:c0.mode=.run)(hr:∀l,c0.roundOf=some l->l<a)(hob:∀i o,Q4 Hb i=some o->va a o):
 FJ P B c0 Hb a out ((ws++((a,XM)::XJ (a+1) os))++Hb) (a+1+os.length) (Lv a) Wf:=by
 have hG:(ws++((a,XM)::XJ (a+1) os))++Hb=Wt Hb a ws os:=by unfold Wt;simp
 rw[hG];refine⟨⟨by omega,fun i hi hw=> ?_,fun i hi=> ?_,fun i hi=>List.mem_range.2 (hWf i hi),fun i hi=>by have:=hWf i hi;omega⟩,fun S μ w fr cs QR hB hS hf X9 hR=> ?_⟩
 ·rw[UN];cases hg:Q4 ws i with
  |some o=>exact absurd (hws i o hg).2 hw
  |none=>simp only;rw[if_neg (by omega),if_neg (by omega)]
 ·rw[UN];cases hg:Q4 ws i with
  |some o=>have:=(hws i o hg).1;omega
  |none=>simp only;rw[if_neg (by omega),if_neg (by omega)]
 ·have hSeq:S=fun i=>i<a:=funext fun i=>propext ⟨hS i,fun hi=>hR i (List.mem_range.2 hi) hi⟩
  subst hSeq;let μc:Mu:=fun i=>if i<a then μ i else none
  have hμc:∀b,b<a->μc b=μ b:=fun b hb=>by show(if b<a then μ b else none)=μ b;rw[if_pos hb]
  have hextc:Ext μc μ:=fun k im hk=>by
   have hk:(if k<a then μ k else none)=some im:=hk;split at hk
   ·exact hk
   ·cases hk
  have hokc:Ok B.B (fun i=>i<a) μc (Q4 Hb) w:=by
   refine⟨fun i o hi hg hl=> ?_,fun i o im hi hg hl QV=> ?_,fun i j oi oj x y hi hj Km hg1 hg2 l1 l2 m1 m2 r1 r2=> ?_,fun i o hi hg hr=> ?_,fun i j oi oj x y z hi hj hg1 hg2 r1 l2 m1 m2 hrw=> ?_⟩
   ·obtain⟨im,QV,ZJ⟩:=QR.rel i o hi hg hl;exact⟨im,(hμc i hi).trans QV,OR.low hμc (hob i o hg) ZJ⟩
   ·exact QR.low i o im hi hg hl ((hμc i hi).symm.trans QV)
   ·exact QR.inj i j oi oj x y hi hj Km hg1 hg2 l1 l2 ((hμc i hi).symm.trans m1) ((hμc j hj).symm.trans m2) r1 r2
   ·obtain⟨im,QV,hx⟩:=QR.K8 i o hi hg hr;exact⟨im,(hμc i hi).trans QV,hx⟩
   ·exact QR.sep i j oi oj x y z hi hj hg1 hg2 r1 l2 ((hμc i hi).symm.trans m1) ((hμc j hj).symm.trans m2) hrw
  obtain⟨Za,w',μ',Zj,hv,Vy,he⟩:=h μc w fr cs hokc hB (fun i hi=>by show(if i<a then μ i else none)=none;rw[if_neg (by omega)]) (X9.low hμc hs hp hd hm hr);let μ2:Mu:=fun i=>if i<a+1+os.length then μ' i else μ i
  have hμ2:∀i,i<a+1+os.length->μ2 i=μ' i:=fun i hi=>by show(if i<a+1+os.length then μ' i else μ i)=μ' i;rw[if_pos hi]
  have ext2:Ext μ' μ2:=fun k im hk=>by
   rcases LA k (a+1+os.length)with h1|h1
   ·rw[hμ2 k h1];exact hk
   ·rw[Vy k h1]at hk;cases hk
  have Slt:∀i,(i<a\/a<=i/\i<a+1+os.length)->i<a+1+os.length:=fun i h=>by omega
  refine⟨_,w',μ2,⟨?_,by omega,fun i hi=> ?_,fun i hi hw=> ?_,Zj.grow,fun b hb hx=>Zj.frame b hb fun i hiW hi im QV=>hx i hiW hi im ((hμc i hi).symm.trans QV),fun i hiW hi=> ?_,fun i im o h1 h2 ho hl QV=> ?_,fun i im o hc ho hr QV b x hx=> ?_,Zj.os,Zj.tape,Zj.output⟩,OR2.mono ext2 hv,he⟩
  ·have ok:=Zj.ok;refine⟨fun i o hi hg hl=> ?_,fun i o im hi hg hl QV=> ?_,fun i j oi oj x y hi hj Km hg1 hg2 l1 l2 m1 m2 r1 r2=> ?_,fun i o hi hg hr=> ?_,fun i j oi oj x y z hi hj hg1 hg2 r1 l2 m1 m2 hrw=> ?_⟩
   ·obtain⟨im,QV,ZJ⟩:=ok.rel i o hi hg hl;exact⟨im,(hμ2 i (Slt i hi)).trans QV,ZJ.keep ext2 rfl⟩
   ·exact ok.low i o im hi hg hl ((hμ2 i (Slt i hi)).symm.trans QV)
   ·exact ok.inj i j oi oj x y hi hj Km hg1 hg2 l1 l2 ((hμ2 i (Slt i hi)).symm.trans m1) ((hμ2 j (Slt j hj)).symm.trans m2) r1 r2
   ·obtain⟨im,QV,hx⟩:=ok.K8 i o hi hg hr;exact⟨im,(hμ2 i (Slt i hi)).trans QV,hx⟩
   ·exact ok.sep i j oi oj x y z hi hj hg1 hg2 r1 l2 ((hμ2 i (Slt i hi)).symm.trans m1) ((hμ2 j (Slt j hj)).symm.trans m2) hrw
  ·rcases LA i a with h1|h1
   ·rw[hμ2 i (by omega),Zj.ext i (by omega),hμc i h1]
   ·show(if i<a+1+os.length then μ' i else μ i)=μ i;rw[if_neg (by omega)]
  ·exact Zj.keep i hi hw
  ·obtain⟨p,q,im,s,t⟩:=Zj.wr i hiW hi;exact⟨p,q,im,(hμc i hi).symm.trans s,t⟩
  ·obtain⟨p,q⟩:=Zj.fresh i im o h1 h2 ho hl ((hμ2 i h2).symm.trans QV);exact⟨p,q.imp id fun⟨k,x,y,⟨Z5,m,m2⟩,z⟩=>⟨k,x,y,⟨Z5,(hμc k y).symm.trans m,m2⟩,z⟩⟩
  ·have Xu:i<a+1+os.length:=by omega
   rcases Zj.rf i im o hc ho hr ((hμ2 i Xu).symm.trans QV) b x hx with e|⟨k,V9,ko,p,q,r,s,t,u⟩|⟨k,p,q,⟨Z5,m,m2⟩,z⟩
   ·exact .inl e
   ·exact .inr (.inl ⟨k,V9,ko,p,q,r,s,(hμc k q).symm.trans t,u⟩)
   ·exact .inr (.inr ⟨k,p,q,⟨Z5,(hμc k q).symm.trans m,m2⟩,z⟩)
def F0(a:Nat)(l:List Value)(todo:List Item)(ro:Option Nat)(Hb ws:Q0)(Wf ex:List Nat):Bool:=
 l.all (JV a 4) && (todo.all KE && ((match ro with|some l=>Lp l a|none=>true) && ((Hb.all fun p=>Lp p.1 a) && ((Hb.all fun p=>ex.contains p.1 || DM a p.2) && ((ws.all fun p=>Lp p.1 a && Wf.contains p.1) && ((Wf.all fun k=>Lp k a) && LI l.length 16000))))))
def D8(a:Nat):Q0->List Nat->Prop
 |[],_=>True
 |(k,o)::H,ex=>(bif ex.contains k then va a o else True)/\D8 a H ex
theorem rA{a:Nat}{ex:List Nat}:∀{H:Q0} {k:Nat} {o:Obj},D8 a H ex->ex.contains k=true->Q4 H k=some o->va a o
 |[],_,_,_,_,h=>by cases h
 |(j,x)::H,k,o,hx,hk,h=>by
  rw[Xe]at h;split at h
  ·rename_i e;cases h;subst e;have:=hx.1;rw[hk]at this;exact this
  ·exact rA hx.2 hk h
theorem PH{a:Nat}:∀H:Q0,D8 a H []
 |[]=>trivial
 |(_,_)::H=>⟨trivial,PH H⟩
theorem oH{a:Nat}{v:Value}(h:simple v=true):UL a v=true:=by unfold UL;rw[h];rfl
theorem fU{a:Nat}{v:Value}(h:simple v=true):JV a 4 v=true:=by
 have hs:=oH (a:=a) h;cases v with
 |agg xs=>cases h
 |tuple xs=>cases h
 |iface t x=>cases h
 |func fn xs ys=>
  cases fn with
  |func f=>
   simp only[simple,YB,beq_iff_eq,Array.size_eq_zero_iff]at h;obtain⟨rfl,rfl⟩:=h;simp[JV]
  |_=>exact hs
 |_=>exact hs
theorem Yc{α:Type}{a:Nat}{e:α->List Value}{xs:List α}{t:TypeId}{fl:Nat×Nat}(h:∀x,∀v∈e x,simple v=true):va a (.cells (Qj e xs) t fl):=fun i v hv=>.inl (fU (Xr h v (LD hv)))
theorem FinK.fjB{fn:FuncId}{len:Nat}{l:List Value}{todo:List Item}{ro:Option Nat}{out:OO}{ws:Q0}{os:List Obj}{ex:List Nat}(h:FinK P B ⟨fn,ofList len l,todo,[],.run,ro⟩ Hb a out ws os Wf)(e:F0 a l todo ro Hb ws Wf ex=true)(hx:D8 a Hb ex):
 FJ P B ⟨fn,ofList len l,todo,[],.run,ro⟩ Hb a out ((ws++((a,XM)::XJ (a+1) os))++Hb) (a+1+os.length) (Lv a) Wf:=by
 simp only[F0,YB]at e;obtain⟨e1,e2,e3,e4,e5,e6,e7,e8⟩:=e;have e8:=YL e8;refine h.fj (Xd e4) (fun i o ho=> ?_) (fun i hi=>YL (List.all_eq_true.1 e7 i hi)) (fun t=> ?_) e2 rfl rfl (fun k hk=> ?_) (fun i o ho=> ?_)
 ·have:=List.all_eq_true.1 e6 _ (eP ho);simp only[YB]at this;exact⟨YL this.1,by simpa using this.2⟩
 ·simp only[Zc,ofList];rw[eK _ _ _ _ (by omega)];split
  ·rename_i ht;have ht:t<l.length:=by omega
   refine .inl (List.all_eq_true.1 e1 _ ?_);rw[Nat.sub_zero,Ll,LP ht];exact List.getElem_mem ht
  ·rw[Tri.get_lf];exact .inr (Jj (by simp[Go.undef,af]))
 ·have hk:ro=some k:=hk;subst hk;exact YL e3
 ·have:=List.all_eq_true.1 e5 _ (eP ho);simp only[Bool.or_eq_true]at this;rcases this with h1|h1
  ·exact rA hx h1 ho
  ·exact By h1
end
end Go.CE

namespace Go.CE
open Go Go.RowKit Go.ChangeShapes Go.WideShapes

inductive Sh where
 |int|bool|str|unit
 |pair (a b:Sh)
 |struct (f:Sh)
 |slice (e:Sh)
def Sh.sz:Sh->Nat
 | .unit=>0
 | .pair a b=>a.sz+b.sz
 | .struct f=>f.sz
 |_=>1
def Sh.ok:Sh->List Value->Prop
 | .int,cs=> ∃z:Int,(-9223372036854775808<=z/\z<=9223372036854775807)/\cs=[.int .i64 z]
 | .bool,cs=> ∃b,cs=[.bool b]
 | .str,cs=> ∃s:ByteArray,s.size<=maxLen/\cs=[.string s]
 | .unit,cs=>cs=[]
 | .pair a b,cs=> ∃x y,cs=x++y/\a.ok x/\b.ok y
 | .struct f,cs=>f.ok cs
 | .slice e,cs=> ∃(n:Nat) (r:Nat->List Value),(∀k,e.ok (r k)\/n<=k)/\(∀k,(r k).length=e.sz)/\cs=[Xq n (Qj r (Lv n))]
theorem Sh.ok_sz:∀(s:Sh) (cs:List Value),s.ok cs->cs.length=s.sz
 | .int,cs,⟨z,_,h⟩=>by rw[h];rfl
 | .bool,cs,⟨z,h⟩=>by rw[h];rfl
 | .str,cs,⟨z,_,h⟩=>by rw[h];rfl
 | .unit,cs,h=>by rw[show cs=[]from h];rfl
 | .pair a b,cs,⟨x,y,h,hx,hy⟩=>by rw[h,List.length_append,Sh.ok_sz a x hx,Sh.ok_sz b y hy];rfl
 | .struct f,cs,h=>Sh.ok_sz f cs h
 | .slice e,cs,⟨n,r,_,_,h⟩=>by rw[h];rfl
def Sh.chk(P:Program):Sh->Option (List Field×Nat)->TypeId->Bool
 | .int,none,t=>match P.underlying t with|some (.int .i64)=>true|_=>false
 | .bool,none,t=>match P.underlying t with|some .bool=>true|_=>false
 | .str,none,t=>match P.underlying t with|some .string=>true|_=>false
 | .struct f,none,t=>match P.underlying t with|some (.struct fs)=>f.chk P (some (fs.toList,0)) t|_=>false
 | .slice e,none,t=>match P.underlying t with|some (.slice u)=>Lp 0 e.sz && e.chk P none u|_=>false
 | .unit,some ([],off),t=>Lg off (P.cellsOf t)
 | .pair a b,some (f::fs,off),t=>Lg f.offset off && (a.chk P none f.type && (Lg (P.cellsOf f.type) a.sz && b.chk P (some (fs,off+P.cellsOf f.type)) t))
 |_,_,_=>false
def TRl(fm:Nat->Option Obj)(ts cs:List Value):Prop:=ts.length=cs.length/\∀(i:Nat) v v',ts[i]? =some v->cs[i]? =some v'->TRv fm v v'
theorem TRl.nil{fm:Nat->Option Obj}:TRl fm [] []:=⟨rfl,fun i v v' h=>by simp at h⟩
theorem TRl.one{fm:Nat->Option Obj}{t v:Value}(h:TRv fm t v):TRl fm [t] [v]:=⟨rfl,fun i a b ha hb=>by
 cases i with
 |zero=>simp at ha hb;subst ha hb;exact h
 |succ i=>simp at ha⟩
theorem TRl.append{fm:Nat->Option Obj}{a b c d:List Value}(h:TRl fm a b)(k:TRl fm c d):TRl fm (a++c) (b++d):=⟨by simp[h.1,k.1],fun i v v' x y=>by
 rcases LA i a.length with hi|hi
 ·rw[Lt hi]at x;rw[Lt (by rw[<-h.1];exact hi)]at y;exact h.2 i v v' x y
 ·rw[Lj hi]at x;rw[Lj (by rw[<-h.1];exact hi)]at y;exact k.2 _ v v' x (by rw[h.1];exact y)⟩
def allM(w:World)(b:Nat):Option Obj:=w.heap[b]?
section
variable {P:Program} {H:Type} {enc:TypeId×Value->H} {w:World} {held:Bool}
theorem uX{a:Addr}{v:Value}(h:w.cell? a=some v):∃b o arr t fl,a=⟨b,o,none⟩/\w.heap[b]? =some (.cells arr t fl)/\arr[o]? =some v:=by
 obtain⟨b,o,s⟩:=a;unfold World.cell? at h;split at h
 ·rename_i c t fl hb;cases s with
  |some _=>simp at h
  |none=>exact⟨b,o,c,t,fl,rfl,hb,by simpa using h⟩
 ·cases h
theorem lP{b o j:Nat}:(⟨b,o,none⟩:Addr).add j=⟨b,o+j,none⟩:=by
 unfold Addr.add;split <;> simp_all
theorem lB{e:Nat->List Value}{z n:Nat}(h:∀k,(e k).length=z){i:Nat}{v:Value}(hv:(Qj e (Lv n))[i]? =some v):∃k j,k<n/\j<z/\i=k*z+j/\(e k)[j]? =some v:=by
 have Xu:i<n*z:=by
  have:=(Array.getElem?_eq_some_iff.1 hv).1;rw[Z6 h]at this;simpa using this
 have hz:0<z:=by
  rcases Nat.eq_zero_or_pos z with rfl|h
  ·omega
  ·exact h
 have hk:i / z<n:=Nat.div_lt_of_lt_mul (by rwa[Nat.mul_comm]at Xu);have hj:i % z<z:=Nat.mod_lt _ hz;have hi:i=i / z*z+i % z:=by
  have:=Nat.div_add_mod i z;rw[Nat.mul_comm]at this;omega
 refine⟨i / z,i % z,hk,hj,hi, ?_⟩;have:=Ty (e:=e) (xs:=Lv n) h (k:=i / z) (j:=i % z) (by simpa using hk) hj;rw[<-hi,hv]at this;rw[this];simp[Ld,hk]
theorem Ct:∀(s:Sh) (fuel:Nat) (t:TypeId) (cs:List Value) (x:DataW H×List MemPlace),s.chk P none t=true->DataW.trod enc P w 0 (fun _=>true) held fuel t cs=some x->∃ts,s.ok ts/\TRl (allM w) ts cs:=by
 intro s
 -- for fields, too
 have key:(∀(fuel:Nat) (t:TypeId) (cs:List Value) (x:DataW H×List MemPlace),s.chk P none t=true->DataW.trod enc P w 0 (fun _=>true) held fuel t cs=some x->∃ts,s.ok ts/\TRl (allM w) ts cs)/\
  (∀(fl:List Field) (off:Nat) (t:TypeId) (cs:List Value),s.chk P (some (fl,off)) t=true->cs.length=P.cellsOf t->(∀f∈fl,∃fuel x,DataW.trod enc P w 0 (fun _=>true) held fuel f.type ((cs.drop f.offset).take (P.cellsOf f.type))=some x)->∃ts,s.ok ts/\TRl (allM w) ts (cs.drop off)):=by
  induction s with
  |int=>
   refine⟨fun fuel t cs x hc h=> ?_,fun fl off t cs hc=>by simp[Sh.chk]at hc⟩;simp only[Sh.chk]at hc;split at hc
   ·rename_i ht;obtain⟨n,rfl,_,hw⟩:=DataW.trod_int ht h;simp only[Lit.wf,YB,decide_eq_true_eq]at hw;exact⟨_,⟨n,⟨hw.1,hw.2⟩,rfl⟩,TRl.one (.simple rfl)⟩
   ·cases hc
  |bool=>
   refine⟨fun fuel t cs x hc h=> ?_,fun fl off t cs hc=>by simp[Sh.chk]at hc⟩;simp only[Sh.chk]at hc;split at hc
   ·rename_i ht;obtain⟨b,rfl,_⟩:=DataW.trod_bool ht h;exact⟨_,⟨b,rfl⟩,TRl.one (.simple rfl)⟩
   ·cases hc
  |str=>
   refine⟨fun fuel t cs x hc h=> ?_,fun fl off t cs hc=>by simp[Sh.chk]at hc⟩;simp only[Sh.chk]at hc;split at hc
   ·rename_i ht;obtain⟨b,rfl,_,hl⟩:=DataW.trod_string ht h;exact⟨_,⟨b,hl,rfl⟩,TRl.one (.simple rfl)⟩
   ·cases hc
  |unit=>
   refine⟨fun fuel t cs x hc h=>by simp[Sh.chk]at hc,fun fl off t cs hc hl hf=> ?_⟩;cases fl with
   |nil=>
    simp only[Sh.chk]at hc;have:=YE hc;refine⟨[],rfl, ?_⟩;rw[List.drop_eq_nil_of_le (by omega)];exact TRl.nil
   |cons f fl=>simp[Sh.chk]at hc
  |pair a b iha ihb=>
   refine⟨fun fuel t cs x hc h=>by simp[Sh.chk]at hc,fun fl off t cs hc hl hf=> ?_⟩;cases fl with
   |nil=>simp[Sh.chk]at hc
   |cons f fl=>
    simp only[Sh.chk,YB]at hc;obtain⟨h1,h2,h3,h4⟩:=hc;have h1:=YE h1;have h3:=YE h3;subst h1;obtain⟨fuel,x,hx⟩:=hf f (by simp);obtain⟨ta,oa,ra⟩:=iha.1 fuel f.type _ x h2 hx;obtain⟨tb,ob,rb⟩:=ihb.2 fl _ t cs h4 hl (fun g hg=>hf g (by simp[hg]));refine⟨ta++tb,⟨ta,tb,rfl,oa,ob⟩, ?_⟩;have:cs.drop f.offset=(cs.drop f.offset).take (P.cellsOf f.type)++cs.drop (f.offset+P.cellsOf f.type):=by
     rw[<-List.drop_drop,List.take_append_drop]
    rw[this];exact ra.append rb
  |struct f ih=>
   refine⟨fun fuel t cs x hc h=> ?_,fun fl off t cs hc=>by simp[Sh.chk]at hc⟩;simp only[Sh.chk]at hc;split at hc
   ·rename_i fs ht;obtain⟨xs,n,_,_,hl,hlen,hg⟩:=DataW.trod_struct ht h;obtain⟨ts,h1,h2⟩:=ih.2 fs.toList 0 t cs hc hl fun g hg'=>by
     obtain⟨i,hi⟩:=List.getElem?_of_mem hg';have hi':fs[i]? =some g:=by simpa using hi
     have:=hg i g hi';have Xu:i<xs.length:=by
      have:=(Array.getElem?_eq_some_iff.1 hi').1;omega
     rw[LP Xu]at this;exact⟨n,_,this⟩
    exact⟨ts,h1,by simpa using h2⟩
   ·cases hc
  |slice e ih=>
   refine⟨fun fuel t cs x hc h=> ?_,fun fl off t cs hc=>by simp[Sh.chk]at hc⟩;simp only[Sh.chk]at hc;split at hc
   ·rename_i u ht;simp only[YB]at hc;obtain⟨hz,hc⟩:=hc;have hz:0<e.sz:=YL hz;rcases Deep.open_slice ht h with ⟨rfl,_⟩|⟨a,len,cap,m,n',D,Pl,rfl,_,hl,hm,hmm,_,hi⟩
    ·exact⟨_,⟨0,fun _=>Li e.sz undef,fun k=>.inr (Nat.zero_le _),fun k=>by simp,rfl⟩,TRl.one .nil⟩
    ·simp only[if_true]at hmm;subst hmm;have each:∀k,∃r:List Value,(k<len->e.ok r/\(∀j,j<P.cellsOf u->w.cell? (a.add (k*P.cellsOf u+j))=none->False)/\∀(j:Nat) v v',r[j]? =some v->w.cell? (a.add (k*P.cellsOf u+j))=some v'->TRv (allM w) v v')/\r.length=e.sz/\(k<len->e.sz=P.cellsOf u):=by
      intro k;by_cases hk:k<len
      ·obtain⟨cs',hc',ht'⟩:=hi k (by omega);obtain⟨ts,ho,hr⟩:=ih.1 n' u cs' _ hc ht';obtain⟨_,hln,hat⟩:=World.cells?_some hc';have Xy:e.sz=P.cellsOf u:=by rw[<-Sh.ok_sz e ts ho,hr.1,hln]
       refine⟨ts,fun _=>⟨ho,fun j hj hnone=> ?_,fun j v v' hv ZK=> ?_⟩,Sh.ok_sz e ts ho,fun _=>Xy⟩
       ·have:=hat j hj;rw[Deep.add_add,hnone,LP (by omega)]at this;cases this
       ·have hj:j<ts.length:=(List.getElem?_eq_some_iff.1 hv).1;have:=hat j (by rw[hr.1,hln]at hj;exact hj);rw[Deep.add_add,ZK]at this;exact hr.2 j v v' hv this.symm
      ·exact⟨Li e.sz undef,fun h=>absurd h hk,by simp,fun h=>absurd h hk⟩
     refine⟨_,⟨len,fun k=>Classical.choose (each k),fun k=> ?_,fun k=>(Classical.choose_spec (each k)).2.1,rfl⟩,TRl.one ?_⟩
     ·by_cases hk:k<len
      ·exact .inl ((Classical.choose_spec (each k)).1 hk).1
      ·exact .inr (by omega)
     ·generalize hr:(fun k=>Classical.choose (each k))=r;have hr1:∀k,k<len->e.ok (r k)/\(∀j,j<P.cellsOf u->w.cell? (a.add (k*P.cellsOf u+j))=none->False)/\∀(j:Nat) v v',(r k)[j]? =some v->w.cell? (a.add (k*P.cellsOf u+j))=some v'->TRv (allM w) v v':=fun k hk=>by rw[<-hr];exact(Classical.choose_spec (each k)).1 hk
      have hr2:∀k,(r k).length=e.sz:=fun k=>by rw[<-hr];exact(Classical.choose_spec (each k)).2.1
      have hr3:∀k,k<len->e.sz=P.cellsOf u:=fun k hk=>(Classical.choose_spec (each k)).2.2 hk
      rcases Nat.eq_zero_or_pos len with rfl|hpos
      ·have:Qj r (Lv 0)=#[]:=rfl;rw[this];exact .empty hm
      ·have Xy:=hr3 0 hpos;have hex:∃v,w.cell? a=some v:=by
        have:=(hr1 0 hpos).2.1 0 (by omega);have ea:a.add (0*P.cellsOf u+0)=a:=by simp[Addr.add]
        rw[ea]at this;cases hq:w.cell? a with
        |none=>exact absurd hq this
        |some v=>exact⟨v,rfl⟩
       obtain⟨v0,hv0⟩:=hex;obtain⟨b,o,arr,ty,fl,rfl,hb,_⟩:=uX hv0;have cellE:∀i,w.cell? ⟨b,o+i,none⟩=arr[o+i]? :=fun i=>by simp[World.cell?,hb]
       refine TRv.slice (o:=o) hl hm hb (fun i hi'=> ?_) fun i v v' hv ZK=> ?_
       ·obtain⟨k,j,hk,hj,rfl,_⟩:=lB hr2 (i:=i) (v:=(Qj r (Lv len))[i]) (Array.getElem?_eq_getElem hi');have:=(hr1 k hk).2.1 j (by omega);rw[lP,<-Xy,cellE]at this;rcases LA (o+(k*e.sz+j)) arr.size with h1|h1
        ·exact h1
        ·exact absurd (Array.getElem?_eq_none h1) this
       ·obtain⟨k,j,hk,hj,rfl,hkj⟩:=lB hr2 hv;refine(hr1 k hk).2.2 j v v' hkj ?_;rw[lP,<-Xy,cellE];exact ZK
   ·cases hc
 exact key.1
def Sh.arg:Sh->Value->Prop
 | .struct f,v=> ∃cs,v=.agg cs.toArray/\f.ok cs
 |s,v=>s.ok [v]
def ov:List Sh->List Value->Prop
 |[],l=>l=[]
 |s::ss,l=> ∃t ts,l=t::ts/\s.arg t/\ov ss ts
theorem zT{s:Sh}{t:TypeId}{v:Value}{d:DataW H}{ps:List MemPlace}{r:Reach}{b0:Nat}(hc:s.chk P none t=true)(hv:Value.okWide P w r b0 t v)(h:DataW.Trod enc P w 0 (fun _=>true) held t v d ps):∃tr,s.arg tr/\TRv (allM w) tr v:=by
 obtain⟨fuel,hf⟩:=h;obtain⟨ts,ho,hr⟩:=Ct s fuel t _ _ hc hf;have one:v.cells=#[v]->s.ok ts->(∀f,s≠.struct f)->∃tr,s.arg tr/\TRv (allM w) tr v:=fun hv1 ho hs=>by
  rw[hv1]at hr;match ts,hr,ho with
  |[tr],hr,ho=>
   refine⟨tr, ?_,hr.2 0 tr v rfl rfl⟩;cases s <;> first|exact ho|exact absurd rfl (hs _)
  |[],hr,_=>have:=hr.1;simp at this
  |_::_::_,hr,_=>have:=hr.1;simp at this
 cases s with
 |int=>
  simp only[Sh.chk]at hc;split at hc
  ·rename_i ht;obtain⟨n,rfl⟩:=okWide_int ht hv;exact one rfl ho fun f h=>by cases h
  ·cases hc
 |bool=>
  simp only[Sh.chk]at hc;split at hc
  ·rename_i ht;obtain⟨n,rfl⟩:=okWide_bool ht hv;exact one rfl ho fun f h=>by cases h
  ·cases hc
 |str=>
  simp only[Sh.chk]at hc;split at hc
  ·rename_i ht;obtain⟨n,rfl⟩:=okWide_string ht hv;exact one rfl ho fun f h=>by cases h
  ·cases hc
 |unit=>simp[Sh.chk]at hc
 |pair a b=>simp[Sh.chk]at hc
 |struct f=>
  simp only[Sh.chk]at hc;split at hc
  ·rename_i fs ht;obtain⟨cs,rfl,_⟩:=okWide_struct ht hv;refine⟨.agg ts.toArray,⟨ts,rfl,ho⟩,.agg ?_ fun i v v' h1 h2=> ?_⟩
   ·have:=hr.1;simpa[Value.cells]using this
   ·exact hr.2 i v v' (by simpa using h1) (by simpa[Value.cells]using h2)
  ·cases hc
 |slice e=>
  simp only[Sh.chk]at hc;split at hc
  ·rename_i u ht;obtain⟨a,l,c,rfl⟩:=okWide_slice ht hv;exact one rfl ho fun f h=>by cases h
  ·cases hc
def SX(P:Program):List Sh->List TypeId->Bool
 |[],[]=>true
 |s::ss,t::ts=>s.chk P none t && SX P ss ts
 |_,_=>false
theorem trodAll_cons{t:TypeId}{ts:List TypeId}{vs:List Value}{ds:List (DataW H)}{ps:List MemPlace}{base:Nat}{spare:Nat->Bool}(h:DataW.TrodAll enc P w base spare held (t::ts) vs ds ps):
 ∃v vs' d ds' p q,vs=v::vs'/\ds=d::ds'/\DataW.Trod enc P w base spare held t v d p/\DataW.TrodAll enc P w base spare held ts vs' ds' q/\ps=p++q:=by
 cases vs with
 |nil=>cases ds <;> simp[DataW.TrodAll]at h
 |cons v vs=>
  cases ds with
  |nil=>simp[DataW.TrodAll]at h
  |cons d ds=>
   simp only[DataW.TrodAll]at h;obtain⟨p,q,h1,h2,h3⟩:=h;exact⟨v,vs,d,ds,p,q,rfl,rfl,h1,h2,h3⟩
theorem trodAll_nil{vs:List Value}{ds:List (DataW H)}{ps:List MemPlace}{base:Nat}{spare:Nat->Bool}(h:DataW.TrodAll enc P w base spare held [] vs ds ps):vs=[]/\ds=[]/\ps=[]:=by
 cases vs <;> cases ds <;> simp[DataW.TrodAll]at h
 exact⟨rfl,rfl,h⟩
theorem DB:∀(ss:List Sh) (ts:List TypeId) (vs:List Value) (ds:List (DataW H)) (ps:List MemPlace) (r:Reach) (b0:Nat),SX P ss ts=true->DataW.TrodAll enc P w 0 (fun _=>true) held ts vs ds ps->
 (∀(j:Nat) t v,ts[j]? =some t->vs[j]? =some v->Value.okWide P w r b0 t v)->∃trs,ov ss trs/\TRl (allM w) trs vs
 |[],[],vs,ds,ps,r,b0,_,h,_=>by
  obtain⟨rfl,_,_⟩:=trodAll_nil h;exact⟨[],rfl,TRl.nil⟩
 |s::ss,t::ts,vs,ds,ps,r,b0,hc,h,hv=>by
  simp only[SX,YB]at hc;obtain⟨v,vs',d,ds',p,q,rfl,rfl,h1,h2,rfl⟩:=trodAll_cons h;obtain⟨tr,ha,hr⟩:=zT hc.1 (hv 0 t v rfl rfl) h1;obtain⟨trs,ha2,hr2⟩:=DB ss ts vs' ds' q r b0 hc.2 h2 fun j t v h1 h2=>hv (j+1) t v (by simpa using h1) (by simpa using h2)
  exact⟨tr::trs,⟨tr,trs,rfl,ha,ha2⟩,(TRl.one hr).append hr2⟩
 |[],_::_,_,_,_,_,_,hc,_,_=>by simp[SX]at hc
 |_::_,[],_,_,_,_,_,hc,_,_=>by simp[SX]at hc
theorem Bz{J:World->Prop}{f:FuncId}{ss:List Sh}{ts:List TypeId}{args:Array Value}{ds:List (DataW H)}{ps:List MemPlace}{r:Reach}{b0:Nat}(hJ:J w)(hc:SX P ss ts=true)(h:DataW.TrodAll enc P w 0 (fun _=>true) held ts args.toList ds ps)
 (hv:∀(j:Nat) t v,ts[j]? =some t->args[j]? =some v->Value.okWide P w r b0 t v) (walk:∀trs,ov ss trs->Qz P J f trs.toArray (.bool true)):Calls P f args w fun e w'=>e=.returned (.bool true)/\Below w.heap.size w w':=by
 obtain⟨trs,ha,hr⟩:=DB ss ts args.toList ds ps r b0 hc h fun j t v h1 h2=>hv j t v h1 (by simpa using h2)
 refine(walk trs ha (allM w) w args hJ (fun b x h=>h) ⟨by simpa using hr.1,fun i v v' h1 h2=>hr.2 i v v' (by simpa using h1) (by simpa using h2)⟩).mono fun e w' ⟨v',he,hb,ht⟩=>⟨?_,hb⟩
 rw[he,TRv.simple_eq rfl ht]
theorem Sv(hl:laidOutB P=true){W W':World}(hb:Below W.heap.size W W'):∀(ts:List TypeId) (vs:List Value) (ds:List (DataW H)) (ps:List MemPlace),(ts.all fun t=>P.readableRec t && decide (t<P.types.size))=true->DataW.TrodAll enc P W 0 (fun _=>true) true ts vs ds ps->(∀x∈ps,x.block<W.heap.size)->
 DataW.TrodAll enc P W' 0 (fun b=>decide (b<W.heap.size)) true ts vs ds ps
 |[],vs,ds,ps,_,h,_=>by
  obtain⟨rfl,rfl,rfl⟩:=trodAll_nil h;exact rfl
 |t::ts,vs,ds,ps,ha,h,Xu=>by
  simp only[List.all_cons,YB,decide_eq_true_eq]at ha;obtain⟨v,vs',d,ds',p,q,rfl,rfl,h1,h2,rfl⟩:=trodAll_cons h;exact⟨p,q,Below.trod hl ha.1.1 ha.1.2 h1 hb fun x hx=>Xu x (Lk _ hx),Sv hl hb ts vs' ds' q ha.2 h2 fun x hx=>Xu x (Lr _ hx),rfl⟩
theorem C0{α:Type}{s:Sh}{e:α->List Value}(dec:∀cs,s.ok cs->∃x,cs=e x){n:Nat}{r:Nat->List Value}(h:∀k,s.ok (r k)\/n<=k):∃xs:List α,xs.length=n/\Qj r (Lv n)=Qj e xs:=by
 induction n with
 |zero=>exact⟨[],rfl,rfl⟩
 |succ n ih=>
  obtain⟨xs,hl,hx⟩:=ih fun k=>(h k).imp id fun h=>by omega
  obtain⟨x,hxe⟩:=dec (r n) ((h n).resolve_right (by omega));refine⟨xs++[x],by simp[hl], ?_⟩;unfold Qj at hx ⊢;rw[List.range_succ,List.flatMap_append,List.flatMap_append];have:(Lv n).flatMap r=xs.flatMap e:=by simpa using hx
  rw[this];simp[hxe]
theorem oI{α:Type}{s:Sh}{e:α->List Value}(dec:∀cs,s.ok cs->∃x,cs=e x){cs:List Value}(h:Sh.ok (.slice s) cs):∃xs:List α,cs=[Xq xs.length (Qj e xs)]:=by
 obtain⟨n,r,h1,_,rfl⟩:=h;obtain⟨xs,rfl,hx⟩:=C0 dec h1;exact⟨xs,by rw[hx]⟩
theorem Ec{cs:List Value}(h:Sh.ok .int cs):∃z:Int,cs=Xl z:=by
 obtain⟨z,_,rfl⟩:=h;exact⟨z,rfl⟩
def Sh.zero:Sh->List Value
 | .int=>[.int .i64 0]
 | .bool=>[.bool false]
 | .str=>[.string ⟨#[]⟩]
 | .unit=>[]
 | .pair a b=>a.zero++b.zero
 | .struct f=>f.zero
 | .slice _=>[.slice none 0 0]
def Sh.zeroA:Sh->Value
 | .struct f=>.agg f.zero.toArray
 |s=>s.zero.headD undef
def FM(l:List Sh):Sh:=.struct (l.foldr .pair .unit)
end
end Go.CE

namespace Go.CE
open Go Go.RowKit

def Fs(T:Tm):Tm:=ofList T.len ((Lv T.len).map (Zc T))
structure Gn where
 c:CF
 H:Q0
 n:Nat
 g:FuncId
 args:Array Value
 R:List Nat
 W:List Nat
noncomputable def Ga(P:Program)(F:FuncId->Bool)(c1:CF)(H:Q0)(n:Nat):Option Gn:=
 match c1.mode,c1.todo,c1.defers,c1.roundOf with
 | .run,.code (.region _ ops false)::todo,[],none=>match oF P F X3 0 ops c1 H n with
   |some s=>match s.o.op,s.post with
    | .defer c,[]=>match c.callee with
      | .value x=>match Zd s.T x with
        |some (.func (.func g) xs ys)=>bif c.args.isEmpty && F g && LI s.T.len 16000 then some ⟨⟨c1.fn,Fs (Va s.T s.o.dst undef),todo,[],.run,none⟩,s.H,s.n,g,xs++ys,UB s.Q6,Vl s.Q6⟩else none
        |_=>none
      |_=>none
    |_,_=>none
   |none=>none
 |_,_,_,_=>none
section
variable {P:Program} {F:FuncId->Bool} {J:World->Prop} {B:Lo} {c0 c:CF} {Hb H:Q0} {a n:Nat} {W Wf:List Nat}
end
def Zv(n:Int):Nat:=2 ^ n.toNat
def Ss(a n:Int):Nat:=a.toNat >>> n.toNat
def og(a b:Int):Nat:=a.toNat &&& b.toNat
theorem JJ{n:Int}(h1:n<=62):Zv n<=4611686018427387904:=by unfold Zv;exact Nat.le_trans (Nat.pow_le_pow_right (by decide) (show n.toNat<=62 by omega)) (by decide)
theorem Cz{a n:Int}:Ss a n<=a.toNat:=by unfold Ss;rw[Nat.shiftRight_eq_div_pow];exact Nat.div_le_self _ _
theorem Cd{n:Int}(h1:n<=62):(2:Nat) ^ n.toNat<=2 ^ 62:=Nat.pow_le_pow_right (by decide) (by omega)
theorem Cg{P:Program}{t:TypeId}{yk:IntKind}{n:Int}(h0:0<=n)(h1:n<=62):kA P .shl t (.int .i64 1) (.int yk n) (.int .i64 ((Zv n:Nat):Int)):=fun x y w=>by
 unfold Zv;have e:min n.toNat (IntKind.bits IntKind.i64)=n.toNat:=Nat.min_eq_left (by show n.toNat<=64;omega);have hp:=Cd h1;have e2:(2:Int) ^ n.toNat=((2 ^ n.toNat:Nat):Int):=by rw[Int.natCast_pow];rfl
 have e3:IntKind.wrap IntKind.i64 (1*2 ^ min n.toNat (IntKind.bits IntKind.i64))=((2 ^ n.toNat:Nat):Int):=by
  rw[e,Int.one_mul,e2];generalize 2 ^ n.toNat=z at *;exact PS (by omega) (by omega)
 have hn:¬n<0:=by omega
 simp only[eqGuard,binOp,Op.shift,hn,if_false,e3];simp
theorem D4{P:Program}{t:TypeId}{yk:IntKind}{a n:Int}(ha:0<=a)(h0:0<=n)(h1:n<=62):kA P .shr t (.int .i64 a) (.int yk n) (.int .i64 ((Ss a n:Nat):Int)):=fun x y w=>by
 unfold Ss;obtain⟨b,rfl⟩:∃b:Nat,a=b:=⟨a.toNat,by omega⟩
 have e:min n.toNat (IntKind.bits IntKind.i64)=n.toNat:=Nat.min_eq_left (by show n.toNat<=64;omega);have e3:Int.fdiv (b:Int) (2 ^ min n.toNat (IntKind.bits IntKind.i64))=((((b:Int)).toNat >>> n.toNat:Nat):Int):=by
  rw[e,Int.fdiv_eq_ediv_of_nonneg _ (Int.le_of_lt (Int.pow_pos (by decide))),Int.toNat_natCast,Nat.shiftRight_eq_div_pow,Int.natCast_ediv,Int.natCast_pow];rfl
 have hn:¬n<0:=by omega
 simp only[eqGuard,binOp,Op.shift,hn,if_false,e3];simp
theorem me{a:Int}(ha:0<=a):BitVec.ofInt (IntKind.bits IntKind.i64) a=BitVec.ofNat 64 a.toNat:=by
 obtain⟨b,rfl⟩:∃b:Nat,a=b:=⟨a.toNat,by omega⟩
 rw[Int.toNat_natCast];exact BitVec.ofInt_natCast 64 b
theorem D5{P:Program}{t:TypeId}{a b:Int}(ha:0<=a)(ha2:a<=9223372036854775807)(hb:0<=b)(hb2:b<=9223372036854775807):kA P .and t (.int .i64 a) (.int .i64 b) (.int .i64 ((og a b:Nat):Int)):=fun x y w=>by
 unfold og;have e:IntKind.wrap IntKind.i64 ((BitVec.toNat (BitVec.ofInt (IntKind.bits IntKind.i64) a &&& BitVec.ofInt (IntKind.bits IntKind.i64) b):Nat):Int)=((a.toNat &&& b.toNat:Nat):Int):=by
  rw[me ha,me hb];have e3:BitVec.toNat (BitVec.ofNat 64 a.toNat &&& BitVec.ofNat 64 b.toNat)=a.toNat &&& b.toNat:=by
   rw[BitVec.toNat_and,BitVec.toNat_ofNat,BitVec.toNat_ofNat,Nat.mod_eq_of_lt (a:=a.toNat) (by omega),Nat.mod_eq_of_lt (a:=b.toNat) (by omega)]
  show IntKind.wrap IntKind.i64 ((BitVec.toNat (BitVec.ofNat 64 a.toNat &&& BitVec.ofNat 64 b.toNat):Nat):Int)=_;rw[e3];have:=Nat.and_le_left (n:=a.toNat) (m:=b.toNat);exact PS (by omega) (by omega)
 simp only[eqGuard,binOp,Op.intBits,ne_eq,not_true_eq_false,if_false,e];simp
def pushE{α:Type}(m:Nat)(e:α->List Value)(x:α):List Value:=(e x).map (Zl m)
def sd{α:Type}(e:α->List Value):Prop:=∀x,∀v∈e x,simple v=true\/ZX v=true
section
variable {α:Type} {e:α->List Value} {m r j z:Nat} {rs:List (Nat×Nat)} {UY:List (Nat×Array Value)} {ow:List (Nat×Nat)} {xs:List α} {rsT:List Nat}
theorem Pp(h:∀x,(e x).all (fun v=>simple v || ZX v)=true):sd e:=fun x v hv=>by
 have:=List.all_eq_true.1 (h x) v hv;simpa using this
theorem Ys(v:Value)(h:simple v=true\/ZX v=true):(simple v=true/\Zl m v=v)\/(ZX v=true/\Zl m v=QF m v):=by
 unfold Zl;cases hs:simple v with
 |true=>exact .inl ⟨rfl,rfl⟩
 |false=>rw[hs]at h;exact .inr ⟨by simpa using h,rfl⟩
theorem uW(he:sd e)(hm:(r,j)∈rs)(x:α):AllX m rs UY ow (pushE r e x) (pushE j e x):=by
 have key:∀l:List Value,(∀v∈l,simple v=true\/ZX v=true)->AllX m rs UY ow (l.map (Zl r)) (l.map (Zl j)):=by
  intro l;induction l with
  |nil=>intro _;trivial
  |cons v l ih=>
   intro h;refine⟨?_,ih fun u hu=>h u (Ls _ hu)⟩;show dN m rs UY ow (Zl r v) (Zl j v);rcases Ys (m:=r) v (h v (by simp))with ⟨a,b⟩|⟨a,b⟩ <;> rcases Ys (m:=j) v (h v (by simp))with ⟨c,d⟩|⟨c,d⟩
   ·rw[b,d];exact .simple a
   ·rw[b];unfold Zl;rw[a];exact .simple a
   ·rw[d];unfold Zl;rw[c];exact .simple c
   ·rw[b,d];exact .K8 hm a
 exact key _ (he x)
theorem uF{e1 e2:α->List Value}(h:∀x,AllX m rs UY ow (e1 x) (e2 x)):ZO m rs UY ow (Qj e1 xs) (Qj e2 xs):=by
 unfold ZO Qj;simp only;induction xs with
 |nil=>trivial
 |cons x xs ih=>simp only[List.flatMap_cons];exact(h x).append ih
theorem K5(he:sd e)(hm:(r,j)∈rs):ZO m rs UY ow (Qj (pushE r e) xs) (Qj (pushE j e) xs):=uF (uW he hm)
theorem uG{vs:List Value}{x:α}(h:AllX m rs UY ow vs (e x)):∀k:Nat,ZO m rs UY ow (Qj (fun(_:α)=>vs) (Li k x)) (Qj e (Li k x))
 |0=>trivial
 |k+1=>by
  unfold ZO Qj;simp only[List.replicate_succ,List.flatMap_cons];exact h.append (uG h k)
theorem nN(he:sd e)(hm:m∈rsT):QC rsT (Qj (pushE m e) xs) (Qj e xs):=by
 have key:∀l:List Value,(∀v∈l,simple v=true\/ZX v=true)->∀(i:Nat) v v1,(l.map (Zl m))[i]? =some v->l[i]? =some v1->k8 rsT v v1:=by
  intro l h i v v1 h1 h2;rw[Lx,h2]at h1;simp only[LC,YO]at h1;subst h1;rcases Ys (m:=m) v1 (h v1 (Lm h2))with ⟨a,b⟩|⟨a,b⟩
  ·exact .inl ⟨by rw[b];exact a,b.symm⟩
  ·exact .inr ⟨m,hm,b,a⟩
 have e0:Qj (pushE m e) xs=((xs.flatMap e).map (Zl m)).toArray:=by
  unfold Qj pushE;rw[List.map_flatMap]
 refine⟨by rw[e0];simp[Qj],fun i v v1 h1 h2=> ?_⟩;rw[e0]at h1;refine key (xs.flatMap e) (fun v hv=> ?_) i v v1 (by simpa using h1) (by simpa[Qj]using h2);obtain⟨x,_,hx⟩:=List.mem_flatMap.1 hv;exact he x v hx
theorem E3{a:Nat}{t:TypeId}{fl:Nat×Nat}(he:sd e)(hm:m<a):va a (.cells (Qj (pushE m e) xs) t fl):=fun i v hv=>by
 have:v∈Qj (pushE m e) xs:=LD hv;simp only[Qj,List.mem_toArray,List.mem_flatMap,pushE,List.mem_map]at this;obtain⟨x,_,u,hu,rfl⟩:=this;rcases Ys (m:=m) u (he x u hu)with ⟨h1,h2⟩|⟨h1,h2⟩
 ·rw[h2];exact .inl (fU h1)
 ·rw[h2];refine .inl ?_;show UL a (QF m u)=true;have:Lp m a=true:=LH hm;unfold UL;rw[show simple (QF m u)=false from rfl,Bool.false_or];exact this
end
def VD(zs:List Value)(_:Unit):List Value:=zs
theorem yX{zc:Array Value}{z n:Nat}(hz:zc.size=z)(h0:0<z):madeCells zc (n*z)=Qj (VD zc.toList) (Li n ()):=by
 have hl:∀x,(VD zc.toList x).length=z:=fun x=>by simp[VD,hz]
 refine Array.ext_getElem? fun i=> ?_
 by_cases hi:i<n*z
 ·have hk:i / z<n:=(Nat.div_lt_iff_lt_mul h0).2 hi;have hj:i % z<z:=Nat.mod_lt _ h0;have e:i / z*z+i % z=i:=by rw[Nat.mul_comm];exact Nat.div_add_mod i z
  have:=Ty (e:=VD zc.toList) (xs:=Li n ()) hl (k:=i / z) (j:=i % z) (by simpa using hk) hj;rw[e]at this;rw[this];have hj':i % z<zc.size:=by rw[hz];exact hj
  simp only[madeCells,Array.getElem?_map,Array.getElem?_range,hi,if_true,LC,hz,VD];simp[hj']
 ·have a:(madeCells zc (n*z)).size=n*z:=size_madeCells _ _;have b:(Qj (VD zc.toList) (Li n ())).size=n*z:=by rw[Z6 hl];simp
  rw[Array.getElem?_eq_none (by omega),Array.getElem?_eq_none (by omega)]
def Fv(P:Program)(t e z bytes:Nat)(zs:List Value):Bool:=match YF P t with
 |some (.slice e')=>Lg e' e && match inf P e with
  |some i=>match i.zero with
   |some zv=>Lg i.size z && (Lg i.bytes bytes && (Lp 0 z && (Lg zv.cells.size z && (BJ (zq 2) zv.cells.toList zs && zs.all simple))))
   |none=>false
  |none=>false
 |_=>false
theorem cE{P:Program}{t e z bytes:Nat}{zs:List Value}(h:Fv P t e z bytes zs=true){l:Int}{k k':IntKind}(h0:0<=l)(hb:bytes*l<=281474976710656)(hn:l<=9223372036854775807):
 Jx P t (.int k l) (.int k' l)=some (e,Qj (VD zs) (Li l.toNat ()),l.toNat,z):=by
 unfold Fv at h;split at h
 ·rename_i e' hu;split at h
  ·rename_i i hi;split at h
   ·rename_i zv hz;simp only[YB]at h;obtain⟨h1,h2,h3,h4,h5,h6,h7⟩:=h;have h1:=YE h1;have h2:=YE h2;have h3:=YE h3;have h4:0<z:=YL h4;have h5:=YE h5;have h6:=Ut (VA 2) _ _ h6;subst h1 h2 h3;have e1:=yX (n:=l.toNat) h5 h4;rw[h6]at e1;have Ww:(madeCells zv.cells (l.toNat*i.size)).all simple=true:=by
     rw[e1,Array.all_eq_true'];intro v hv;simp only[Qj,List.mem_toArray,List.mem_flatMap,VD]at hv;obtain⟨_,_,hv⟩:=hv;exact List.all_eq_true.1 h7 v hv
    simp only[Jx,hu,hi,hz,decide_eq_true h0,decide_eq_true hb,decide_eq_true hn,decide_eq_true (LL l),Ww,Bool.and_self,cond_true];rw[e1]
   ·simp at h
  ·simp at h
 ·cases h
section
variable {α:Type} {e:α->List Value} {m z:Nat} {rs:List (Nat×Nat)} {UY:List (Nat×Array Value)} {ow:List (Nat×Nat)} {xs:List α}
theorem V0{zs:List Value}{x:α}(h:AllX m rs UY ow zs (e x)):∀k:Nat,ZO m rs UY ow (Qj (VD zs) (Li k ())) (Qj e (Li k x))
 |0=>trivial
 |k+1=>by
  unfold ZO Qj;simp only[List.replicate_succ,List.flatMap_cons];exact AllX.append h (V0 h k)
theorem AllX.take{l k:List Value}:∀(n:Nat) {l k:List Value},AllX m rs UY ow l k->AllX m rs UY ow (l.take n) (k.take n)
 |0,_,_,_=>trivial
 |_+1,[],[],_=>trivial
 |n+1,_::_,_::_,h=>⟨h.1,AllX.take (l:=[]) (k:=[]) n h.2⟩
 |_+1,[],_::_,h=>h.elim
 |_+1,_::_,[],h=>h.elim
theorem AllX.drop{l k:List Value}:∀(n:Nat) {l k:List Value},AllX m rs UY ow l k->AllX m rs UY ow (l.drop n) (k.drop n)
 |0,_,_,h=>h
 |_+1,[],[],_=>trivial
 |n+1,_::_,_::_,h=>AllX.drop (l:=[]) (k:=[]) n h.2
 |_+1,[],_::_,h=>h.elim
 |_+1,_::_,[],h=>h.elim
theorem uE{cs:Array Value}{vs:List Value}{x:α}{k:Nat}(hz:∀y,(e y).length=z)(h:ZO m rs UY ow cs (Qj e xs))(hk:k<xs.length)(hx:AllX m rs UY ow vs (e x)):ZO m rs UY ow (splice cs (k*z) vs.toArray) (Qj e (xs.set k x)):=by
 have hlen:=(AllX.get hx).1;rw[hz x]at hlen;rw[<-(cP hz hk).2];unfold ZO at h ⊢;unfold splice;simp only[hz x,<-hlen];exact AllX.append (AllX.append (AllX.take (l:=[]) (k:=[]) _ h) hx) (AllX.drop (l:=[]) (k:=[]) _ h)
theorem dC{cs cs1:Array Value}{vs us:List Value}{off:Nat}(h:ZO m rs UY ow cs cs1)(hx:AllX m rs UY ow vs us):ZO m rs UY ow (splice cs off vs.toArray) (splice cs1 off us.toArray):=by
 have hlen:=(AllX.get hx).1;have hl2:=(AllX.get h).1;have e:∀(cs:Array Value) (l:List Value),(splice cs off l.toArray).toList=cs.toList.take off++l++cs.toList.drop (off+l.length):=by
  intro cs l;unfold splice;simp
 unfold ZO at h ⊢;rw[e,e,hlen];exact AllX.append (AllX.append (AllX.take (l:=[]) (k:=[]) _ h) hx) (AllX.drop (l:=[]) (k:=[]) _ h)
theorem xS{cs:Array Value}{off:Nat}{v:Value}(h:off<cs.size):(splice cs off #[v])[off]? =some v:=by
 have hl:(cs.toList.take off).length=off:=by simp;omega
 unfold splice;rw[List.getElem?_toArray,LQ,Lj (by omega),hl];simp
theorem xR{cs:Array Value}{off:Nat}{u v:Value}(h:off<cs.size):off+1<=(splice cs off #[u]).size/\splice (splice cs off #[u]) off #[v]=splice cs off #[v]:=by
 have hl:(cs.toList.take off).length=off:=by simp;omega
 constructor
 ·unfold splice;simp;omega
 ·unfold splice;congr 1;have e1:(cs.toList.take off++[u]++cs.toList.drop (off+1)).take off=cs.toList.take off:=by
   rw[LQ,List.take_append_of_le_length (by omega),List.take_of_length_le (by omega)]
  have e2:(cs.toList.take off++[u]++cs.toList.drop (off+1)).drop (off+1)=cs.toList.drop (off+1):=by
   rw[List.drop_append_of_le_length (by simp;omega),List.drop_eq_nil_of_le (by simp;omega),List.nil_append]
  show((cs.toList.take off++[u]++cs.toList.drop (off+1)).take off++[v]++(cs.toList.take off++[u]++cs.toList.drop (off+1)).drop (off+1))=_;rw[e1,e2];rfl
theorem rU{cs:Array Value}{vs:List Value}{x:α}{k:Nat}(hz:∀y,(e y).length=z)(h:ZO m rs UY ow cs (Qj e xs))(hk:k<xs.length)(hx:AllX m rs UY ow vs (e x)):ZO m rs UY ow (splice cs (0+k*z) vs.toArray) (Qj e (xs.set k x)):=by
 rw[Lz];exact uE hz h hk hx
theorem KM(h:∀x,(e x).length=z){k z':Nat}(hk:k<xs.length){x:α}{cs:Array Value}(hc:cs=(e x).toArray)(hz:z'=z):0+k*z+z'<=(Qj e xs).size/\splice (Qj e xs) (0+k*z) cs=Qj e (xs.set k x):=by
 subst hz;rw[Lz];exact mJ h hk hc
theorem fX(h:∀x,(e x).length=z){k z':Nat}(hk:k<xs.length)(hz:z'=z):0+k*z+z'<=(Qj e xs).size:=by
 subst hz;rw[Lz];exact vn h hk
end
end Go.CE

noncomputable abbrev Go.CE.YP:Go.Program:=Go.Proofs.Try.prog
namespace Go.Proofs.Ytncjjangllkokaa
open Go Go.CE Go.RowKit
abbrev pA(b o:Nat):Value:=.pointer (some ⟨b,o,none⟩)
def J0:World->Prop:=fun _=>True
theorem ZC:∀w w':World,(∀b,b<w.heap.size->w'.heap[b]? =w.heap[b]?)->J0 w->J0 w':=fun _ _ _ _=>trivial
theorem Qi:YP.follows .mixedOrders=true:=by decide+kernel
theorem okF:∀g,QB YP g=true->QB YP g=true:=fun _ h=>h
end Go.Proofs.Ytncjjangllkokaa

namespace Go.CE
open Go Go.RowKit

section
variable {P:Program} {F:FuncId->Bool} {T:Tm} {o:Oper} {H:Q0} {n:Nat}
end
section
variable {P:Program} {F:FuncId->Bool} {T:Tm} {o:Oper} {H:Q0} {n:Nat}
end
theorem sE{v:Value}(h:simple v=true):v.oneCell'=true:=by
 cases v <;> first|rfl|(cases h;done)
theorem Kb{α:Type}{e:α->List Value}{r:Nat}(hs:∀x,(e x).all simple=true)(xs:List α):(Qj e xs).map (Zl r)=Qj e xs/\((Qj e xs).all fun v=>simple v || ZX v)=true/\ones (Qj e xs)=true:=by
 have h:∀v∈Qj e xs,simple v=true:=Xr fun x=>List.all_eq_true.1 (hs x)
 refine⟨?_,Array.all_eq_true'.2 fun v hv=>by rw[h v hv];rfl,Array.all_eq_true'.2 fun v hv=>sE (h v hv)⟩;apply Array.ext (by simp);intro i h1 h2;have hv:=h _ (Array.getElem_mem h2);simp[Zl,hv]
theorem sG{α:Type}{e:α->List Value}{xs:List α}{x:α}{cs:Array Value}(h:cs=(e x).toArray):Qj e xs++cs=Qj e (xs++[x]):=by
 rw[h];exact l8
def Qs(fs:List Int)(k:Nat):Int:=fs.getD k 0
def sA(k:Nat)(x:Int):Nat->List Int->List Int
 |_,[]=>[]
 |j,f::l=>(if k=j then x else f)::sA k x (j+1) l
theorem To(k:Nat)(x:Int):∀(l:List Int) (j:Nat),(sA k x j l).length=l.length
 |[],_=>rfl
 |_::l,j=>by simp[sA,To k x l (j+1)]
theorem o7(k:Nat)(x:Int):∀(l:List Int) (j i:Nat),i<l.length->(sA k x j l)[i]? =some (if k=j+i then x else l.getD i 0)
 |[],_,_,h=>by simp at h
 |f::l,j,0,_=>by simp[sA]
 |f::l,j,i+1,h=>by
  have:=o7 k x l (j+1) i (by simpa using h);simp only[sA,List.getElem?_cons_succ,this,List.getD_cons_succ];rw[show j+1+i=j+(i+1)by omega]
theorem uV{cs:Array Value}{fs:List Int}{off i:Nat}(h:(cs.toList.drop off).take fs.length=fs.map (Value.int .i64))(hi:i<fs.length):cs[off+i]? =some (.int .i64 (fs.getD i 0)):=by
 have e:((cs.toList.drop off).take fs.length)[i]? =(fs.map (Value.int .i64))[i]? :=by rw[h]
 rw[LS hi,List.getElem?_drop,Lx,Ln]at e;rw[e];simp[Ll,hi]
theorem YD{cs:Array Value}{fs:List Int}{off k:Nat}(h:(cs.toList.drop off).take fs.length=fs.map (Value.int .i64))(hk:k<fs.length):cs[off+k*1]? =some (.int .i64 (Qs fs k)):=by
 rw[Nat.mul_one];exact uV h hk
theorem Cj{cs:Array Value}{fs:List Int}{off k:Nat}(h:(cs.toList.drop off).take fs.length=fs.map (Value.int .i64))(hk:k<fs.length):cs.extract (off+k*1) (off+k*1+1)=#[.int .i64 (Qs fs k)]:=by
 have e:=YD h hk;have hs:=(Array.getElem?_eq_some_iff.1 e).1;refine Array.ext_getElem? fun i=> ?_
 rw[LO];by_cases hi:i=0
 ·subst hi;rw[if_pos (by omega),Nat.add_zero,e];rfl
 ·rw[if_neg (by omega),Array.getElem?_eq_none (by simp;omega)]
theorem EY{l:List Int}{k:Nat}(h:l.length<=4):Qs [l.getD 0 0,l.getD 1 0,l.getD 2 0,l.getD 3 0] k=l.getD k 0:=by
 match k with
 |0=>rfl
 |1=>rfl
 |2=>rfl
 |3=>rfl
 |k+4=>
  have e:l.getD (k+4) 0=0:=by rw[Ll,Lu (by omega)];rfl
  rw[e];rfl
theorem od{cs cs' vc:Array Value}{fs:List Int}{off k:Nat}{x:Int}(hv:vc=#[.int .i64 x])(h:(cs.toList.drop off).take fs.length=fs.map (Value.int .i64))(hk:k<fs.length)(hc:cs'.toList=cs.toList.take off++(sA k x 0 fs).map (Value.int .i64)++cs.toList.drop (off+fs.length)):
 off+k*1+1<=cs.size/\splice cs (off+k*1) vc=cs':=by
 subst hv;have Xy:off+fs.length<=cs.size:=by
  have e:=uV h (i:=fs.length-1) (by omega);have:=(Array.getElem?_eq_some_iff.1 e).1;omega
 rw[Nat.mul_one];refine⟨by omega,Array.ext_getElem? fun i=> ?_⟩;rw[VZ (by simp;omega),<-Ln (xs:=cs'),hc];have l1:(cs.toList.take off).length=off:=by simp;omega
 by_cases h1:i<off
 ·rw[if_neg (by simp;omega),LQ,Lt (by omega),LS h1,Ln]
 ·rw[LQ,Lj (by omega),l1];by_cases h2:i-off<fs.length
  ·rw[Lt (by simp[To];omega),Lx,o7 k x fs 0 (i-off) h2];by_cases h3:i=off+k
   ·subst h3;rw[if_pos (by simp),if_pos (by omega)];simp
   ·rw[if_neg (by simp;omega),if_neg (by omega)];have e:=uV h h2;rw[show off+(i-off)=i by omega]at e;rw[e];rfl
  ·rw[if_neg (by simp;omega),Lj (by simp[To];omega),List.getElem?_drop,List.length_map,To,Ln];congr 1;omega
theorem jY{xs:List Int}{cs cs':Array Value}{off k r m:Nat}{e:Int->List Value}(he:∀x,e x=[.int .i64 x])(hm:m=xs.length)(h0:0<m)(hk:m<=k)(h:(cs.toList.drop off).take k=Li k (Value.int .i64 0))(hz:off+k<=cs.size)
 (hc:cs'.toList=cs.toList.take off++((Lv k).map fun j=>Value.int .i64 (xs.getD j La))++cs.toList.drop (off+k)):
 0<m/\off+LJ m k*1<=cs.size/\LJ m k*1<=(Qj e xs).size/\((Qj e xs).all fun v=>simple v || ZX v)=true/\ones (((Qj e xs).extract 0 (LJ m k*1)).map (Zl r))=true/\splice cs off (((Qj e xs).extract 0 (LJ m k*1)).map (Zl r))=cs':=by
 subst hm;have hmin:LJ xs.length k*1=xs.length:=by rw[Nat.mul_one];exact Nat.min_eq_left hk
 have hrow:Qj e xs=(xs.map (Value.int .i64)).toArray:=by
  have:xs.flatMap e=xs.map (Value.int .i64):=by
   have:e=fun x=>[Value.int .i64 x]:=funext he
   rw[this];have h9:∀l:List Int,l.flatMap (fun x=>[Value.int .i64 x])=l.map (Value.int .i64):=fun l=>by
    induction l with
    |nil=>rfl
    |cons x l ih=>rw[List.flatMap_cons,ih];rfl
   exact h9 xs
  unfold Qj;rw[this]
 have Xy:(Qj e xs).size=xs.length:=by rw[hrow];simp
 have hext:((Qj e xs).extract 0 (LJ xs.length k*1)).map (Zl r)=(xs.map (Value.int .i64)).toArray:=by
  rw[hmin,hrow];apply Array.ext_getElem?;intro i;rw[Array.getElem?_map,LO];by_cases hi:i<xs.length
  ·rw[if_pos (by simp;omega)];simp[hi,Zl,simple]
  ·rw[if_neg (by simp;omega)];simp[hi]
 rw[hext,hmin,Xy];refine⟨h0,by omega,Ly _, ?_, ?_,Array.ext_getElem? fun i=> ?_⟩
 ·rw[hrow];simp[simple]
 ·simp[ones,Value.oneCell']
 ·rw[VZ (by simp;omega),<-Ln (xs:=cs'),hc];have l1:(cs.toList.take off).length=off:=by simp;omega
  by_cases h1:i<off
  ·rw[if_neg (by simp;omega),LQ,Lt (by omega),LS h1,Ln]
  ·rw[LQ,Lj (by omega),l1];by_cases h2:i-off<k
   ·rw[Lt (by simp;omega),Lx,List.getElem?_range h2];by_cases h3:i-off<xs.length
    ·rw[if_pos (by simp;omega)];simp[h3,Ll]
    ·rw[if_neg (by simp;omega)];have e2:((cs.toList.drop off).take k)[i-off]? =(Li k (Value.int .i64 0))[i-off]? :=by rw[h]
     rw[LS h2,List.getElem?_drop,show off+(i-off)=i by omega,Ln,List.getElem?_replicate,if_pos h2]at e2;rw[e2];simp[Ll,Lu (show xs.length<=i-off by omega)]
   ·rw[if_neg (by simp;omega),Lj (by simp;omega),List.getElem?_drop,Ln];congr 1;simp;omega
theorem FinK.wri{P:Program}{J:World->Prop}{g:FuncId}{args:Array Value}{c0:CF}{Hb ws:Q0}{a:Nat}{Wf:List Nat}{bs outs news:List Obj}{out:OO}(hc:ZM P g args=some c0)(e1:Hb=dO bs)(e2:a=bs.length+1)(e3:ws=XJ 1 outs)(e4:Wf=LB 1 bs.length)
 (h:∀B:Lo,(∀w,B.has w->J w)->FinK P B c0 Hb a out ws news Wf):WriC P J g args bs out outs news:=fun B hJ μ w args' cs QR hB hf hv=>by
 subst e1 e2 e3 e4;obtain⟨Za,w',μ',hp,ho,_,he⟩:=h B hJ μ w _ cs QR hB hf (Vz hc hv);rw[show bs.length+1+1+news.length=bs.length+2+news.length by omega]at hp;exact⟨Za,w',μ',hp,ho,he⟩
theorem oQ{α:Type}{e:α->List Value}{xs:List α}{z:Nat}[Inhabited α](h:∀x,(e x).length=z){k j:Nat}{v:Value}(hk:k<xs.length)(hv:(e (xs.getD k La))[j]? =some v):(Qj e xs)[0+k*z+j]? =some v:=by
 rw[Lz];exact vo h hk hv
theorem oP{α:Type}[Inhabited α]{e:α->List Value}{z:Nat}{xs:List α}(h:∀x,(e x).length=z){k j z':Nat}(hk:k<xs.length){x:α}{cs:Array Value}(hx:e x=(e (xs.getD k La)).take j++cs.toList++(e (xs.getD k La)).drop (j+z'))(hz:z'=cs.size)(hj:j+z'<=z):0+k*z+j+z'<=(Qj e xs).size/\splice (Qj e xs) (0+k*z+j) cs=Qj e (xs.set k x):=by
 have hle:=vn (e:=e) h hk;have Wn:=mJ (e:=e) h hk (x:=x) (cs:=(e x).toArray) rfl;have hX:(e x).length=z:=h _;have hE:(e (xs.getD k La)).length=z:=h _;have hr:∀q,q<z->(Qj e xs)[k*z+q]? =(e (xs.getD k La))[q]? :=fun q hq=>by
  have hq':q<(e (xs.getD k La)).length:=by omega
  rw[vo (e:=e) h hk (LP hq'),LP hq']
 generalize e (xs.getD k La)=E at *;subst hz;have hc:cs.toList.length=cs.size:=Array.length_toList ..;have ht:(E.take j).length=j:=by rw[List.length_take];omega
 have key:∀q,(e x).toArray[q]? =(E.take j++(cs.toList++E.drop (j+cs.size)))[q]? :=fun q=>by rw[List.getElem?_toArray,hx,LQ]
 have ec:∀q,cs[q]? =cs.toList[q]? :=fun q=>(Ln ..).symm
 refine⟨by omega, ?_⟩;rw[<-Wn.2];apply Array.ext_getElem?;intro i;have s2:(e x).toArray.size=z:=hX;rw[VZ (by omega),VZ (by omega),s2,key,ec];by_cases h1:0+k*z+j<=i/\i<0+k*z+j+cs.size
 ·rw[if_pos h1,if_pos (by omega),Lj (by omega),Lt (by omega)];congr 1;omega
 ·rw[if_neg h1];by_cases h2:k*z<=i/\i<k*z+z
  ·rw[if_pos h2];have h5:=hr (i-k*z) (by omega);rw[show k*z+(i-k*z)=i by omega]at h5;rw[h5];by_cases h3:i<k*z+j
   ·rw[Lt (by omega),LS (by omega)]
   ·rw[Lj (by omega),Lj (by omega),List.getElem?_drop];congr 1;omega
  ·rw[if_neg h2]
end Go.CE
