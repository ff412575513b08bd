import Derived.Test.YtncjjangllkokaaZRV09
import Derived.Deep.Slices
import Derived.Carry
import Derived.WideShapes
import Derived.ChangeShapes
import Derived.SevenTiedAt
import Derived.Test.YtncjjangllkokaaZRV07
import Derived.Test.YtncjjangllkokaaProg
set_option linter.all false
open List renaming getElem?_eq_none->Ou,getElem?_cons_zero->Oq,getElem?_map->OA,mem_of_getElem? ->Oj,flatMap_cons->OX,getElem?_append_left->Ow,getElem?_append_right->Og,range->Oe,mem_cons_of_mem->Ot,getD_eq_getElem?_getD->Ol,getElem?_eq_getElem->O1,length_append->OJ,getD->Ob,replicate->Oi,mem_append_left->Oh,mem_append_right->Ov,append_assoc->OZ,getElem?_take_of_lt->O0,range'->OH
open Nat renaming ble->ON,beq->Of,lt_or_ge->OG,le_refl->OE,zero_add->Oz,blt->On,ble_eq_true_of_le->OB,min->OU
open Option renaming map_some->OF
open Array renaming mem_of_getElem? ->OK,getElem?_toList->Om,getElem?_extract->OY
open Int renaming le_refl->OV
open Inhabited renaming default->NZ
namespace Go.CE
open Go Go.RowKit

def Zf:Qy:=[(0,Xk)]
def QH(objs:List Obj):Qy:=(0,Xk)::(1,Xk)::QU 2 objs
theorem qu(objs:List Obj)(j:Nat):Q1 (QH objs) j=if j=0 then some Xk else if j=1 then some Xk else objs[j-2]? :=by
 unfold QH;rw[QZ,QZ,Vx];by_cases h0:j=0
 ·simp[h0]
 ·by_cases h1:j=1
  ·simp[h1]
  ·rw[if_neg h0,if_neg h1,if_pos (by omega),if_neg h0,if_neg h1]
theorem gN(objs:List Obj):Under (QH objs) (2+objs.length):=fun i hi=>by
 rw[qu,if_neg (by omega),if_neg (by omega),Ou (by omega)]
def ba(H:Qy)(m:Nat)(pos:Nat->Option Nat)(fz:List Fz):List (Nat×KS)->Option (List Obj×List Prop)
 |[]=>some ([],[])
 |(k,s)::l=>match MK H m pos fz (Q1 H k) s with
  |some (o,L)=>match ba H m pos fz l with
   |some (os,L2)=>some (o::os,L++L2)
   |none=>none
  |none=>none
structure LF where
 fn:FuncId
 len:Nat
 todo:List Item
 defers:List Nat
 mode:CM
 roundOf:Option Nat
 vals:List Value
 objs:List Obj
 L:List Prop
def GP:Option Obj->Bool
 |some (.cells _ _ (0,0))=>true
 |_=>false
def landM(s:Option ST)(slots:List Nat)(keeps:List (Nat×KS))(fz:List Fz):Option LF:=match s with
 |some ⟨.at c H n,W,L⟩=>bif W.isEmpty && distinct (keeps.map (·.1)) && (keeps.all fun k=>ON 1 k.1) && (fz.all fun x=>ON 1 x.k && GP (Q1 H x.k) && (keeps.all fun k=> !(Of k.1 x.k)))then
  match sw (yd H 1 (posOf (keeps.map (·.1)) 2) fz 3) (slots.map (Zj c.tmps)),ba H 1 (posOf (keeps.map (·.1)) 2) fz keeps with
  |some (vs,L1),some (os,L2)=>some ⟨c.fn,c.tmps.len,c.todo,c.defers,c.mode,c.roundOf,vs,os,L1++(L2++L)⟩
  |_,_=>none
   else none
 |_=>none
section
variable {P:Program} {F:FuncId->Bool} {J:World->Prop} {B:Lo}
theorem su{f:Value->Option (Value×List Prop)}:∀(l ts:List Value) (L:List Prop),sw f l=some (ts,L)->ts.length=l.length/\∀(i:Nat) v,ts[i]? =some v->∃u L1,l[i]? =some u/\f u=some (v,L1)/\(Q6 L->Q6 L1)
 |[],ts,L,h=>by
  simp only[sw,YO,YR]at h;obtain⟨rfl,rfl⟩:=h;exact⟨rfl,fun i v h=>by simp at h⟩
 |v::l,ts,L,h=>by
  simp only[sw]at h;split at h
  ·rename_i t L1 h1;split at h
   ·rename_i ts2 L2 h2;simp only[YO,YR]at h;obtain⟨rfl,rfl⟩:=h;obtain⟨k1,k2⟩:=su l ts2 L2 h2;refine⟨by simp[k1],fun i u x=> ?_⟩;cases i with
    |zero=>
     simp only[Oq,YO]at x;subst x;exact⟨v,L1,rfl,h1,fun h=>(XE h).1⟩
    |succ i=>
     obtain⟨u',L',a,b,c⟩:=k2 i u (by simpa using x);exact⟨u',L',by simpa using a,b,fun h=>c (XE h).2⟩
   ·cases h
  ·cases h
theorem KL{H:Qy}{m:Nat}{pos:Nat->Option Nat}{fz:List Fz}:∀(l:List (Nat×KS)) (os:List Obj) (L:List Prop),ba H m pos fz l=some (os,L)->os.length=l.length/\∀(i:Nat) o,os[i]? =some o->∃k s L1,l[i]? =some (k,s)/\MK H m pos fz (Q1 H k) s=some (o,L1)/\(Q6 L->Q6 L1)
 |[],os,L,h=>by
  simp only[ba,YO,YR]at h;obtain⟨rfl,rfl⟩:=h;exact⟨rfl,fun i v h=>by simp at h⟩
 |(k,s)::l,os,L,h=>by
  simp only[ba]at h;split at h
  ·rename_i t L1 h1;split at h
   ·rename_i ts2 L2 h2;simp only[YO,YR]at h;obtain⟨rfl,rfl⟩:=h;obtain⟨k1,k2⟩:=KL l ts2 L2 h2;refine⟨by simp[k1],fun i u x=> ?_⟩;cases i with
    |zero=>
     simp only[Oq,YO]at x;subst x;exact⟨k,s,L1,rfl,h1,fun h=>(XE h).1⟩
    |succ i=>
     obtain⟨k',s',L',a,b,c⟩:=k2 i u (by simpa using x);exact⟨k',s',L',by simpa using a,b,fun h=>c (XE h).2⟩
   ·cases h
  ·cases h
theorem TR.merge{μ' μ1:Mu}{T':Tm}{A:Array Value}{len:Nat}{live:List (Nat×Value)}(h:TR μ' T' A)(hlen:T'.len=len)(hl:len<=16000)(hlive:∀p∈live,∀v',VR μ' (Zj T' p.1) v'->VR μ1 p.2 v')
 {d:Nat->Value} (hd:∀t,Xy (d t)/\∀μ v',VR μ (Zj T' t) v'->VR μ (d t) v'):TR μ1 (Nm len live d) A:=by
 refine⟨hlen ▸ h.1,fun t=> ?_⟩;rw[IM hl];have ht:=h.2 t;split
 ·rcases Au live t (d t)with e|⟨v,hv,e⟩
  ·rw[e];exact(hd t).1 μ' μ1 _ ((hd t).2 μ' _ ht)
  ·rw[e];exact hlive _ hv _ ht
 ·rename_i Xw;have:A.getD t undef=undef:=by
   have:A.size<=t:=by rw[<-h.1,hlen];omega
   simp[this]
  rw[this];exact VR.undef
theorem GoE.landM{c0 c:CF}{H:Qy}{n:Nat}(hF:∀g,F g=true->Q9 P g=true)(hJ:∀w,B.has w->J w)(Zu:P.follows .mixedOrders=true)(h:GoE P B c0 Zf 1 c H n []){fuel:Nat}{sc:QD}{f:FuncId}{len:Nat}{todo:List Item}{slots:List Nat}{keeps:List (Nat×KS)}{fz:List Fz}{vs:List Value}{os:List Obj}{L:List Prop}
 (e:CE.landM (Qu P F J B fuel 1 c H n sc 0 [] []) slots keeps fz=some ⟨f,len,todo,[],.run,none,vs,os,L⟩) (hL:Q6 L) (hlen:ON len 16000=true) (hplain:todo.all P5=true):
 ∃d:Nat->Value,(∀t,Xy (d t))/\GoE P B c0 Zf 1 (QK f len (slots.zip vs) d todo) (QH os) (2+os.length) []:=by
 unfold CE.landM at e;split at e
 ·rename_i c' H' n' W' L' hs;have e:=e;cases hq:(W'.isEmpty && distinct (keeps.map (·.1)) && (keeps.all fun k=>ON 1 k.1) && (fz.all fun x=>ON 1 x.k && GP (Q1 H' x.k) && (keeps.all fun k=> !(Of k.1 x.k))))with
  |false=>rw[hq]at e;cases e
  |true=>
   rw[hq]at e;simp only[cond_true]at e;split at e
   ·rename_i vs0 L1 os0 L2 hvs hos;simp only[YO,LF.mk.injEq]at e;obtain⟨e1,e2,e3,e4,e5,e6,rfl,rfl,rfl⟩:=e;obtain⟨hL1,hL23⟩:=XE hL;obtain⟨hL2,hL3⟩:=XE hL23;simp only[YB]at hq;obtain⟨⟨⟨hW,hdist⟩,hge⟩,hfz⟩:=hq;have hWe:W'=[]:=by simpa using hW
    subst hWe;obtain⟨R,W2,T6,hiff⟩:=WM hF hJ Zu fuel 1 c H n sc 0 [] [] _ h.under hs hL3;have hg:=(h.step T6).lists (W1:=[]) (fun i hi=>by
     have:=hiff i hi;simp only[List.not_mem_nil,false_or]at this;simp[<-this])
    have hd:∀t,∃d,Xy d/\∀μ v',VR μ (Zj c'.tmps t) v'->VR μ d v':=fun t=>Ja _
    have hlenos:=(KL keeps os0 L2 hos).1;refine⟨fun t=>Classical.choose (hd t),fun t=>(Classical.choose_spec (hd t)).1,gN _,by omega,fun Z μ w fr cs QF hB hf XP=> ?_⟩;obtain⟨fr',w',μ',hp,hfr',a,b,Wh⟩:=hg.sem Z μ w fr cs QF hB hf XP;let ρ:Nat->Nat:=fun i=>if i=0 then 0 else((keeps.map (·.1))[i-2]?).getD i
    have hρ:∀i k,2<=i->(keeps.map (·.1))[i-2]? =some k->ρ i=k:=fun i k hi hk=>by
     show(if i=0 then 0 else((keeps.map (·.1))[i-2]?).getD i)=k;rw[if_neg (by omega),hk];rfl
    have get:∀i,1<i->i<2+os0.length->∃k,(keeps.map (·.1))[i-2]? =some k/\ρ i=k/\1<=k:=by
     intro i h1 h2;have Xw:i-2<keeps.length:=by omega
     refine⟨(keeps[i-2]).1,by simp[Xw],hρ i _ (by omega) (by simp[Xw]), ?_⟩;exact YL (List.all_eq_true.1 hge _ (List.getElem_mem Xw))
    let im1:cm:=⟨0,0,0,false,YD μ' H' w' (JW H' n'++fz.map (·.k))⟩
    let μ1:=j6 1 (2+os0.length) ρ μ μ' (YD μ' H' w' (JW H' n'++fz.map (·.k)))
    have hco:yp H' 1 (posOf (keeps.map (·.1)) 2) fz μ' μ1 w' n' (fz.map (·.k)) im1:=by
     refine⟨⟨B.B,_,hp.ok,fun i hi=> ?_⟩,hg.under,fun k j hj=> ?_, ?_,rfl,fun x hx=>List.mem_map.2 ⟨x,hx,rfl⟩⟩
     ·rcases OG i 1 with h|h
      ·exact .inl h
      ·exact .inr ⟨h,hi⟩
     ·obtain⟨h1,h2⟩:=Tp _ _ _ _ hj;have Xw:j-2<keeps.length:=by
       have:=(List.getElem?_eq_some_iff.1 h2).1;simpa using this
      show j6 1 (2+os0.length) ρ μ μ' _ j=μ' k;unfold j6;rw[if_neg (by omega),if_pos ⟨by omega,by omega⟩,hρ j k h1 h2]
     ·show j6 1 (2+os0.length) ρ μ μ' _ 1=some im1;unfold j6;rw[if_pos rfl]
    have hkeeps:Ba 1 n' (2+os0.length) [] μ μ' Zf H' (QH os0) w' ρ (fz.map (·.k)):=by
     refine⟨by omega,fun i hi=> ?_,fun i h1 h2=> ?_,fun i j h1 h2 h3 h4 h5=> ?_,gN _,fun i hi _=> ?_, ?_,fun i o1 hi hc ho=> ?_,fun k hk=> ?_⟩
     ·have:i=0:=by omega
      subst this;rfl
     ·obtain⟨k,hk,hk2,hk3⟩:=get i h1 h2;refine⟨by omega, ?_⟩;rw[hk2];have Xw:i-2<os0.length:=by omega
      obtain⟨k',s,L',ha,hb,hc⟩:=(KL keeps os0 L2 hos).2 (i-2) os0[i-2] (by simp[Xw]);have:k'=k:=by
       rw[OA,ha]at hk;simpa using hk
      subst this;obtain⟨⟨x,hx⟩,_⟩:=SO hco hb (hc hL2);exact hg.under.lt hx
     ·obtain⟨k,hk,hk2,_⟩:=get i h1 h2;obtain⟨k',hk',hk2',_⟩:=get j h3 h4;rw[hk2,hk2']at h5;subst h5;have:=Po hdist _ _ _ hk hk';omega
     ·have:i=0:=by omega
      subst this;rfl
     ·rfl
     ·have h1i:1<i:=hc.elim id fun h=>by simp at h
      rw[qu,if_neg (by omega),if_neg (by omega)]at ho;obtain⟨k,s,L',ha,hb,hc'⟩:=(KL keeps os0 L2 hos).2 (i-2) o1 ho;obtain⟨_,hnr,Sd⟩:=SO hco hb (hc' hL2);refine⟨hnr,fun hl1=> ?_⟩;obtain⟨x,hx,hl,ZS⟩:=Sd hl1;refine⟨x, ?_,hl,fun im _ h=>ZS im h⟩;rw[hρ i k (by omega) (by rw[OA,ha];rfl)];exact hx
     ·obtain⟨x,hx,rfl⟩:=List.mem_map.1 hk;have:=List.all_eq_true.1 hfz x hx;simp only[YB]at this;obtain⟨⟨q1,q2⟩,q3⟩:=this;have hown:∃o,Q1 H' x.k=some o/\live o:=by
       unfold GP at q2;split at q2
       ·rename_i ho;exact⟨_,ho,trivial⟩
       ·cases q2
      obtain⟨o,ho,hl⟩:=hown;refine⟨YL q1,hg.under.lt ho,⟨o,ho,hl⟩,fun i h1 h2 hr=> ?_⟩;obtain⟨k,hk,hk2,_⟩:=get i h1 h2;rw[hk2]at hr;rw[OA]at hk;cases hy:keeps[i-2]? with
      |none=>rw[hy]at hk;cases hk
      |some y=>
       rw[hy]at hk;simp only[OF,YO]at hk;have:=List.all_eq_true.1 q3 y (Oj hy);rw[hk,hr]at this;simp at this
    have Z0:=hp.merge QF hf hkeeps;have hpans:c'.mode.pans=false:=by rw[e5];rfl
    refine⟨fr',w',_,Z0,⟨by rw[hfr'.fn,e1];rfl, ?_,fun _=>(e3 ▸ hfr'.todo hpans).plain hplain, ?_, ?_,hfr'.kind, ?_⟩,a,b,Wh⟩
    ·refine hfr'.tmps.merge e2 (YL hlen) (fun p hp v' hv=> ?_) fun t=>Classical.choose_spec (hd t)
     obtain⟨i,hi⟩:=List.getElem?_of_mem hp;rw[List.getElem?_zip_eq_some]at hi;obtain⟨hi1,hi2⟩:=hi;obtain⟨u,L',ha,hb,hc⟩:=(su _ _ _ hvs).2 i p.2 hi2;rw[OA,hi1]at ha;simp only[OF,YO]at ha;subst ha;exact Yp hco 3 _ _ _ _ hb (hc hL1) hv
    ·have:=hfr'.defers;rw[e4]at this;exact .of_empty this.empty
    ·have:=hfr'.mode;rw[e5]at this;generalize fr'.mode=ds at this;cases this;exact .run
    ·have:=hfr'.round;rw[e6]at this;generalize fr'.roundOf=x at this;cases x with
     |none=>trivial
     |some x=>cases this
   ·cases e
 ·cases e
def QW(s:Option ST)(fz:List Fz):Option (Value×List Prop):=match s with
 |some ⟨.fin (.ret v) H _,W,L⟩=>bif W.isEmpty then match Uh H fz 3 v with
  |some (t,_,L2)=>some (t,L2++L)
  |none=>none
   else none
 |_=>none
def EndsT(P:Program)(B:Lo)(c0:CF)(out:Value):Prop:=
 ∀(μ:Mu) (w:World) (fr:Frame) (cs:List Frame) (im:cm),Ok B (fun i=>i<1) μ (Q1 Zf) w->B.has w->(∀i,1<=i->μ i=none)->μ 0=some im->FrR Bot.no μ c0 fr->
  ∃v' w',Below w.heap.size w w'/\TRv (bZ im.fm w w') out v'/\EndsAs P fr cs w (.ret v') w'
theorem GoE.endsT{c0 c:CF}{H:Qy}{n:Nat}(hF:∀g,F g=true->Q9 P g=true)(hJ:∀w,B.has w->J w)(Zu:P.follows .mixedOrders=true)(h:GoE P B c0 Zf 1 c H n []){fuel:Nat}{sc:QD}{fz:List Fz}{out:Value}{L:List Prop}
 (e:QW (Qu P F J B fuel 1 c H n sc 0 [] []) fz=some (out,L)) (hL:Q6 L):EndsT P B c0 out:=by
 unfold QW at e;split at e
 ·rename_i v H' n' W' L' hs;cases hW:W'.isEmpty with
  |false=>rw[hW]at e;cases e
  |true=>
   rw[hW]at e;simp only[cond_true]at e;split at e
   ·rename_i t R2 L2 Wh;simp only[YO,YR]at e;obtain⟨rfl,rfl⟩:=e;obtain⟨hL2,hL1⟩:=XE hL;have hWe:W'=[]:=by simpa using hW
    subst hWe;obtain⟨R,W2,hfj,hiff⟩:=WM hF hJ Zu fuel 1 c H n sc 0 [] [] _ h.under hs hL1;intro μ w fr cs im QF hB hf QN XP;obtain⟨Zq,w',μ',hp,ho,he⟩:=h.fj hfj μ w fr cs QF hB hf XP;have hnoW:∀i,i∈[]++W2->¬i<1:=fun i hi Xw=>by
     have:=(hiff i Xw).2 (.inr (by simpa using hi));simp at this
    have hbel:Below w.heap.size w w':=⟨hp.os,hp.tape,hp.output,hp.grow,fun b hb=>hp.frame b hb fun i hi hl=>absurd hl (hnoW i hi)⟩
    cases ho with
    |ret Ul=>
     rename_i v';refine⟨v',w',hbel, ?_,he⟩;have hu':Under H' n':=h.under.shape hfj.shape;have hle:=hp.le
     -- of what is looked at, all is there
     have YC:∀r,(Q1 H' r).isSome->r<1\/1<=r/\r<n':=fun r hr=>by
      have:r<n':=by
       cases hg:Q1 H' r with
       |none=>rw[hg]at hr;cases hr
       |some o=>exact hu'.lt hg
      omega
     have Y5:Ok B.B (fun _=>True) μ' (Q1 H') w':=
      ⟨fun i o _ ho=>hp.ok.rel i o (YC i (by rw[ho];rfl)) ho,fun i o im _ ho=>hp.ok.low i o im (YC i (by rw[ho];rfl)) ho,
       fun i j oi oj a b _ _ T4 Wk Wj=>hp.ok.inj i j oi oj a b (YC i (by rw[Wk];rfl)) (YC j (by rw[Wj];rfl)) T4 Wk Wj,
       fun i o _ ho=>hp.ok.JX i o (YC i (by rw[ho];rfl)) ho,fun i j oi oj a b x _ _ Wk Wj=>hp.ok.sep i j oi oj a b x (YC i (by rw[Wk];rfl)) (YC j (by rw[Wj];rfl)) Wk Wj⟩
     refine(Pb Y5 3 v v' t R2 L2 Wh hL2 (fun _ _=>trivial) Ul).mono fun b x hx=> ?_
     have hw:=Vy hx;unfold YD at hx;split at hx
     ·rename_i hc;obtain⟨i,_,o,im2,hio,Vb,Ym⟩:=hc;have hi:=YC i (by rw[hio];rfl);have old0:∀i,i<1->i=0:=fun i h=>by omega
      have keep0:Q1 H' 0=some Xk:=by
       rw[hp.keep 0 (by omega) fun e=>hnoW 0 e (by omega)];rfl
      have mu0:μ' 0=some im:=by rw[hp.ext 0 (by omega)];exact QN
      have below:b<w.heap.size->im.fm b=some x->bZ im.fm w w' b=some x:=fun h1 h2=>by unfold bZ;rw[if_pos h1];exact h2
      have above:w.heap.size<=b->bZ im.fm w w' b=some x:=fun h1=>by unfold bZ;rw[if_neg (by omega)];exact hw
      have from0:im.fm b=some x->bZ im.fm w w' b=some x:=fun h=>by
       refine below ?_ h;exact PN QF (i:=0) (o:=Xk) (show 0<1 by omega) rfl trivial QN h
      rcases Ym with ⟨WT,JN⟩|⟨hl,hb⟩
      ·cases hfx:im2.fm b with
       |none=>exact absurd hfx JN
       |some y=>
        obtain⟨im3,him3,hf3⟩:=hp.ok.JX i o hi hio WT;rw[Vb]at him3;cases him3;have:=hf3 b y hfx;rw[hw]at this;cases this;rcases hi with hi|hi
        ·rw[old0 i hi,mu0]at Vb;cases Vb;exact from0 hfx
        ·rcases hp.rf i im2 o (.inl hi) hio WT Vb b x hfx with c|⟨k,Ki,ko,hk,_,hko,_,hkm,hkb⟩|⟨k,hk,hkn,_⟩
         ·exact above c
         ·rw[old0 k hk,QN]at hkm;cases hkm;exact from0 hkb
         ·exact absurd hkn (hnoW k hk)
      ·rcases hi with hi|hi
       ·rw[old0 i hi,keep0]at hio;cases hio;exact hl.elim
       ·rcases(hp.fresh i im2 o hi.1 hi.2 hio hl Vb).2 with c|⟨k,hk,hkn,_⟩
        ·exact above (by omega)
        ·exact absurd hkn (hnoW k hk)
     ·cases hx
   ·cases e
 ·cases e
theorem Xo{g:FuncId}{ts:List Value}{out:Value}{c0:CF}(Wh:∀w w':World,(∀b,b<w.heap.size->w'.heap[b]? =w.heap[b]?)->J w->J w')(hc:ZW P g (ts.map (Q8 0 4)).toArray=some c0)(QF:(ts.all (rL 4))=true)
 (h:∀B:Lo,(∀w,B.has w->J w)->EndsT P B c0 out):Q0 P J g ts.toArray out:=by
 intro fm w args' hJ hfm hargs cs;let B:Lo:=⟨w.heap.size,fun w'=> ∀b,b<w.heap.size->w'.heap[b]? =w.heap[b]?,fun _ _ h hi b hb=>(h b hb).trans (hi b hb)⟩
 have hB:B.has w:=⟨OE _,fun _ _=>rfl⟩
 let im:cm:=⟨0,0,0,false,fm⟩
 let μ:Mu:=fun i=>if i=0 then some im else none
 have hOk:Ok B.B (fun i=>i<1) μ (Q1 Zf) w:=by
  have only:∀i o,Q1 Zf i=some o->i=0/\o=Xk:=by
   intro i o h;simp only[Zf,QZ,Q1]at h;split at h
   ·rename_i e;exact⟨e,by simpa using h.symm⟩
   ·cases h
  refine⟨fun i o _ ho hl=> ?_,fun i o im _ ho hl=> ?_,fun i j oi oj a b _ _ _ ho _ hl=> ?_,fun i o _ ho _=> ?_,fun i j oi oj a b x _ _ _ ho _ hl=> ?_⟩
  ·rw[(only i o ho).2]at hl;exact hl.elim
  ·rw[(only i o ho).2]at hl;exact hl.elim
  ·rw[(only i oi ho).2]at hl;exact hl.elim
  ·exact⟨im,by rw[(only i o ho).1];rfl,hfm⟩
  ·rw[(only j oj ho).2]at hl;exact hl.elim
 have hv:VRs μ (ts.map (Q8 0 4)).toArray args':=by
  refine⟨by simpa using hargs.1,fun i v v' hv ZT=> ?_⟩;simp only[List.getElem?_toArray,OA]at hv;cases ht:ts[i]? with
  |none=>rw[ht]at hv;cases hv
  |some t=>
   rw[ht]at hv;simp only[OF,YO]at hv;subst hv;exact Sn (im:=im) rfl 4 t v' (List.all_eq_true.1 QF t (Oj ht)) (hargs.2 i t v' (by simpa using ht) ZT)
 obtain⟨v',w',hb,ht,he⟩:=h B (fun w' h=>Wh w w' h.inv hJ) μ w (Frame.enter P g args' .normal) cs im hOk hB (fun i hi=>by show(if i=0 then _ else _)=_;rw[if_neg (by omega)]) rfl (Kc hc hv);obtain⟨frE,h1,h2,h3⟩:=he.1 rfl;exact⟨.returned v',w',frE,⟨v',rfl,hb,ht⟩,h1,h2,h3⟩
theorem GoE.start{c0:CF}:GoE P B c0 Zf 1 c0 Zf 1 []:=GoE.refl (fun i hi=>by simp only[Zf,QZ,Q1];rw[if_neg (by omega)])
end
end Go.CE

namespace Go.CE
open Go Go.RowKit

def Qh{α:Type}(e:α->List Value)(xs:List α):Array Value:=(xs.flatMap e).toArray
def QR(n:Int):List Value:=[.int .i64 n]
abbrev XI(xs:List Int):Value:=QI xs.length (Qh QR xs)
section
variable {α:Type} {e:α->List Value} {z:Nat} {xs:List α}
theorem iQ(h:∀x,(e x).length=z):∀xs:List α,(xs.flatMap e).length=xs.length*z
 |[]=>by simp
 |x::xs=>by simp[h,iQ h xs,Nat.add_mul,Nat.add_comm]
theorem ZE(h:∀x,(e x).length=z):(Qh e xs).size=xs.length*z:=by simp[Qh,iQ h]
theorem flat_get(h:∀x,(e x).length=z):∀(xs:List α) (k j:Nat) (x:α),j<z->xs[k]? =some x->(xs.flatMap e)[k*z+j]? =(e x)[j]?
 |[],k,j,x,hj,hk=>by simp at hk
 |y::xs,0,j,x,hj,hk=>by
  simp only[Oq,YO]at hk;subst hk;simp only[OX,Nat.zero_mul,Oz];rw[Ow (by rw[h];exact hj)]
 |y::xs,k+1,j,x,hj,hk=>by
  simp only[OX];rw[Og (by rw[h,Nat.add_mul];omega),h,show(k+1)*z+j-z=k*z+j by rw[Nat.add_mul];omega];exact flat_get h xs k j x hj (by simpa using hk)
theorem dG[Inhabited α](h:∀x,(e x).length=z){k j:Nat}(hk:k<xs.length)(hj:j<z):(Qh e xs)[k*z+j]? =(e (xs.getD k NZ))[j]? :=by
 have hx:xs[k]? =some (xs.getD k NZ):=by simp[hk]
 simp only[Qh,List.getElem?_toArray];exact flat_get h xs k j _ hj hx
theorem Bl[Inhabited α](h:∀x,(e x).length=z){k j:Nat}{v:Value}(hk:k<xs.length)(hv:(e (xs.getD k NZ))[j]? =some v):(Qh e xs)[k*z+j]? =some v:=by
 have hj:j<z:=by rw[<-h (xs.getD k NZ)];exact(List.getElem?_eq_some_iff.1 hv).1
 rw[dG h hk hj,hv]
theorem QB[Inhabited α](h:∀x,(e x).length=z){k:Nat}(hk:k<xs.length):(Qh e xs).extract (k*z) (k*z+z)=(e (xs.getD k NZ)).toArray:=by
 have Z8:=ZE (xs:=xs) h;have hle:k*z+z<=xs.length*z:=by
  have:=Nat.mul_le_mul_right z (show k+1<=xs.length by omega);rw[Nat.add_mul,Nat.one_mul]at this;exact this
 refine Array.ext (by simp[Z8,h];omega) fun i h1 h2=> ?_
 have hi:i<z:=by simpa[h]using h2
 have a:=dG (xs:=xs) h hk hi;rw[Array.getElem_extract];have b:(Qh e xs)[k*z+i]? =some ((Qh e xs)[k*z+i]'(by rw[Z8];omega)):=by simp
 have c:(e (xs.getD k NZ))[i]? =some ((e (xs.getD k NZ)).toArray[i]'h2):=by simp
 rw[b,c]at a;exact Option.some.inj a
theorem WH{x:α}:Qh e xs++(e x).toArray=Qh e (xs++[x]):=by simp[Qh]
theorem Qq(h:∀x,∀v∈e x,simple v=true):∀v∈Qh e xs,simple v=true:=fun v hv=>by
 simp only[Qh,List.mem_toArray,List.mem_flatMap]at hv;obtain⟨x,_,hx⟩:=hv;exact h x v hx
theorem XZ{rs:List Nat}(h:∀x,∀v∈e x,simple v=true):Zn rs (Qh e xs) (Qh e xs):=cl (Array.all_eq_true'.2 (Qq h))
theorem xY{x:α}(h:∀x,(e x).length=z):∀(xs:List α) (k i:Nat),k<xs.length->((xs.set k x).flatMap e)[i]? =if k*z<=i/\i<k*z+z then(e x)[i-k*z]? else(xs.flatMap e)[i]?
 |[],k,i,hk=>by simp at hk
 |y::xs,0,i,hk=>by
  simp only[List.set_cons_zero,OX,Nat.zero_mul,Oz,Nat.zero_le,true_and,Nat.sub_zero];by_cases hi:i<z
  ·rw[if_pos hi,Ow (by rw[h];exact hi)]
  ·rw[if_neg hi,Og (by rw[h];omega),Og (by rw[h];omega),h,h]
 |y::xs,k+1,i,hk=>by
  simp only[List.set_cons_succ,OX];by_cases hi:i<z
  ·rw[Ow (by rw[h];exact hi),if_neg (by rw[Nat.add_mul];omega),Ow (by rw[h];exact hi)]
  ·rw[Og (by rw[h];omega),Og (by rw[h];omega),h,xY h xs k (i-z) (by simpa using hk)];by_cases hc:k*z<=i-z/\i-z<k*z+z
   ·rw[if_pos hc,if_pos (by rw[Nat.add_mul];omega),show i-z-k*z=i-(k+1)*z by rw[Nat.add_mul];omega]
   ·rw[if_neg hc,if_neg (by rw[Nat.add_mul];omega)]
theorem gU{x:α}(h:∀x,(e x).length=z){k:Nat}(hk:k<xs.length):k*z+z<=(Qh e xs).size/\splice (Qh e xs) (k*z) (e x).toArray=Qh e (xs.set k x):=by
 have Z8:=ZE (xs:=xs) h;have hle:k*z+z<=xs.length*z:=by
  have:=Nat.mul_le_mul_right z (show k+1<=xs.length by omega);rw[Nat.add_mul,Nat.one_mul]at this;exact this
 refine⟨by rw[Z8];exact hle,Array.ext_getElem? fun i=> ?_⟩;have a:(Qh e (xs.set k x))[i]? =((xs.set k x).flatMap e)[i]? :=by simp[Qh]
 have b:(Qh e xs)[i]? =(xs.flatMap e)[i]? :=by simp[Qh]
 rw[a,xY h xs k i hk,<-b];rw[KD (by rw[Z8];simp[h];exact hle)];simp[h]
end
theorem TRv.len'{fm:Nat->Option Obj}{n:Nat}{cs:Array Value}{v':Value}(h:TRv fm (QI n cs) v'):n<=maxLen:=by
 rcases h.slice_inv with ⟨_,_,_,_,_,_,_,h1,h2,_⟩|⟨rfl,_⟩
 ·omega
 ·exact Nat.zero_le _
theorem Y1{a b:Int}(h:a≠b):(!Y6 a b)=true:=by rw[aY h];rfl
theorem Y2{a b:Int}(h:a=b):(!Y6 a b)=false:=by rw[aX h];rfl
theorem WC{m:Nat}{rs:List Nat}{cs:Array Value}(h:cs.all simple=true):QE m rs cs cs:=Qn fun v hv=>Array.all_eq_true'.1 h v hv
theorem jC{α:Type}{e:α->List Value}{z:Nat}{xs:List α}(h:∀x,(e x).length=z){k:Nat}(hk:k<xs.length):k*z+z<=(Qh e xs).size:=by
 rw[ZE h];have:=Nat.mul_le_mul_right z (show k+1<=xs.length by omega);rw[Nat.add_mul,Nat.one_mul]at this;exact this
theorem Bk{α:Type}{e:α->List Value}{z:Nat}{xs:List α}(h:∀x,(e x).length=z){k:Nat}(hk:k<xs.length){x:α}{cs:Array Value}(hc:cs=(e x).toArray):k*z+z<=(Qh e xs).size/\splice (Qh e xs) (k*z) cs=Qh e (xs.set k x):=by
 rw[hc];exact gU h hk
theorem EndsT.cast{P:Program}{B:Lo}{c0:CF}{a b:Value}(h:EndsT P B c0 a)(e:a=b):EndsT P B c0 b:=e ▸ h
theorem TRvs.len{fm:Nat->Option Obj}{ts args:Array Value}(h:TRvs fm ts args){i n:Nat}{cs:Array Value}(hi:ts[i]? =some (QI n cs)):n<=maxLen:=by
 have Xw:i<args.size:=h.1 ▸ (Array.getElem?_eq_some_iff.1 hi).1;exact TRv.len' (h.2 i _ args[i] hi (by simp[Xw]))
theorem TRvs.len2{fm:Nat->Option Obj}{ts args:Array Value}(h:TRvs fm ts args){i j n:Nat}{xs cs:Array Value}(hi:ts[i]? =some (.agg xs))(hj:xs[j]? =some (QI n cs)):n<=maxLen:=by
 have Xw:i<args.size:=h.1 ▸ (Array.getElem?_eq_some_iff.1 hi).1;have ht:=h.2 i _ args[i] hi (by simp[Xw]);generalize args[i]=v at ht;cases ht with
 |simple h=>cases h
 |agg h1 h2=>
  rename_i ys;have Xw:j<ys.size:=h1 ▸ (Array.getElem?_eq_some_iff.1 hj).1;exact TRv.len' (h2 j _ ys[j] hj (by simp[Xw]))
theorem TRvs.ln{fm:Nat->Option Obj}{ts args:Array Value}(h:TRvs fm ts args){i n:Nat}{cs:Array Value}(hi:ts[i]? =some (QI n cs)):n<=9223372036854775807:=by
 have:=h.len hi;unfold maxLen at this;omega
theorem TRvs.ln2{fm:Nat->Option Obj}{ts args:Array Value}(h:TRvs fm ts args){i j n:Nat}{xs cs:Array Value}(hi:ts[i]? =some (.agg xs))(hj:xs[j]? =some (QI n cs)):n<=9223372036854775807:=by
 have:=h.len2 hi hj;unfold maxLen at this;omega
section
variable {α:Type} [Inhabited α] {f:α->Bool} {xs:List α} {i:Int}
theorem drop_cons(h0:0<=i)(hi:i<xs.length):xs.drop i.toNat=xs.getD i.toNat NZ::xs.drop (i+1).toNat:=by
 have Xw:i.toNat<xs.length:=by omega
 rw[List.drop_eq_getElem_cons Xw,show(i+1).toNat=i.toNat+1 by omega];simp[Xw]
theorem yb(h0:0<=i)(hi:i<xs.length):(xs.drop i.toNat).all f=(f (xs.getD i.toNat NZ) && (xs.drop (i+1).toNat).all f):=by rw[drop_cons h0 hi];rfl
omit [Inhabited α]in
theorem H3(hi:xs.length<=i):xs.drop i.toNat=[]:=List.drop_eq_nil_of_le (by omega)
end
def Rj(a b:Int):List Int:=(Oe (b-a).toNat).map fun(k:Nat)=>a+(k:Int)
theorem kB{a b:Int}(h:a<b):Rj a b=a::Rj (a+1) b:=by
 unfold Rj;obtain⟨m,hm⟩:∃m:Nat,(b-a).toNat=m+1:=⟨(b-a).toNat-1,by omega⟩
 rw[hm,show(b-(a+1)).toNat=m by omega,List.range_succ_eq_map];simp only[List.map_cons,List.map_map,Int.ofNat_zero,Int.add_zero,Int.cast_ofNat_Int];congr 1;apply List.map_congr_left;intro k _;simp only[Function.comp_apply,Nat.succ_eq_add_one];omega
theorem j9{a b:Int}(h:b<=a):Rj a b=[]:=by
 unfold Rj;rw[show(b-a).toNat=0 by omega];rfl
theorem Vj{P:Program}{J:World->Prop}{g:FuncId}{ts:List Value}{out:Value}{c0:CF}(facts:Prop)(X8:∀fm args',TRvs fm ts.toArray args'->facts)(Wh:∀w w':World,(∀b,b<w.heap.size->w'.heap[b]? =w.heap[b]?)->J w->J w')(hc:ZW P g (ts.map (Q8 0 4)).toArray=some c0)(QF:(ts.all (rL 4))=true)
 (h:facts->∀B:Lo,(∀w,B.has w->J w)->EndsT P B c0 out):Q0 P J g ts.toArray out:=fun fm w args' hJ hfm hargs=>Xo Wh hc QF (h (X8 fm args' hargs)) fm w args' hJ hfm hargs
def sO(rs:List Nat):List Value->List Value->Prop
 |[],[]=>True
 |v::l,v1::l1=>oE rs v v1/\sO rs l l1
 |_,_=>False
theorem dc{rs:List Nat}:∀{l l1:List Value},sO rs l l1->l.length=l1.length/\∀(i:Nat) v v1,l[i]? =some v->l1[i]? =some v1->oE rs v v1
 |[],[],_=>⟨rfl,fun i v v1 h=>by simp at h⟩
 |v::l,v1::l1,h=>⟨by simp[(dc h.2).1],fun i u u1 h1 h2=>by
   cases i with
   |zero=>simp at h1 h2;subst h1;subst h2;exact h.1
   |succ i=>exact(dc h.2).2 i u u1 (by simpa using h1) (by simpa using h2)⟩
theorem AH{rs:List Nat}{l l1:List Value}(h:sO rs l l1):Zn rs l.toArray l1.toArray:=by
 obtain⟨h1,h2⟩:=dc h
 first
 |exact⟨by simp[h1],fun i v v1 a b=>h2 i v v1 (by simpa using a) (by simpa using b)⟩
def N8(rs:List Nat)(v:Value):Option Value:=bif simple v then some v else match v with
 | .func (.via r ⟨[]⟩ 0 true) ⟨[t]⟩ ⟨[]⟩=>bif rs.contains r && Va t then some t else none
 |_=>none
def MO(rs:List Nat):List Value->Option (List Value)
 |[]=>some []
 |v::l=>match N8 rs v,MO rs l with
  |some t,some ts=>some (t::ts)
  |_,_=>none
theorem LL{rs:List Nat}{v t:Value}(h:N8 rs v=some t):oE rs v t:=by
 unfold N8 at h;cases hs:simple v with
 |true=>
  rw[hs]at h;simp only[cond_true,YO]at h;exact .inl ⟨hs,h.symm⟩
 |false=>
  rw[hs]at h;simp only[cond_false]at h;split at h
  ·rename_i r t0;cases hq:(rs.contains r && Va t0)with
   |false=>rw[hq]at h;cases h
   |true=>
    rw[hq]at h;simp only[cond_true,YO]at h;subst h;simp only[YB,List.contains_iff_mem]at hq;exact .inr ⟨r,hq.1,rfl,hq.2⟩
  ·cases h
theorem EP{rs:List Nat}:∀{l l1:List Value},MO rs l=some l1->sO rs l l1
 |[],l1,h=>by simp only[MO,YO]at h;subst h;exact trivial
 |v::l,l1,h=>by
  simp only[MO]at h;split at h
  ·rename_i t ts h1 h2;simp only[YO]at h;subst h;exact⟨LL h1,EP h2⟩
  ·cases h
theorem Ew{rs:List Nat}{l l1:List Value}(h:MO rs l=some l1):Zn rs l.toArray l1.toArray:=AH (EP h)
end Go.CE

namespace Go.CE
open Go Go.RowKit

theorem Post.widen{B n n':Nat}{S:Nat->Prop}{W W':List Nat}{μ μ':Mu}{H H':Qy}{w w':World}(QF:Ok B S μ (Q1 H) w)(h:Post B S n n' W μ μ' H H' w w')(hW:∀i,i<n->i∈W->i∈W')(hw:∀i,i<n->i∈W'->S i/\∃o,Q1 H i=some o/\live o/\∀im,μ i=some im->im.rw=true):Post B S n n' W' μ μ' H H' w w':=
 ⟨h.ok,h.le,h.ext,fun i hi hw'=>h.keep i hi fun e=>hw' (hW i hi e),h.grow,fun b hb hx=>h.frame b hb fun i hi hl=>hx i (hW i hl hi) hl,fun i hi hl=>by
  obtain⟨hs,o,hg,hl',hr⟩:=hw i hl hi;obtain⟨im,QN,_⟩:=QF.rel i _ hs hg hl';exact⟨hs,⟨o,hg,hl'⟩,im,QN,hr im QN⟩,fun i im o h1 h2 ho hl hm=>by
  obtain⟨hr,hf⟩:=h.fresh i im o h1 h2 ho hl hm;exact⟨hr,hf.imp id fun⟨k,a,b,d⟩=>⟨k,hW k b a,b,d⟩⟩,fun i im o hi ho hr hm b x hx=>by
  have res:(n<=i/\i<n'\/i∈W/\i<n)->w.heap.size<=b\/(∃k Ki ko,S k/\k<n/\Q1 H k=some ko/\Wa ko/\μ k=some Ki/\Ki.fm b=some x)\/∃k,k∈W'/\k<n/\(∃ZB,μ k=some ZB/\ZB.Zz=b)/\∀o,Q1 H' k=some o->¬live o:=fun hc=>by
   rcases h.rf i im o hc ho hr hm b x hx with e|e|⟨k,p,q,r⟩
   ·exact .inl e
   ·exact .inr (.inl e)
   ·exact .inr (.inr ⟨k,hW k q p,q,r⟩)
  rcases hi with hi|⟨hi,Xw⟩
  ·exact res (.inl hi)
  ·by_cases Pj:i∈W
   ·exact res (.inr ⟨Pj,Xw⟩)
   ·obtain⟨_,o',hg,hl,_⟩:=hw i Xw hi;rw[h.keep i Xw Pj,hg]at ho;cases ho;exact absurd hl (by cases o <;> first|exact id|exact hr.elim),h.os,h.tape,h.output⟩
def Writable(H0:Qy)(a:Nat)(Wf:List Nat):Prop:=∀i,i<a->i∈Wf->(∃cs t,Q1 H0 i=some (.cells cs t (0,0)))\/(∃r,Q1 H0 i=some (.loop r))\/(∃es RG,Q1 H0 i=some (.map es RG))\/∃ds,Q1 H0 i=some (.deferred ds)
def Ls(o:Option Obj):Bool:=match o with
 |some (.cells _ _ (0,0))|some (.loop _)|some (.map _ _)|some (.deferred _)=>true
 |_=>false
theorem Qw{H0:Qy}{a:Nat}{Wf:List Nat}(h:(Wf.all fun i=>Ls (Q1 H0 i))=true):Writable H0 a Wf:=fun i _ hi=>by
 have:=List.all_eq_true.1 h i hi;unfold Ls at this;split at this
 ·rename_i cs t hg;exact .inl ⟨cs,t,hg⟩
 ·rename_i r hg;exact .inr (.inl ⟨r,hg⟩)
 ·rename_i es RG hg;exact .inr (.inr (.inl ⟨es,RG,hg⟩))
 ·rename_i ds hg;exact .inr (.inr (.inr ⟨ds,hg⟩))
 ·cases this
theorem Writable.rw{B:Nat}{μ:Mu}{H0:Qy}{a:Nat}{Wf:List Nat}{w:World}(h:Writable H0 a Wf)(QF:Ok B (fun i=>i<a) μ (Q1 H0) w){i:Nat}(hi:i<a)(hw:i∈Wf):i<a/\∃o,Q1 H0 i=some o/\live o/\∀im,μ i=some im->im.rw=true:=by
 rcases h i hi hw with ⟨cs,t,hg⟩|⟨r,hg⟩|⟨es,RG,hg⟩|⟨ds,hg⟩
 ·refine⟨hi,_,hg,trivial,fun im QN=> ?_⟩;obtain⟨ZB,QT,ZS⟩:=QF.rel i _ hi hg trivial;rw[QN]at QT;cases QT;rcases ZS with ⟨_,h,_⟩|⟨h,_⟩
  ·exact h
  ·exact absurd rfl h
 all_goals
  refine⟨hi,_,hg,trivial,fun im QN=> ?_⟩;obtain⟨ZB,QT,ZS⟩:=QF.rel i _ hi hg trivial;rw[QN]at QT;cases QT;exact ZS.1
def Zc(ro:Option Nat)(f:FuncId)(len:Nat)(live:List (Nat×Value))(d:Nat->Value)(todo:List Item):CF:=⟨f,Nm len live d,todo,[],.run,ro⟩
def XL(Hb:Qy)(a:Nat)(ws:Qy)(os:List Obj):Qy:=ws++((a,Xk)::(QU (a+1) os++Hb))
def lF(a:Nat)(olds:List Nat)(k:Nat):Option Nat:=bif On k a then some k else posOf olds (a+1) k
def AA(H:Qy)(m:Nat)(pos:Nat->Option Nat)(fz:List Fz):List (Nat×KS)->Option (Qy×List Prop)
 |[]=>some ([],[])
 |(k,s)::l=>match MK H m pos fz (Q1 H k) s with
  |some (o,L)=>match AA H m pos fz l with
   |some (os,L2)=>some ((k,o)::os,L++L2)
   |none=>none
  |none=>none
theorem oy{H:Qy}{m:Nat}{pos:Nat->Option Nat}{fz:List Fz}:∀(l:List (Nat×KS)) (ws:Qy) (L:List Prop),AA H m pos fz l=some (ws,L)->∀i,(Q1 ws i=none<->i ∉ l.map (·.1))/\∀o,Q1 ws i=some o->∃s L1,MK H m pos fz (Q1 H i) s=some (o,L1)/\(Q6 L->Q6 L1)
 |[],ws,L,h,i=>by
  simp only[AA,YO,YR]at h;obtain⟨rfl,rfl⟩:=h;simp[Q1]
 |(k,s)::l,ws,L,h,i=>by
  simp only[AA]at h;split at h
  ·rename_i t L1 h1;split at h
   ·rename_i ts2 L2 h2;simp only[YO,YR]at h;obtain⟨rfl,rfl⟩:=h;obtain⟨k1,k2⟩:=oy l ts2 L2 h2 i;rw[QZ];by_cases e:i=k
    ·subst e;simp only[if_true,List.map_cons,List.mem_cons,true_or,not_true_eq_false,iff_false];exact⟨by simp,fun o ho=>by cases ho;exact⟨s,L1,h1,fun h=>(XE h).1⟩⟩
    ·rw[if_neg e];refine⟨by rw[k1];simp[e],fun o ho=> ?_⟩;obtain⟨s',L',a,b⟩:=k2 o ho;exact⟨s',L',a,fun h=>b (XE h).2⟩
   ·cases h
  ·cases h
structure LG where
 fn:FuncId
 len:Nat
 todo:List Item
 defers:List Nat
 mode:CM
 roundOf:Option Nat
 vals:List Value
 ws:Qy
 objs:List Obj
 L:List Prop
def dy(a:Nat)(H:Qy)(W:List Nat)(wks keeps:List (Nat×KS))(fz:List Fz):Bool:=
 (W.all fun i=>(wks.map (·.1)).contains i) && (wks.all fun k=>On k.1 a) && distinct (keeps.map (·.1)) && (keeps.all fun k=>ON a k.1) && (fz.all fun x=>ON a x.k && GP (Q1 H x.k) && (keeps.all fun k=> !(Of k.1 x.k)))
def landA(a:Nat)(s:Option ST)(slots:List Nat)(wks keeps:List (Nat×KS))(fz:List Fz):Option LG:=match s with
 |some ⟨.at c H n,W,L⟩=>bif dy a H W wks keeps fz then
  match sw (yd H a (lF a (keeps.map (·.1))) fz 4) (slots.map (Zj c.tmps)),AA H a (lF a (keeps.map (·.1))) fz wks,ba H a (lF a (keeps.map (·.1))) fz keeps with
  |some (vs,L1),some (ws,L3),some (os,L2)=>some ⟨c.fn,c.tmps.len,c.todo,c.defers,c.mode,c.roundOf,vs,ws,os,L1++(L3++(L2++L))⟩
  |_,_,_=>none
   else none
 |_=>none
section
variable {P:Program} {F:FuncId->Bool} {J:World->Prop} {B:Lo} {c0 c:CF} {Hb H:Qy} {a n:Nat} {W Wf:List Nat}
theorem GoE.widen(h:GoE P B c0 Hb a c H n W)(hW:∀i,i<a->i∈W->i∈Wf)(hw:Writable Hb a Wf):GoE P B c0 Hb a c H n Wf:=
 ⟨h.under,h.le,fun Z μ w fr cs QF hB hf XP=>by
  obtain⟨fr',w',μ',hp,r⟩:=h.sem Z μ w fr cs QF hB hf XP;exact⟨fr',w',μ',hp.widen QF hW fun i hi hiW=>hw.rw QF hi hiW,r⟩⟩
theorem YY{ws:Qy}{os:List Obj}(i:Nat):Q1 (XL Hb a ws os) i=match Q1 ws i with
 |some o=>some o
 |none=>if i=a then some Xk else if a<i/\i<a+1+os.length then os[i-(a+1)]? else Q1 Hb i:=by
 unfold XL;rw[ZJ];cases Q1 ws i with
 |some o=>rfl
 |none=>
  simp only;rw[QZ];by_cases e:i=a
  ·rw[if_pos e,if_pos e]
  ·rw[if_neg e,if_neg e,ZJ,Vx];by_cases h1:a+1<=i
   ·rw[if_pos h1];by_cases h2:i<a+1+os.length
    ·rw[if_pos ⟨by omega,h2⟩];have:i-(a+1)<os.length:=by omega
     simp[this]
    ·rw[if_neg (by omega),Ou (by omega)]
   ·rw[if_neg h1,if_neg (by omega)]
theorem gO{ws:Qy}{os:List Obj}(hu:Under Hb a)(hws:∀i o,Q1 ws i=some o->i<a):Under (XL Hb a ws os) (a+1+os.length):=fun i hi=>by
 rw[YY];cases hg:Q1 ws i with
 |some o=>have:=hws i o hg;omega
 |none=>simp only;rw[if_neg (by omega),if_neg (by omega)];exact hu i (by omega)
theorem mF{n':Nat}{H':Qy}{μ μ':Mu}{w w':World}{W':List Nat}{wks keeps:List (Nat×KS)}{fz:List Fz}{ws:Qy}{os:List Obj}{L2 L3:List Prop}(hu:Under Hb a)(hw:Writable Hb a (wks.map (·.1)))(hu':Under H' n')(hq:dy a H' W' wks keeps fz=true)
 (QF:Ok B.B (fun i=>i<a) μ (Q1 Hb) w) (hf:∀i,a<=i->μ i=none) (hp:Post B.B (fun i=>i<a) a n' (wks.map (·.1)) μ μ' Hb H' w w')
 (hws:AA H' a (lF a (keeps.map (·.1))) fz wks=some (ws,L3)) (hos:ba H' a (lF a (keeps.map (·.1))) fz keeps=some (os,L2)) (hL3:Q6 L3) (hL2:Q6 L2):
 ∃μ1 im1,yp H' a (lF a (keeps.map (·.1))) fz μ' μ1 w' n' (fz.map (·.k)) im1/\Post B.B (fun i=>i<a) a (a+1+os.length) (wks.map (·.1)) μ μ1 Hb (XL Hb a ws os) w w'/\(∀i,a+1+os.length<=i->μ1 i=none)/\(∀i o,Q1 ws i=some o->i<a):=by
 unfold dy at hq;simp only[YB]at hq;obtain⟨⟨⟨⟨hW,hwlt⟩,hdist⟩,hge⟩,hfz⟩:=hq;have wlt:∀i,i∈wks.map (·.1)->i<a:=fun i hi=>by
  obtain⟨k,hk,rfl⟩:=List.mem_map.1 hi;exact YL (List.all_eq_true.1 hwlt k hk)
 have wsget:=oy wks ws L3 hws;have wslt:∀i o,Q1 ws i=some o->i<a:=fun i o ho=>by
  refine wlt i (Decidable.of_not_not fun e=> ?_);have:=(wsget i).1.2 e;rw[this]at ho;cases ho
 have hlenos:=(KL keeps os L2 hos).1;let ρ:Nat->Nat:=fun i=>if i<a then i else((keeps.map (·.1))[i-(a+1)]?).getD i
 have hρ:∀i k,a+1<=i->(keeps.map (·.1))[i-(a+1)]? =some k->ρ i=k:=fun i k hi hk=>by
  show(if i<a then i else((keeps.map (·.1))[i-(a+1)]?).getD i)=k;rw[if_neg (by omega),hk];rfl
 have hρlow:∀i,i<a->ρ i=i:=fun i hi=>by
  show(if i<a then i else((keeps.map (·.1))[i-(a+1)]?).getD i)=i;rw[if_pos hi]
 have get:∀i,a<i->i<a+1+os.length->∃k,(keeps.map (·.1))[i-(a+1)]? =some k/\ρ i=k/\a<=k:=by
  intro i h1 h2;have Xw:i-(a+1)<keeps.length:=by omega
  refine⟨(keeps[i-(a+1)]).1,by simp[Xw],hρ i _ (by omega) (by simp[Xw]), ?_⟩;exact YL (List.all_eq_true.1 hge _ (List.getElem_mem Xw))
 let im1:cm:=⟨0,0,0,false,YD μ' H' w' (JW H' n'++fz.map (·.k))⟩
 let μ1:=j6 a (a+1+os.length) ρ μ μ' (YD μ' H' w' (JW H' n'++fz.map (·.k)))
 have hco:yp H' a (lF a (keeps.map (·.1))) fz μ' μ1 w' n' (fz.map (·.k)) im1:=by
  refine⟨⟨B.B,_,hp.ok,fun i hi=> ?_⟩,hu',fun k j hj=> ?_, ?_,rfl,fun x hx=>List.mem_map.2 ⟨x,hx,rfl⟩⟩
  ·rcases OG i a with h|h
   ·exact .inl h
   ·exact .inr ⟨h,hi⟩
  ·unfold lF at hj;cases hb:On k a with
   |true=>
    rw[hb]at hj;simp only[cond_true,YO]at hj;subst hj;have Xw:k<a:=YL hb;show j6 a (a+1+os.length) ρ μ μ' _ k=μ' k;unfold j6;rw[if_neg (by omega),if_neg (by omega),hp.ext k (by omega)]
   |false=>
    rw[hb]at hj;obtain⟨h1,h2⟩:=Tp _ _ _ _ hj;have Xw:j-(a+1)<keeps.length:=by
     have:=(List.getElem?_eq_some_iff.1 h2).1;simpa using this
    show j6 a (a+1+os.length) ρ μ μ' _ j=μ' k;unfold j6;rw[if_neg (by omega),if_pos ⟨by omega,by omega⟩,hρ j k h1 h2]
  ·show j6 a (a+1+os.length) ρ μ μ' _ a=some im1;unfold j6;rw[if_pos rfl]
 have hkeeps:Ba a n' (a+1+os.length) (wks.map (·.1)) μ μ' Hb H' (XL Hb a ws os) w' ρ (fz.map (·.k)):=by
  refine⟨by omega,hρlow,fun i h1 h2=> ?_,fun i j h1 h2 h3 h4 h5=> ?_,gO hu wslt,fun i hi hn=> ?_, ?_,fun i o1 hi hc ho=> ?_,fun k hk=> ?_⟩
  ·obtain⟨k,hk,hk2,hk3⟩:=get i h1 h2;refine⟨by omega, ?_⟩;rw[hk2];have Xw:i-(a+1)<os.length:=by omega
   obtain⟨k',s,L',ha,hb,hc⟩:=(KL keeps os L2 hos).2 (i-(a+1)) os[i-(a+1)] (by simp[Xw]);have:k'=k:=by
    rw[OA,ha]at hk;simpa using hk
   subst this;obtain⟨⟨x,hx⟩,_⟩:=SO hco hb (hc hL2);exact hu'.lt hx
  ·obtain⟨k,hk,hk2,_⟩:=get i h1 h2;obtain⟨k',hk',hk2',_⟩:=get j h3 h4;rw[hk2,hk2']at h5;subst h5;have:=Po hdist _ _ _ hk hk';omega
  ·rw[YY,(wsget i).1.2 hn];simp only;rw[if_neg (by omega),if_neg (by omega)]
  ·rw[YY];cases hg:Q1 ws a with
   |some o=>have:=wslt a o hg;omega
   |none=>simp
  ·rcases hc with h1i|⟨Pj,Xw⟩
   ·rw[YY]at ho;have hn:Q1 ws i=none:=by
     cases hg:Q1 ws i with
     |none=>rfl
     |some o=>have:=wslt i o hg;omega
    rw[hn]at ho;simp only at ho;rw[if_neg (by omega),if_pos ⟨h1i,hi⟩]at ho;obtain⟨k,s,L',ha,hb,hc'⟩:=(KL keeps os L2 hos).2 (i-(a+1)) o1 ho;obtain⟨_,hnr,Sd⟩:=SO hco hb (hc' hL2);refine⟨hnr,fun hl1=> ?_⟩;obtain⟨x,hx,hl,ZS⟩:=Sd hl1;refine⟨x, ?_,hl,fun im _ h=>ZS im h⟩;rw[hρ i k (by omega) (by rw[OA,ha];rfl)];exact hx
   ·cases hg:Q1 ws i with
    |none=>exact absurd Pj ((wsget i).1.1 hg)
    |some o=>
     rw[YY,hg]at ho;simp only[YO]at ho;subst ho;obtain⟨s,L1,h1,h2⟩:=(wsget i).2 o hg;obtain⟨_,hnr,Sd⟩:=SO hco h1 (h2 hL3);refine⟨hnr,fun hl1=> ?_⟩;obtain⟨x,hx,hl,ZS⟩:=Sd hl1;exact⟨x,by rw[hρlow i Xw];exact hx,hl,fun im _ h=>ZS im h⟩
  ·obtain⟨x,hx,rfl⟩:=List.mem_map.1 hk;have:=List.all_eq_true.1 hfz x hx;simp only[YB]at this;obtain⟨⟨q1,q2⟩,q3⟩:=this;have hown:∃o,Q1 H' x.k=some o/\live o:=by
    unfold GP at q2;split at q2
    ·rename_i ho;exact⟨_,ho,trivial⟩
    ·cases q2
   obtain⟨o,ho,hl⟩:=hown;refine⟨YL q1,hu'.lt ho,⟨o,ho,hl⟩,fun i h1 h2 hr=> ?_⟩;obtain⟨k,hk,hk2,_⟩:=get i h1 h2;rw[hk2]at hr;rw[OA]at hk;cases hy:keeps[i-(a+1)]? with
   |none=>rw[hy]at hk;cases hk
   |some y=>
    rw[hy]at hk;simp only[OF,YO]at hk;have:=List.all_eq_true.1 q3 y (Oj hy);rw[hk,hr]at this;simp at this
 refine⟨μ1,im1,hco,hp.merge QF hf hkeeps,fun i hi=> ?_,wslt⟩;show j6 a (a+1+os.length) ρ μ μ' _ i=none;unfold j6;rw[if_neg (by omega),if_neg (by omega)];exact hf i (by omega)
theorem GoE.landA(hF:∀g,F g=true->Q9 P g=true)(hJ:∀w,B.has w->J w)(Zu:P.follows .mixedOrders=true){wks:List (Nat×KS)}(hu:Under Hb a)(hw:Writable Hb a (wks.map (·.1)))(h:GoE P B c0 Hb a c H n (wks.map (·.1))){fuel:Nat}{sc:QD}{f:FuncId}{len:Nat}{todo:List Item}{ro:Option Nat}{slots:List Nat}{keeps:List (Nat×KS)}{fz:List Fz}{vs:List Value}{ws:Qy}{os:List Obj}{L:List Prop}
 (e:CE.landA a (Qu P F J B fuel a c H n sc 0 [] []) slots wks keeps fz=some ⟨f,len,todo,[],.run,ro,vs,ws,os,L⟩) (hL:Q6 L) (hlen:ON len 16000=true) (hplain:todo.all P5=true) (T3:∀l,ro=some l->l<a):
 ∃d:Nat->Value,(∀t,Xy (d t))/\GoE P B c0 Hb a (Zc ro f len (slots.zip vs) d todo) (XL Hb a ws os) (a+1+os.length) (wks.map (·.1)):=by
 unfold CE.landA at e;split at e
 ·rename_i c' H' n' W' L' hs;cases hq:dy a H' W' wks keeps fz with
  |false=>rw[hq]at e;cases e
  |true=>
   rw[hq]at e;simp only[cond_true]at e;split at e
   ·rename_i vs0 L1 ws0 L3 os0 L2 hvs hws hos;simp only[YO,LG.mk.injEq]at e;obtain⟨e1,e2,e3,e4,e5,e6,rfl,rfl,rfl,rfl⟩:=e;obtain⟨hL1,hLr⟩:=XE hL;obtain⟨hL3,hLr⟩:=XE hLr;obtain⟨hL2,hL4⟩:=XE hLr;obtain⟨R,W2,T6,hiff⟩:=WM hF hJ Zu fuel a c H n sc 0 [] [] _ h.under hs hL4;have hg:=(h.step T6).widen (Wf:=wks.map (·.1)) (fun i hi hm=>by
     rcases List.mem_append.1 hm with hm|hm
     ·exact hm
     ·have hi':i∈W':=(hiff i hi).2 (.inr hm);unfold dy at hq;simp only[YB]at hq;simpa using List.all_eq_true.1 hq.1.1.1.1 i hi') hw
    have hd:∀t,∃d,Xy d/\∀μ v',VR μ (Zj c'.tmps t) v'->VR μ d v':=fun t=>Ja _
    have wslt:∀i o,Q1 ws0 i=some o->i<a:=fun i o ho=>by
     have hq':=hq;unfold dy at hq';simp only[YB]at hq';have Pj:i∈wks.map (·.1):=Decidable.of_not_not fun e=>by
      have:=(oy wks ws0 L3 hws i).1.2 e;rw[this]at ho;cases ho
     obtain⟨k,hk,rfl⟩:=List.mem_map.1 Pj;exact YL (List.all_eq_true.1 hq'.1.1.1.2 k hk)
    refine⟨fun t=>Classical.choose (hd t),fun t=>(Classical.choose_spec (hd t)).1,gO hu wslt,by omega,fun Z μ w fr cs QF hB hf XP=> ?_⟩;obtain⟨fr',w',μ',hp,hfr',ha,hb,Wh⟩:=hg.sem Z μ w fr cs QF hB hf XP;obtain⟨μ1,im1,hco,Z0,Kb,_⟩:=mF hu hw hg.under hq QF hf hp hws hos hL3 hL2;have hpans:c'.mode.pans=false:=by rw[e5];rfl
    refine⟨fr',w',μ1,Z0,⟨by rw[hfr'.fn,e1];rfl, ?_,fun _=>(e3 ▸ hfr'.todo hpans).plain hplain, ?_, ?_,hfr'.kind, ?_⟩,ha,hb,Wh⟩
    ·refine hfr'.tmps.merge e2 (YL hlen) (fun p hp v' hv=> ?_) fun t=>Classical.choose_spec (hd t)
     obtain⟨i,hi⟩:=List.getElem?_of_mem hp;rw[List.getElem?_zip_eq_some]at hi;obtain⟨hi1,hi2⟩:=hi;obtain⟨u,L',ha,hb,hc⟩:=(su _ _ _ hvs).2 i p.2 hi2;rw[OA,hi1]at ha;simp only[OF,YO]at ha;subst ha;exact Yp hco 4 _ _ _ _ hb (hc hL1) hv
    ·have:=hfr'.defers;rw[e4]at this;exact .of_empty this.empty
    ·have:=hfr'.mode;rw[e5]at this;generalize fr'.mode=ds at this;cases this;exact .run
    ·have:=hfr'.round;rw[e6]at this;show RoR μ1 ro fr'.roundOf;generalize fr'.roundOf=x at this;cases ro with
     |none=>
      cases x with
      |none=>trivial
      |some x=>cases this
     |some l=>
      cases x with
      |none=>cases this
      |some x=>
       obtain⟨im,h1,h2⟩:=this;have hl:=T3 l rfl;refine⟨im, ?_,h2⟩;rw[Z0.ext l (by omega)];rw[hp.ext l (by omega)]at h1;exact h1
   ·cases e
 ·cases e
def W4(a:Nat)(v:Value):Bool:=simple v || match v with
 | .func (.via r ⟨[]⟩ 0 true) ⟨[_]⟩ ⟨[]⟩=>On r a
 | .pointer (some ⟨k,_,none⟩)=>On k a
 | .slice (some ⟨k,_,none⟩) _ _=>On k a
 | .map (some r)=>On r a
 | .func (.yield l) ⟨[]⟩ ⟨[]⟩=>On l a
 | .chan none=>true
 |_=>false
def Tz(a:Nat):Nat->Value->Bool
 |0,v=>W4 a v
 |f+1,v=>match v with
  | .agg xs=>xs.all (Tz a f)
  | .tuple xs=>xs.all (Tz a f)
  | .iface _ x=>Tz a f x
  | .func (.func _) xs ys=>xs.all (Tz a f) && ys.all (Tz a f)
  |v=>W4 a v
section
variable {μ μ0:Mu} (hμ:∀b,b<a->μ0 b=μ b)
include hμ
theorem sg{v v':Value}(h:W4 a v=true)(hv:VR μ v v'):VR μ0 v v':=by
 unfold W4 at h;cases hs:simple v with
 |true=>rw[simple_eq hs hv];exact ZN hs
 |false=>
  rw[hs]at h;simp only[Bool.false_or]at h;have lt:∀{k},On k a=true->μ0 k=μ k:=fun h=>hμ _ (YL h)
  split at h
  ·cases hv with
   |top h1 h2 h3=>exact .top h1 (by rw[lt h];exact h2) h3
  ·cases hv with
   |ptr har=>
    obtain⟨im,h1,h2,h3⟩:=har;exact .ptr ⟨im,by rw[lt h];exact h1,h2,h3⟩
  ·cases hv with
   |slice har x y z=>
    obtain⟨im,h1,h2,h3⟩:=har;exact .slice ⟨im,by rw[lt h];exact h1,h2,h3⟩ x y fun hz ZB QT=>z hz ZB (by rw[<-lt h];exact QT)
  ·cases hv with
   |map hr=>exact .map (by rw[lt h];exact hr)
  ·cases hv with
   |yield hr=>exact .yield (by rw[lt h];exact hr)
  ·cases hv with
   |Y3 x y z=>exact .Y3 x y z
  ·cases h
theorem jI:∀(f:Nat) (v v':Value),Tz a f v=true->VR μ v v'->VR μ0 v v'
 |0,v,v',h,hv=>sg hμ h hv
 |f+1,v,v',h,hv=>by
  have arr:∀{xs xs':Array Value},xs.all (Tz a f)=true->(∀(i:Nat) v v',xs[i]? =some v->xs'[i]? =some v'->VR μ v v')->∀(i:Nat) v v',xs[i]? =some v->xs'[i]? =some v'->VR μ0 v v':=
   fun ha hx i v v' h1 h2=>jI f v v' (Array.all_eq_true'.1 ha v (OK h1)) (hx i v v' h1 h2)
  cases v with
  |agg xs=>cases hv with|agg h1 h2=>exact .agg h1 (arr h h2)
  |tuple xs=>cases hv with|tuple h1 h2=>exact .tuple h1 (arr h h2)
  |iface t x=>cases hv with|iface hv=>exact .iface (jI f x _ h hv)
  |func fn xs ys=>
   cases fn with
   |func g=>
    have h:(xs.all (Tz a f) && ys.all (Tz a f))=true:=h;simp only[YB]at h;cases hv with
    |func h1 h2 h3 h4=>exact .func h1 h2 (arr h.1 h3) (arr h.2 h4)
   |_=>exact sg hμ (by exact h) hv
  |_=>exact sg hμ (by exact h) hv
end
theorem Ed{μ μ0:Mu}(hμ:∀b,b<a->μ0 b=μ b){T:Tm}{A:Array Value}(hl:∀t,Tz a 4 (Zj T t)=true\/Xy (Zj T t))(h:TR μ T A):TR μ0 T A:=⟨h.1,fun t=>(hl t).elim (fun h1=>jI hμ 4 _ _ h1 (h.2 t)) fun h1=>h1 _ _ _ (h.2 t)⟩
theorem FrR.low{μ μ0:Mu}{fr:Frame}(hμ:∀b,b<a->μ0 b=μ b)(hs:∀t,Tz a 4 (Zj c.tmps t)=true\/Xy (Zj c.tmps t))(hp:c.todo.all P5=true)(hd:c.defers=[])(hm:c.mode=.run)(hr:∀l,c.roundOf=some l->l<a)(h:FrR Bot.no μ c fr):FrR Bot.no μ0 c fr:=by
 have hpans:c.mode.pans=false:=by rw[hm];rfl
 refine⟨h.fn,Ed hμ hs h.tmps,fun _=>(h.todo hpans).plain hp, ?_, ?_,h.kind, ?_⟩
 ·have:=h.defers;rw[hd]at this ⊢;exact .of_empty this.empty
 ·have:=h.mode;rw[hm]at this ⊢;generalize fr.mode=ds at this ⊢;cases this;exact .run
 ·have:=h.round;generalize fr.roundOf=x at this ⊢;cases T3:c.roundOf with
  |none=>
   rw[T3]at this;cases x with
   |none=>trivial
   |some x=>cases this
  |some l=>
   rw[T3]at this;cases x with
   |none=>cases this
   |some x=>
    obtain⟨im,h1,h2⟩:=this;exact⟨im,by rw[hμ l (hr l T3)];exact h1,h2⟩
def LV(a:Nat)(v:Value):Prop:=Tz a 4 v=true\/Xy v
theorem LV.vr{μ μ0:Mu}{v v':Value}(hμ:∀b,b<a->μ0 b=μ b)(h:LV a v)(hv:VR μ v v'):VR μ0 v v':=h.elim (fun h=>jI hμ 4 _ _ h hv) fun h=>h _ _ _ hv
def AZ(a:Nat):Obj->Prop
 | .cells cs _ _=> ∀(i:Nat) v,cs[i]? =some v->LV a v
 | .map es _=> ∀(i:Nat) e,es[i]? =some e->LV a e.val
 | .loop l=> ∀(i:Nat) v,l.tmps[i]? =some v->LV a v
 |_=>True
theorem OR.low{μ μ0:Mu}{w:World}{im:cm}{o:Obj}(hμ:∀b,b<a->μ0 b=μ b)(hl:AZ a o)(h:OR μ w im o):OR μ0 w im o:=by
 cases o with
 |cells cs t fz=>
  rcases h with ⟨h1,h2,h3,arr,h4,h5,h6,h7⟩|⟨h1,h2⟩
  ·exact .inl ⟨h1,h2,h3,arr,h4,h5,h6,fun i v hv=>by
    obtain⟨v',a1,b1⟩:=h7 i v hv;exact⟨v',a1,(hl i v hv).vr hμ b1⟩⟩
  ·exact .inr ⟨h1,fun i v hv=>by
    obtain⟨v',a1,b1⟩:=h2 i v hv;exact⟨v',a1,(hl i v hv).vr hμ b1⟩⟩
 |map es RG=>
  obtain⟨h1,KK,h2,h3,h4⟩:=h;exact⟨h1,KK,h2,h3,fun i e e' he he'=>by
   obtain⟨x,y,z,u⟩:=h4 i e e' he he';exact⟨x,y,z,(hl i e he).vr hμ u⟩⟩
 |loop l=>
  obtain⟨h1,tm,df,h2,h3⟩:=h;exact⟨h1,tm,df,h2,h3.1,fun i v v' hv ZT=>(hl i v hv).vr hμ (h3.2 i v v' hv ZT)⟩
 |deferred ds=>exact h
 |pending x y=>trivial
 |_=>exact h
def L8(a:Nat):Obj->Bool
 | .cells cs _ _=>cs.toList.all (Tz a 4)
 | .map es _=>es.toList.all fun e=>Tz a 4 e.val
 | .loop l=>l.tmps.toList.all (Tz a 4)
 |_=>true
theorem Hc{a:Nat}{o:Obj}(h:L8 a o=true):AZ a o:=by
 cases o with
 |cells cs t fz=>exact fun i v hv=>.inl (List.all_eq_true.1 h v (Array.mem_toList_iff.2 (OK hv)))
 |map es RG=>exact fun i e he=>.inl (List.all_eq_true.1 h e (Array.mem_toList_iff.2 (OK he)))
 |loop l=>exact fun i v hv=>.inl (List.all_eq_true.1 h v (Array.mem_toList_iff.2 (OK hv)))
 |_=>exact trivial
theorem jJ:∀{H:Qy} {i:Nat} {o:Obj},Q1 H i=some o->(i,o)∈H
 |[],_,_,h=>by cases h
 |(k,x)::l,i,o,h=>by
  rw[QZ]at h;split at h
  ·rename_i e;cases h;subst e;exact List.mem_cons_self
  ·exact Ot _ (jJ h)
theorem Q7{H:Qy}{n:Nat}(h:(H.all fun p=>On p.1 n)=true):Under H n:=fun i hi=>by
 cases hg:Q1 H i with
 |none=>rfl
 |some o=>have:=YL (List.all_eq_true.1 h _ (jJ hg));simp at this;omega
end
end Go.CE

namespace Go.CE
open Go Go.RowKit

def WV(n:Int):Qk:=.Za (.val (.int .i64 n))
def ZF:Qk:=.Za (.val (.bool true))
def Wm:Qk:=.Za (.val (.bool false))
def HA(f:Value->Option (Value×List Prop)):OO->Option (OO×List Prop)
 | .ret v=>match f v with
   |some (v1,L)=>some (.ret v1,L)
   |none=>none
 | .Wp v=>match f v with
   |some (v1,L)=>some (.Wp v1,L)
   |none=>none
def finK(a:Nat)(s:Option ST)(wks keeps:List (Nat×KS))(fz:List Fz):Option (OO×Qy×List Obj×List Prop):=match s with
 |some ⟨.fin out H _,W,L⟩=>bif dy a H W wks keeps fz then
  match HA (yd H a (lF a (keeps.map (·.1))) fz 4) out,AA H a (lF a (keeps.map (·.1))) fz wks,ba H a (lF a (keeps.map (·.1))) fz keeps with
  |some (v1,L1),some (ws,L3),some (os,L2)=>some (v1,ws,os,L1++(L3++(L2++L)))
  |_,_,_=>none
   else none
 |_=>none
def FinK(P:Program)(B:Lo)(c0:CF)(Hb:Qy)(a:Nat)(out:OO)(ws:Qy)(os:List Obj)(Wf:List Nat):Prop:=
 ∀(μ:Mu) (w:World) (fr:Frame) (cs:List Frame),Ok B (fun i=>i<a) μ (Q1 Hb) w->B.has w->(∀i,a<=i->μ i=none)->FrR Bot.no μ c0 fr->
  ∃Zq w' μ',Post B (fun i=>i<a) a (a+1+os.length) Wf μ μ' Hb (XL Hb a ws os) w w'/\OR2 μ' out Zq/\(∀i,a+1+os.length<=i->μ' i=none)/\EndsAs P fr cs w Zq w'
section
variable {P:Program} {F:FuncId->Bool} {J:World->Prop} {B:Lo} {c0 c:CF} {Hb H:Qy} {a n:Nat} {W Wf:List Nat}
theorem GoE.finK(hF:∀g,F g=true->Q9 P g=true)(hJ:∀w,B.has w->J w)(Zu:P.follows .mixedOrders=true){wks keeps:List (Nat×KS)}(hu:Under Hb a)(hw:Writable Hb a (wks.map (·.1)))(h:GoE P B c0 Hb a c H n (wks.map (·.1))){fuel:Nat}{sc:QD}{fz:List Fz}{out:OO}{ws:Qy}{os:List Obj}{L:List Prop}
 (e:CE.finK a (Qu P F J B fuel a c H n sc 0 [] []) wks keeps fz=some (out,ws,os,L)) (hL:Q6 L):FinK P B c0 Hb a out ws os (wks.map (·.1)):=by
 unfold CE.finK at e;split at e
 ·rename_i out0 H' n' W' L' hs;cases hq:dy a H' W' wks keeps fz with
  |false=>rw[hq]at e;cases e
  |true=>
   rw[hq]at e;simp only[cond_true]at e;split at e
   ·rename_i v1 L1 ws0 L3 os0 L2 hv1 hws hos;simp only[YO,YR]at e;obtain⟨rfl,rfl,rfl,rfl⟩:=e;obtain⟨hL1,hLr⟩:=XE hL;obtain⟨hL3,hLr⟩:=XE hLr;obtain⟨hL2,hL4⟩:=XE hLr;obtain⟨R,W2,hfj,hiff⟩:=WM hF hJ Zu fuel a c H n sc 0 [] [] _ h.under hs hL4;intro μ w fr cs QF hB hf XP;obtain⟨Zq,w',μ',hp,ho,he⟩:=h.fj hfj μ w fr cs QF hB hf XP;have hp:=hp.widen (W':=wks.map (·.1)) QF (fun i hi hm=>by
     rcases List.mem_append.1 hm with hm|hm
     ·exact hm
     ·have hi':i∈W':=(hiff i hi).2 (.inr hm);have hq':=hq;unfold dy at hq';simp only[YB]at hq';simpa using List.all_eq_true.1 hq'.1.1.1.1 i hi') (fun i hi hiW=>hw.rw QF hi hiW)
    obtain⟨μ1,im1,hco,Z0,Kb,_⟩:=mF hu hw (h.under.shape hfj.shape) hq QF hf hp hws hos hL3 hL2;cases ho with
    |ret Ul=>
     unfold HA at hv1;split at hv1
     ·rename_i v0 e0;cases e0;split at hv1
      ·rename_i v2 L2' hv2;simp only[YO,YR]at hv1;obtain⟨rfl,rfl⟩:=hv1;exact⟨_,w',μ1,Z0,.ret (Yp hco 4 _ _ _ _ hv2 hL1 Ul),Kb,he⟩
      ·cases hv1
     ·rename_i e0;cases e0
    |Wp Ul=>
     unfold HA at hv1;split at hv1
     ·rename_i e0;cases e0
     ·rename_i v0 e0;cases e0;split at hv1
      ·rename_i v2 L2' hv2;simp only[YO,YR]at hv1;obtain⟨rfl,rfl⟩:=hv1;exact⟨_,w',μ1,Z0,.Wp (Yp hco 4 _ _ _ _ hv2 hL1 Ul),Kb,he⟩
      ·cases hv1
   ·cases e
 ·cases e
theorem FinK.cast{out out1:OO}{ws ws1:Qy}{os os1:List Obj}(h:FinK P B c0 Hb a out ws os Wf)(e1:out=out1)(e2:ws=ws1)(e3:os=os1):FinK P B c0 Hb a out1 ws1 os1 Wf:=e1 ▸ e2 ▸ e3 ▸ h
theorem FinK.fj{out:OO}{ws:Qy}{os:List Obj}(h:FinK P B c0 Hb a out ws os Wf)(hub:Under Hb a)(hws:∀i o,Q1 ws i=some o->i<a/\i∈Wf)(hWf:∀i∈Wf,i<a)(hs:∀t,Tz a 4 (Zj c0.tmps t)=true\/Xy (Zj c0.tmps t))(hp:c0.todo.all P5=true)(hd:c0.defers=[])(hm:c0.mode=.run)(hr:∀l,c0.roundOf=some l->l<a)(hob:∀i o,Q1 Hb i=some o->AZ a o):
 FJ P B c0 Hb a out ((ws++((a,Xk)::QU (a+1) os))++Hb) (a+1+os.length) (Oe a) Wf:=by
 have hG:(ws++((a,Xk)::QU (a+1) os))++Hb=XL Hb a ws os:=by unfold XL;simp
 rw[hG];refine⟨⟨by omega,fun i hi hw=> ?_,fun i hi=> ?_,fun i hi=>List.mem_range.2 (hWf i hi),fun i hi=>by have:=hWf i hi;omega⟩,fun S μ w fr cs QF hB hS hf XP hR=> ?_⟩
 ·rw[YY];cases hg:Q1 ws i with
  |some o=>exact absurd (hws i o hg).2 hw
  |none=>simp only;rw[if_neg (by omega),if_neg (by omega)]
 ·rw[YY];cases hg:Q1 ws i with
  |some o=>have:=(hws i o hg).1;omega
  |none=>simp only;rw[if_neg (by omega),if_neg (by omega)]
 ·have hSeq:S=fun i=>i<a:=funext fun i=>propext ⟨hS i,fun hi=>hR i (List.mem_range.2 hi) hi⟩
  subst hSeq;let μc:Mu:=fun i=>if i<a then μ i else none
  have hμc:∀b,b<a->μc b=μ b:=fun b hb=>by show(if b<a then μ b else none)=μ b;rw[if_pos hb]
  have hextc:Ext μc μ:=fun k im hk=>by
   have hk:(if k<a then μ k else none)=some im:=hk;split at hk
   ·exact hk
   ·cases hk
  have hokc:Ok B.B (fun i=>i<a) μc (Q1 Hb) w:=by
   refine⟨fun i o hi hg hl=> ?_,fun i o im hi hg hl QN=> ?_,fun i j oi oj x y hi hj JN hg1 hg2 l1 l2 m1 m2 r1 r2=> ?_,fun i o hi hg hr=> ?_,fun i j oi oj x y z hi hj hg1 hg2 r1 l2 m1 m2 Ui=> ?_⟩
   ·obtain⟨im,QN,ZS⟩:=QF.rel i o hi hg hl;exact⟨im,(hμc i hi).trans QN,OR.low hμc (hob i o hg) ZS⟩
   ·exact QF.low i o im hi hg hl ((hμc i hi).symm.trans QN)
   ·exact QF.inj i j oi oj x y hi hj JN hg1 hg2 l1 l2 ((hμc i hi).symm.trans m1) ((hμc j hj).symm.trans m2) r1 r2
   ·obtain⟨im,QN,hx⟩:=QF.JX i o hi hg hr;exact⟨im,(hμc i hi).trans QN,hx⟩
   ·exact QF.sep i j oi oj x y z hi hj hg1 hg2 r1 l2 ((hμc i hi).symm.trans m1) ((hμc j hj).symm.trans m2) Ui
  obtain⟨Zq,w',μ',Z0,hv,Kb,he⟩:=h μc w fr cs hokc hB (fun i hi=>by show(if i<a then μ i else none)=none;rw[if_neg (by omega)]) (XP.low hμc hs hp hd hm hr);let μ2:Mu:=fun i=>if i<a+1+os.length then μ' i else μ i
  have hμ2:∀i,i<a+1+os.length->μ2 i=μ' i:=fun i hi=>by show(if i<a+1+os.length then μ' i else μ i)=μ' i;rw[if_pos hi]
  have ext2:Ext μ' μ2:=fun k im hk=>by
   rcases OG k (a+1+os.length)with h1|h1
   ·rw[hμ2 k h1];exact hk
   ·rw[Kb k h1]at hk;cases hk
  have Slt:∀i,(i<a\/a<=i/\i<a+1+os.length)->i<a+1+os.length:=fun i h=>by omega
  refine⟨_,w',μ2,⟨?_,by omega,fun i hi=> ?_,fun i hi hw=> ?_,Z0.grow,fun b hb hx=>Z0.frame b hb fun i hiW hi im QN=>hx i hiW hi im ((hμc i hi).symm.trans QN),fun i hiW hi=> ?_,fun i im o h1 h2 ho hl QN=> ?_,fun i im o hc ho hr QN b x hx=> ?_,Z0.os,Z0.tape,Z0.output⟩,OR2.mono ext2 hv,he⟩
  ·have ok:=Z0.ok;refine⟨fun i o hi hg hl=> ?_,fun i o im hi hg hl QN=> ?_,fun i j oi oj x y hi hj JN hg1 hg2 l1 l2 m1 m2 r1 r2=> ?_,fun i o hi hg hr=> ?_,fun i j oi oj x y z hi hj hg1 hg2 r1 l2 m1 m2 Ui=> ?_⟩
   ·obtain⟨im,QN,ZS⟩:=ok.rel i o hi hg hl;exact⟨im,(hμ2 i (Slt i hi)).trans QN,ZS.keep ext2 rfl⟩
   ·exact ok.low i o im hi hg hl ((hμ2 i (Slt i hi)).symm.trans QN)
   ·exact ok.inj i j oi oj x y hi hj JN hg1 hg2 l1 l2 ((hμ2 i (Slt i hi)).symm.trans m1) ((hμ2 j (Slt j hj)).symm.trans m2) r1 r2
   ·obtain⟨im,QN,hx⟩:=ok.JX i o hi hg hr;exact⟨im,(hμ2 i (Slt i hi)).trans QN,hx⟩
   ·exact ok.sep i j oi oj x y z hi hj hg1 hg2 r1 l2 ((hμ2 i (Slt i hi)).symm.trans m1) ((hμ2 j (Slt j hj)).symm.trans m2) Ui
  ·rcases OG i a with h1|h1
   ·rw[hμ2 i (by omega),Z0.ext i (by omega),hμc i h1]
   ·show(if i<a+1+os.length then μ' i else μ i)=μ i;rw[if_neg (by omega)]
  ·exact Z0.keep i hi hw
  ·obtain⟨p,q,im,s,t⟩:=Z0.wr i hiW hi;exact⟨p,q,im,(hμc i hi).symm.trans s,t⟩
  ·obtain⟨p,q⟩:=Z0.fresh i im o h1 h2 ho hl ((hμ2 i h2).symm.trans QN);exact⟨p,q.imp id fun⟨k,x,y,⟨ZB,m,m2⟩,z⟩=>⟨k,x,y,⟨ZB,(hμc k y).symm.trans m,m2⟩,z⟩⟩
  ·have Xw:i<a+1+os.length:=by omega
   rcases Z0.rf i im o hc ho hr ((hμ2 i Xw).symm.trans QN) b x hx with e|⟨k,Ki,ko,p,q,r,s,t,u⟩|⟨k,p,q,⟨ZB,m,m2⟩,z⟩
   ·exact .inl e
   ·exact .inr (.inl ⟨k,Ki,ko,p,q,r,s,(hμc k q).symm.trans t,u⟩)
   ·exact .inr (.inr ⟨k,p,q,⟨ZB,(hμc k q).symm.trans m,m2⟩,z⟩)
def Nr(a:Nat)(l:List Value)(todo:List Item)(ro:Option Nat)(Hb ws:Qy)(Wf ex:List Nat):Bool:=
 l.all (Tz a 4) && (todo.all P5 && ((match ro with|some l=>On l a|none=>true) && ((Hb.all fun p=>On p.1 a) && ((Hb.all fun p=>ex.contains p.1 || L8 a p.2) && ((ws.all fun p=>On p.1 a && Wf.contains p.1) && ((Wf.all fun k=>On k a) && ON l.length 16000))))))
def Lr(a:Nat):Qy->List Nat->Prop
 |[],_=>True
 |(k,o)::H,ex=>(bif ex.contains k then AZ a o else True)/\Lr a H ex
theorem xM{a:Nat}{ex:List Nat}:∀{H:Qy} {k:Nat} {o:Obj},Lr a H ex->ex.contains k=true->Q1 H k=some o->AZ a o
 |[],_,_,_,_,h=>by cases h
 |(j,x)::H,k,o,hx,hk,h=>by
  rw[QZ]at h;split at h
  ·rename_i e;cases h;subst e;have:=hx.1;rw[hk]at this;exact this
  ·exact xM hx.2 hk h
theorem Z6{a:Nat}:∀H:Qy,Lr a H []
 |[]=>trivial
 |(_,_)::H=>⟨trivial,Z6 H⟩
theorem tu{a:Nat}{v:Value}(h:simple v=true):W4 a v=true:=by unfold W4;rw[h];rfl
theorem kL{a:Nat}{v:Value}(h:simple v=true):Tz a 4 v=true:=by
 have hs:=tu (a:=a) h;cases v with
 |agg xs=>cases h
 |tuple xs=>cases h
 |iface t x=>cases h
 |func fn xs ys=>
  cases fn with
  |func f=>
   simp only[simple,YB,beq_iff_eq,Array.size_eq_zero_iff]at h;obtain⟨rfl,rfl⟩:=h;simp[Tz]
  |_=>exact hs
 |_=>exact hs
theorem JM{α:Type}{a:Nat}{e:α->List Value}{xs:List α}{t:TypeId}{fl:Nat×Nat}(h:∀x,∀v∈e x,simple v=true):AZ a (.cells (Qh e xs) t fl):=fun i v hv=>.inl (kL (Qq h v (OK hv)))
theorem FinK.fjB{fn:FuncId}{len:Nat}{l:List Value}{todo:List Item}{ro:Option Nat}{out:OO}{ws:Qy}{os:List Obj}{ex:List Nat}(h:FinK P B ⟨fn,ofList len l,todo,[],.run,ro⟩ Hb a out ws os Wf)(e:Nr a l todo ro Hb ws Wf ex=true)(hx:Lr a Hb ex):
 FJ P B ⟨fn,ofList len l,todo,[],.run,ro⟩ Hb a out ((ws++((a,Xk)::QU (a+1) os))++Hb) (a+1+os.length) (Oe a) Wf:=by
 simp only[Nr,YB]at e;obtain⟨e1,e2,e3,e4,e5,e6,e7,e8⟩:=e;have e8:=YL e8;refine h.fj (Q7 e4) (fun i o ho=> ?_) (fun i hi=>YL (List.all_eq_true.1 e7 i hi)) (fun t=> ?_) e2 rfl rfl (fun k hk=> ?_) (fun i o ho=> ?_)
 ·have:=List.all_eq_true.1 e6 _ (jJ ho);simp only[YB]at this;exact⟨YL this.1,by simpa using this.2⟩
 ·simp only[Zj,ofList];rw[jF _ _ _ _ (by omega)];split
  ·rename_i ht;have ht:t<l.length:=by omega
   refine .inl (List.all_eq_true.1 e1 _ ?_);rw[Nat.sub_zero,Ol,O1 ht];exact List.getElem_mem ht
  ·rw[Tri.get_lf];exact .inr (SG (by simp[Go.undef,af]))
 ·have hk:ro=some k:=hk;subst hk;exact YL e3
 ·have:=List.all_eq_true.1 e5 _ (jJ ho);simp only[Bool.or_eq_true]at this;rcases this with h1|h1
  ·exact xM hx h1 ho
  ·exact Hc h1
end
end Go.CE

namespace Go.CE
open Go Go.RowKit Go.ChangeShapes Go.WideShapes

inductive Sh where
 |int|bool|str|unit
 |pair (a b:Sh)
 |struct (f:Sh)
 |slice (e:Sh)
def Sh.sz:Sh->Nat
 | .unit=>0
 | .pair a b=>a.sz+b.sz
 | .struct f=>f.sz
 |_=>1
def Sh.ok:Sh->List Value->Prop
 | .int,cs=> ∃z:Int,(-9223372036854775808<=z/\z<=9223372036854775807)/\cs=[.int .i64 z]
 | .bool,cs=> ∃b,cs=[.bool b]
 | .str,cs=> ∃s:ByteArray,s.size<=maxLen/\cs=[.string s]
 | .unit,cs=>cs=[]
 | .pair a b,cs=> ∃x y,cs=x++y/\a.ok x/\b.ok y
 | .struct f,cs=>f.ok cs
 | .slice e,cs=> ∃(n:Nat) (r:Nat->List Value),(∀k,e.ok (r k)\/n<=k)/\(∀k,(r k).length=e.sz)/\cs=[QI n (Qh r (Oe n))]
theorem Sh.ok_sz:∀(s:Sh) (cs:List Value),s.ok cs->cs.length=s.sz
 | .int,cs,⟨z,_,h⟩=>by rw[h];rfl
 | .bool,cs,⟨z,h⟩=>by rw[h];rfl
 | .str,cs,⟨z,_,h⟩=>by rw[h];rfl
 | .unit,cs,h=>by rw[show cs=[]from h];rfl
 | .pair a b,cs,⟨x,y,h,hx,hy⟩=>by rw[h,OJ,Sh.ok_sz a x hx,Sh.ok_sz b y hy];rfl
 | .struct f,cs,h=>Sh.ok_sz f cs h
 | .slice e,cs,⟨n,r,_,_,h⟩=>by rw[h];rfl
def Sh.chk(P:Program):Sh->Option (List Field×Nat)->TypeId->Bool
 | .int,none,t=>match P.underlying t with|some (.int .i64)=>true|_=>false
 | .bool,none,t=>match P.underlying t with|some .bool=>true|_=>false
 | .str,none,t=>match P.underlying t with|some .string=>true|_=>false
 | .struct f,none,t=>match P.underlying t with|some (.struct fs)=>f.chk P (some (fs.toList,0)) t|_=>false
 | .slice e,none,t=>match P.underlying t with|some (.slice u)=>On 0 e.sz && e.chk P none u|_=>false
 | .unit,some ([],off),t=>Of off (P.cellsOf t)
 | .pair a b,some (f::fs,off),t=>Of f.offset off && (a.chk P none f.type && (Of (P.cellsOf f.type) a.sz && b.chk P (some (fs,off+P.cellsOf f.type)) t))
 |_,_,_=>false
def TRl(fm:Nat->Option Obj)(ts cs:List Value):Prop:=ts.length=cs.length/\∀(i:Nat) v v',ts[i]? =some v->cs[i]? =some v'->TRv fm v v'
theorem TRl.nil{fm:Nat->Option Obj}:TRl fm [] []:=⟨rfl,fun i v v' h=>by simp at h⟩
theorem TRl.one{fm:Nat->Option Obj}{t v:Value}(h:TRv fm t v):TRl fm [t] [v]:=⟨rfl,fun i a b ha hb=>by
 cases i with
 |zero=>simp at ha hb;subst ha hb;exact h
 |succ i=>simp at ha⟩
theorem TRl.append{fm:Nat->Option Obj}{a b c d:List Value}(h:TRl fm a b)(k:TRl fm c d):TRl fm (a++c) (b++d):=⟨by simp[h.1,k.1],fun i v v' x y=>by
 rcases OG i a.length with hi|hi
 ·rw[Ow hi]at x;rw[Ow (by rw[<-h.1];exact hi)]at y;exact h.2 i v v' x y
 ·rw[Og hi]at x;rw[Og (by rw[<-h.1];exact hi)]at y;exact k.2 _ v v' x (by rw[h.1];exact y)⟩
def allM(w:World)(b:Nat):Option Obj:=w.heap[b]?
section
variable {P:Program} {H:Type} {enc:TypeId×Value->H} {w:World} {held:Bool}
theorem AW{a:Addr}{v:Value}(h:w.cell? a=some v):∃b o arr t fl,a=⟨b,o,none⟩/\w.heap[b]? =some (.cells arr t fl)/\arr[o]? =some v:=by
 obtain⟨b,o,s⟩:=a;unfold World.cell? at h;split at h
 ·rename_i c t fl hb;cases s with
  |some _=>simp at h
  |none=>exact⟨b,o,c,t,fl,rfl,hb,by simpa using h⟩
 ·cases h
theorem pP{b o j:Nat}:(⟨b,o,none⟩:Addr).add j=⟨b,o+j,none⟩:=by
 unfold Addr.add;split <;> simp_all
theorem oZ{e:Nat->List Value}{z n:Nat}(h:∀k,(e k).length=z){i:Nat}{v:Value}(hv:(Qh e (Oe n))[i]? =some v):∃k j,k<n/\j<z/\i=k*z+j/\(e k)[j]? =some v:=by
 have Xw:i<n*z:=by
  have:=(Array.getElem?_eq_some_iff.1 hv).1;rw[ZE h]at this;simpa using this
 have hz:0<z:=by
  rcases Nat.eq_zero_or_pos z with rfl|h
  ·omega
  ·exact h
 have hk:i / z<n:=Nat.div_lt_of_lt_mul (by rwa[Nat.mul_comm]at Xw);have hj:i % z<z:=Nat.mod_lt _ hz;have hi:i=i / z*z+i % z:=by
  have:=Nat.div_add_mod i z;rw[Nat.mul_comm]at this;omega
 refine⟨i / z,i % z,hk,hj,hi, ?_⟩;have:=dG (e:=e) (xs:=Oe n) h (k:=i / z) (j:=i % z) (by simpa using hk) hj;rw[<-hi,hv]at this;rw[this];simp[Ob,hk]
theorem HZ:∀(s:Sh) (fuel:Nat) (t:TypeId) (cs:List Value) (x:DataW H×List MemPlace),s.chk P none t=true->DataW.trod enc P w 0 (fun _=>true) held fuel t cs=some x->∃ts,s.ok ts/\TRl (allM w) ts cs:=by
 intro s
 -- for fields, too
 have key:(∀(fuel:Nat) (t:TypeId) (cs:List Value) (x:DataW H×List MemPlace),s.chk P none t=true->DataW.trod enc P w 0 (fun _=>true) held fuel t cs=some x->∃ts,s.ok ts/\TRl (allM w) ts cs)/\
  (∀(fl:List Field) (off:Nat) (t:TypeId) (cs:List Value),s.chk P (some (fl,off)) t=true->cs.length=P.cellsOf t->(∀f∈fl,∃fuel x,DataW.trod enc P w 0 (fun _=>true) held fuel f.type ((cs.drop f.offset).take (P.cellsOf f.type))=some x)->∃ts,s.ok ts/\TRl (allM w) ts (cs.drop off)):=by
  induction s with
  |int=>
   refine⟨fun fuel t cs x hc h=> ?_,fun fl off t cs hc=>by simp[Sh.chk]at hc⟩;simp only[Sh.chk]at hc;split at hc
   ·rename_i ht;obtain⟨n,rfl,_,hw⟩:=DataW.trod_int ht h;simp only[Lit.wf,YB,decide_eq_true_eq]at hw;exact⟨_,⟨n,⟨hw.1,hw.2⟩,rfl⟩,TRl.one (.simple rfl)⟩
   ·cases hc
  |bool=>
   refine⟨fun fuel t cs x hc h=> ?_,fun fl off t cs hc=>by simp[Sh.chk]at hc⟩;simp only[Sh.chk]at hc;split at hc
   ·rename_i ht;obtain⟨b,rfl,_⟩:=DataW.trod_bool ht h;exact⟨_,⟨b,rfl⟩,TRl.one (.simple rfl)⟩
   ·cases hc
  |str=>
   refine⟨fun fuel t cs x hc h=> ?_,fun fl off t cs hc=>by simp[Sh.chk]at hc⟩;simp only[Sh.chk]at hc;split at hc
   ·rename_i ht;obtain⟨b,rfl,_,hl⟩:=DataW.trod_string ht h;exact⟨_,⟨b,hl,rfl⟩,TRl.one (.simple rfl)⟩
   ·cases hc
  |unit=>
   refine⟨fun fuel t cs x hc h=>by simp[Sh.chk]at hc,fun fl off t cs hc hl hf=> ?_⟩;cases fl with
   |nil=>
    simp only[Sh.chk]at hc;have:=YE hc;refine⟨[],rfl, ?_⟩;rw[List.drop_eq_nil_of_le (by omega)];exact TRl.nil
   |cons f fl=>simp[Sh.chk]at hc
  |pair a b iha ihb=>
   refine⟨fun fuel t cs x hc h=>by simp[Sh.chk]at hc,fun fl off t cs hc hl hf=> ?_⟩;cases fl with
   |nil=>simp[Sh.chk]at hc
   |cons f fl=>
    simp only[Sh.chk,YB]at hc;obtain⟨h1,h2,h3,h4⟩:=hc;have h1:=YE h1;have h3:=YE h3;subst h1;obtain⟨fuel,x,hx⟩:=hf f (by simp);obtain⟨ta,oa,ra⟩:=iha.1 fuel f.type _ x h2 hx;obtain⟨tb,ob,rb⟩:=ihb.2 fl _ t cs h4 hl (fun g hg=>hf g (by simp[hg]));refine⟨ta++tb,⟨ta,tb,rfl,oa,ob⟩, ?_⟩;have:cs.drop f.offset=(cs.drop f.offset).take (P.cellsOf f.type)++cs.drop (f.offset+P.cellsOf f.type):=by
     rw[<-List.drop_drop,List.take_append_drop]
    rw[this];exact ra.append rb
  |struct f ih=>
   refine⟨fun fuel t cs x hc h=> ?_,fun fl off t cs hc=>by simp[Sh.chk]at hc⟩;simp only[Sh.chk]at hc;split at hc
   ·rename_i fs ht;obtain⟨xs,n,_,_,hl,hlen,hg⟩:=DataW.trod_struct ht h;obtain⟨ts,h1,h2⟩:=ih.2 fs.toList 0 t cs hc hl fun g hg'=>by
     obtain⟨i,hi⟩:=List.getElem?_of_mem hg';have hi':fs[i]? =some g:=by simpa using hi
     have:=hg i g hi';have Xw:i<xs.length:=by
      have:=(Array.getElem?_eq_some_iff.1 hi').1;omega
     rw[O1 Xw]at this;exact⟨n,_,this⟩
    exact⟨ts,h1,by simpa using h2⟩
   ·cases hc
  |slice e ih=>
   refine⟨fun fuel t cs x hc h=> ?_,fun fl off t cs hc=>by simp[Sh.chk]at hc⟩;simp only[Sh.chk]at hc;split at hc
   ·rename_i u ht;simp only[YB]at hc;obtain⟨hz,hc⟩:=hc;have hz:0<e.sz:=YL hz;rcases Deep.open_slice ht h with ⟨rfl,_⟩|⟨a,len,cap,m,n',D,Pl,rfl,_,hl,hm,hmm,_,hi⟩
    ·exact⟨_,⟨0,fun _=>Oi e.sz undef,fun k=>.inr (Nat.zero_le _),fun k=>by simp,rfl⟩,TRl.one .nil⟩
    ·simp only[if_true]at hmm;subst hmm;have each:∀k,∃r:List Value,(k<len->e.ok r/\(∀j,j<P.cellsOf u->w.cell? (a.add (k*P.cellsOf u+j))=none->False)/\∀(j:Nat) v v',r[j]? =some v->w.cell? (a.add (k*P.cellsOf u+j))=some v'->TRv (allM w) v v')/\r.length=e.sz/\(k<len->e.sz=P.cellsOf u):=by
      intro k;by_cases hk:k<len
      ·obtain⟨cs',hc',ht'⟩:=hi k (by omega);obtain⟨ts,ho,hr⟩:=ih.1 n' u cs' _ hc ht';obtain⟨_,hln,hat⟩:=World.cells?_some hc';have Z8:e.sz=P.cellsOf u:=by rw[<-Sh.ok_sz e ts ho,hr.1,hln]
       refine⟨ts,fun _=>⟨ho,fun j hj hnone=> ?_,fun j v v' hv ZT=> ?_⟩,Sh.ok_sz e ts ho,fun _=>Z8⟩
       ·have:=hat j hj;rw[Deep.add_add,hnone,O1 (by omega)]at this;cases this
       ·have hj:j<ts.length:=(List.getElem?_eq_some_iff.1 hv).1;have:=hat j (by rw[hr.1,hln]at hj;exact hj);rw[Deep.add_add,ZT]at this;exact hr.2 j v v' hv this.symm
      ·exact⟨Oi e.sz undef,fun h=>absurd h hk,by simp,fun h=>absurd h hk⟩
     refine⟨_,⟨len,fun k=>Classical.choose (each k),fun k=> ?_,fun k=>(Classical.choose_spec (each k)).2.1,rfl⟩,TRl.one ?_⟩
     ·by_cases hk:k<len
      ·exact .inl ((Classical.choose_spec (each k)).1 hk).1
      ·exact .inr (by omega)
     ·generalize hr:(fun k=>Classical.choose (each k))=r;have hr1:∀k,k<len->e.ok (r k)/\(∀j,j<P.cellsOf u->w.cell? (a.add (k*P.cellsOf u+j))=none->False)/\∀(j:Nat) v v',(r k)[j]? =some v->w.cell? (a.add (k*P.cellsOf u+j))=some v'->TRv (allM w) v v':=fun k hk=>by rw[<-hr];exact(Classical.choose_spec (each k)).1 hk
      have hr2:∀k,(r k).length=e.sz:=fun k=>by rw[<-hr];exact(Classical.choose_spec (each k)).2.1
      have hr3:∀k,k<len->e.sz=P.cellsOf u:=fun k hk=>(Classical.choose_spec (each k)).2.2 hk
      rcases Nat.eq_zero_or_pos len with rfl|hpos
      ·have:Qh r (Oe 0)=#[]:=rfl;rw[this];exact .empty hm
      ·have Z8:=hr3 0 hpos;have hex:∃v,w.cell? a=some v:=by
        have:=(hr1 0 hpos).2.1 0 (by omega);have ea:a.add (0*P.cellsOf u+0)=a:=by simp[Addr.add]
        rw[ea]at this;cases hq:w.cell? a with
        |none=>exact absurd hq this
        |some v=>exact⟨v,rfl⟩
       obtain⟨v0,hv0⟩:=hex;obtain⟨b,o,arr,ty,fl,rfl,hb,_⟩:=AW hv0;have cellE:∀i,w.cell? ⟨b,o+i,none⟩=arr[o+i]? :=fun i=>by simp[World.cell?,hb]
       refine TRv.slice (o:=o) hl hm hb (fun i hi'=> ?_) fun i v v' hv ZT=> ?_
       ·obtain⟨k,j,hk,hj,rfl,_⟩:=oZ hr2 (i:=i) (v:=(Qh r (Oe len))[i]) (Array.getElem?_eq_getElem hi');have:=(hr1 k hk).2.1 j (by omega);rw[pP,<-Z8,cellE]at this;rcases OG (o+(k*e.sz+j)) arr.size with h1|h1
        ·exact h1
        ·exact absurd (Array.getElem?_eq_none h1) this
       ·obtain⟨k,j,hk,hj,rfl,hkj⟩:=oZ hr2 hv;refine(hr1 k hk).2.2 j v v' hkj ?_;rw[pP,<-Z8,cellE];exact ZT
   ·cases hc
 exact key.1
def Sh.arg:Sh->Value->Prop
 | .struct f,v=> ∃cs,v=.agg cs.toArray/\f.ok cs
 |s,v=>s.ok [v]
def sP:List Sh->List Value->Prop
 |[],l=>l=[]
 |s::ss,l=> ∃t ts,l=t::ts/\s.arg t/\sP ss ts
theorem EU{s:Sh}{t:TypeId}{v:Value}{d:DataW H}{ps:List MemPlace}{r:Reach}{b0:Nat}(hc:s.chk P none t=true)(hv:Value.okWide P w r b0 t v)(h:DataW.Trod enc P w 0 (fun _=>true) held t v d ps):∃tr,s.arg tr/\TRv (allM w) tr v:=by
 obtain⟨fuel,hf⟩:=h;obtain⟨ts,ho,hr⟩:=HZ s fuel t _ _ hc hf;have one:v.cells=#[v]->s.ok ts->(∀f,s≠.struct f)->∃tr,s.arg tr/\TRv (allM w) tr v:=fun hv1 ho hs=>by
  rw[hv1]at hr;match ts,hr,ho with
  |[tr],hr,ho=>
   refine⟨tr, ?_,hr.2 0 tr v rfl rfl⟩;cases s <;> first|exact ho|exact absurd rfl (hs _)
  |[],hr,_=>have:=hr.1;simp at this
  |_::_::_,hr,_=>have:=hr.1;simp at this
 cases s with
 |int=>
  simp only[Sh.chk]at hc;split at hc
  ·rename_i ht;obtain⟨n,rfl⟩:=okWide_int ht hv;exact one rfl ho fun f h=>by cases h
  ·cases hc
 |bool=>
  simp only[Sh.chk]at hc;split at hc
  ·rename_i ht;obtain⟨n,rfl⟩:=okWide_bool ht hv;exact one rfl ho fun f h=>by cases h
  ·cases hc
 |str=>
  simp only[Sh.chk]at hc;split at hc
  ·rename_i ht;obtain⟨n,rfl⟩:=okWide_string ht hv;exact one rfl ho fun f h=>by cases h
  ·cases hc
 |unit=>simp[Sh.chk]at hc
 |pair a b=>simp[Sh.chk]at hc
 |struct f=>
  simp only[Sh.chk]at hc;split at hc
  ·rename_i fs ht;obtain⟨cs,rfl,_⟩:=okWide_struct ht hv;refine⟨.agg ts.toArray,⟨ts,rfl,ho⟩,.agg ?_ fun i v v' h1 h2=> ?_⟩
   ·have:=hr.1;simpa[Value.cells]using this
   ·exact hr.2 i v v' (by simpa using h1) (by simpa[Value.cells]using h2)
  ·cases hc
 |slice e=>
  simp only[Sh.chk]at hc;split at hc
  ·rename_i u ht;obtain⟨a,l,c,rfl⟩:=okWide_slice ht hv;exact one rfl ho fun f h=>by cases h
  ·cases hc
def da(P:Program):List Sh->List TypeId->Bool
 |[],[]=>true
 |s::ss,t::ts=>s.chk P none t && da P ss ts
 |_,_=>false
theorem trodAll_cons{t:TypeId}{ts:List TypeId}{vs:List Value}{ds:List (DataW H)}{ps:List MemPlace}{base:Nat}{spare:Nat->Bool}(h:DataW.TrodAll enc P w base spare held (t::ts) vs ds ps):
 ∃v vs' d ds' p q,vs=v::vs'/\ds=d::ds'/\DataW.Trod enc P w base spare held t v d p/\DataW.TrodAll enc P w base spare held ts vs' ds' q/\ps=p++q:=by
 cases vs with
 |nil=>cases ds <;> simp[DataW.TrodAll]at h
 |cons v vs=>
  cases ds with
  |nil=>simp[DataW.TrodAll]at h
  |cons d ds=>
   simp only[DataW.TrodAll]at h;obtain⟨p,q,h1,h2,h3⟩:=h;exact⟨v,vs,d,ds,p,q,rfl,rfl,h1,h2,h3⟩
theorem trodAll_nil{vs:List Value}{ds:List (DataW H)}{ps:List MemPlace}{base:Nat}{spare:Nat->Bool}(h:DataW.TrodAll enc P w base spare held [] vs ds ps):vs=[]/\ds=[]/\ps=[]:=by
 cases vs <;> cases ds <;> simp[DataW.TrodAll]at h
 exact⟨rfl,rfl,h⟩
theorem Lu:∀(ss:List Sh) (ts:List TypeId) (vs:List Value) (ds:List (DataW H)) (ps:List MemPlace) (r:Reach) (b0:Nat),da P ss ts=true->DataW.TrodAll enc P w 0 (fun _=>true) held ts vs ds ps->
 (∀(j:Nat) t v,ts[j]? =some t->vs[j]? =some v->Value.okWide P w r b0 t v)->∃trs,sP ss trs/\TRl (allM w) trs vs
 |[],[],vs,ds,ps,r,b0,_,h,_=>by
  obtain⟨rfl,_,_⟩:=trodAll_nil h;exact⟨[],rfl,TRl.nil⟩
 |s::ss,t::ts,vs,ds,ps,r,b0,hc,h,hv=>by
  simp only[da,YB]at hc;obtain⟨v,vs',d,ds',p,q,rfl,rfl,h1,h2,rfl⟩:=trodAll_cons h;obtain⟨tr,ha,hr⟩:=EU hc.1 (hv 0 t v rfl rfl) h1;obtain⟨trs,ha2,hr2⟩:=Lu ss ts vs' ds' q r b0 hc.2 h2 fun j t v h1 h2=>hv (j+1) t v (by simpa using h1) (by simpa using h2)
  exact⟨tr::trs,⟨tr,trs,rfl,ha,ha2⟩,(TRl.one hr).append hr2⟩
 |[],_::_,_,_,_,_,_,hc,_,_=>by simp[da]at hc
 |_::_,[],_,_,_,_,_,hc,_,_=>by simp[da]at hc
theorem Hd{J:World->Prop}{f:FuncId}{ss:List Sh}{ts:List TypeId}{args:Array Value}{ds:List (DataW H)}{ps:List MemPlace}{r:Reach}{b0:Nat}(hJ:J w)(hc:da P ss ts=true)(h:DataW.TrodAll enc P w 0 (fun _=>true) held ts args.toList ds ps)
 (hv:∀(j:Nat) t v,ts[j]? =some t->args[j]? =some v->Value.okWide P w r b0 t v) (walk:∀trs,sP ss trs->Q0 P J f trs.toArray (.bool true)):Calls P f args w fun e w'=>e=.returned (.bool true)/\Below w.heap.size w w':=by
 obtain⟨trs,ha,hr⟩:=Lu ss ts args.toList ds ps r b0 hc h fun j t v h1 h2=>hv j t v h1 (by simpa using h2)
 refine(walk trs ha (allM w) w args hJ (fun b x h=>h) ⟨by simpa using hr.1,fun i v v' h1 h2=>hr.2 i v v' (by simpa using h1) (by simpa using h2)⟩).mono fun e w' ⟨v',he,hb,ht⟩=>⟨?_,hb⟩
 rw[he,TRv.simple_eq rfl ht]
theorem cb(hl:laidOutB P=true){W W':World}(hb:Below W.heap.size W W'):∀(ts:List TypeId) (vs:List Value) (ds:List (DataW H)) (ps:List MemPlace),(ts.all fun t=>P.readableRec t && decide (t<P.types.size))=true->DataW.TrodAll enc P W 0 (fun _=>true) true ts vs ds ps->(∀x∈ps,x.block<W.heap.size)->
 DataW.TrodAll enc P W' 0 (fun b=>decide (b<W.heap.size)) true ts vs ds ps
 |[],vs,ds,ps,_,h,_=>by
  obtain⟨rfl,rfl,rfl⟩:=trodAll_nil h;exact rfl
 |t::ts,vs,ds,ps,ha,h,Xw=>by
  simp only[List.all_cons,YB,decide_eq_true_eq]at ha;obtain⟨v,vs',d,ds',p,q,rfl,rfl,h1,h2,rfl⟩:=trodAll_cons h;exact⟨p,q,Below.trod hl ha.1.1 ha.1.2 h1 hb fun x hx=>Xw x (Oh _ hx),cb hl hb ts vs' ds' q ha.2 h2 fun x hx=>Xw x (Ov _ hx),rfl⟩
theorem Ii{α:Type}{s:Sh}{e:α->List Value}(dec:∀cs,s.ok cs->∃x,cs=e x){n:Nat}{r:Nat->List Value}(h:∀k,s.ok (r k)\/n<=k):∃xs:List α,xs.length=n/\Qh r (Oe n)=Qh e xs:=by
 induction n with
 |zero=>exact⟨[],rfl,rfl⟩
 |succ n ih=>
  obtain⟨xs,hl,hx⟩:=ih fun k=>(h k).imp id fun h=>by omega
  obtain⟨x,hxe⟩:=dec (r n) ((h n).resolve_right (by omega));refine⟨xs++[x],by simp[hl], ?_⟩;unfold Qh at hx ⊢;rw[List.range_succ,List.flatMap_append,List.flatMap_append];have:(Oe n).flatMap r=xs.flatMap e:=by simpa using hx
  rw[this];simp[hxe]
theorem dz{α:Type}{s:Sh}{e:α->List Value}(dec:∀cs,s.ok cs->∃x,cs=e x){cs:List Value}(h:Sh.ok (.slice s) cs):∃xs:List α,cs=[QI xs.length (Qh e xs)]:=by
 obtain⟨n,r,h1,_,rfl⟩:=h;obtain⟨xs,rfl,hx⟩:=Ii dec h1;exact⟨xs,by rw[hx]⟩
theorem LP{cs:List Value}(h:Sh.ok .int cs):∃z:Int,cs=QR z:=by
 obtain⟨z,_,rfl⟩:=h;exact⟨z,rfl⟩
def Sh.zero:Sh->List Value
 | .int=>[.int .i64 0]
 | .bool=>[.bool false]
 | .str=>[.string ⟨#[]⟩]
 | .unit=>[]
 | .pair a b=>a.zero++b.zero
 | .struct f=>f.zero
 | .slice _=>[.slice none 0 0]
def Sh.zeroA:Sh->Value
 | .struct f=>.agg f.zero.toArray
 |s=>s.zero.headD undef
def N3(l:List Sh):Sh:=.struct (l.foldr .pair .unit)
end
end Go.CE

namespace Go.CE
open Go Go.RowKit

def Nk(T:Tm):Tm:=ofList T.len ((Oe T.len).map (Zj T))
structure NY where
 c:CF
 H:Qy
 n:Nat
 g:FuncId
 args:Array Value
 R:List Nat
 W:List Nat
noncomputable def NL(P:Program)(F:FuncId->Bool)(c1:CF)(H:Qy)(n:Nat):Option NY:=
 match c1.mode,c1.todo,c1.defers,c1.roundOf with
 | .run,.code (.region _ ops false)::todo,[],none=>match tq P F X6 0 ops c1 H n with
   |some s=>match s.o.op,s.post with
    | .defer c,[]=>match c.callee with
      | .value x=>match Zl s.T x with
        |some (.func (.func g) xs ys)=>bif c.args.isEmpty && F g && ON s.T.len 16000 then some ⟨⟨c1.fn,Nk (VM s.T s.o.dst undef),todo,[],.run,none⟩,s.H,s.n,g,xs++ys,Y9 s.Q4,Up s.Q4⟩else none
        |_=>none
      |_=>none
    |_,_=>none
   |none=>none
 |_,_,_,_=>none
section
variable {P:Program} {F:FuncId->Bool} {J:World->Prop} {B:Lo} {c0 c:CF} {Hb H:Qy} {a n:Nat} {W Wf:List Nat}
end
def VO(n:Int):Nat:=2 ^ n.toNat
def cz(a n:Int):Nat:=a.toNat >>> n.toNat
def sI(a b:Int):Nat:=a.toNat &&& b.toNat
theorem To{n:Int}(h1:n<=62):VO n<=4611686018427387904:=by unfold VO;exact Nat.le_trans (Nat.pow_le_pow_right (by decide) (show n.toNat<=62 by omega)) (by decide)
theorem Ih{a n:Int}:cz a n<=a.toNat:=by unfold cz;rw[Nat.shiftRight_eq_div_pow];exact Nat.div_le_self _ _
theorem HK{n:Int}(h1:n<=62):(2:Nat) ^ n.toNat<=2 ^ 62:=Nat.pow_le_pow_right (by decide) (by omega)
theorem HL{P:Program}{t:TypeId}{yk:IntKind}{n:Int}(h0:0<=n)(h1:n<=62):oG P .shl t (.int .i64 1) (.int yk n) (.int .i64 ((VO n:Nat):Int)):=fun x y w=>by
 unfold VO;have e:min n.toNat (IntKind.bits IntKind.i64)=n.toNat:=Nat.min_eq_left (by show n.toNat<=64;omega);have hp:=HK h1;have e2:(2:Int) ^ n.toNat=((2 ^ n.toNat:Nat):Int):=by rw[Int.natCast_pow];rfl
 have e3:IntKind.wrap IntKind.i64 (1*2 ^ min n.toNat (IntKind.bits IntKind.i64))=((2 ^ n.toNat:Nat):Int):=by
  rw[e,Int.one_mul,e2];generalize 2 ^ n.toNat=z at *;exact bg (by omega) (by omega)
 have hn:¬n<0:=by omega
 simp only[eqGuard,binOp,Op.shift,hn,if_false,e3];simp
theorem Lk{P:Program}{t:TypeId}{yk:IntKind}{a n:Int}(ha:0<=a)(h0:0<=n)(h1:n<=62):oG P .shr t (.int .i64 a) (.int yk n) (.int .i64 ((cz a n:Nat):Int)):=fun x y w=>by
 unfold cz;obtain⟨b,rfl⟩:∃b:Nat,a=b:=⟨a.toNat,by omega⟩
 have e:min n.toNat (IntKind.bits IntKind.i64)=n.toNat:=Nat.min_eq_left (by show n.toNat<=64;omega);have e3:Int.fdiv (b:Int) (2 ^ min n.toNat (IntKind.bits IntKind.i64))=((((b:Int)).toNat >>> n.toNat:Nat):Int):=by
  rw[e,Int.fdiv_eq_ediv_of_nonneg _ (Int.le_of_lt (Int.pow_pos (by decide))),Int.toNat_natCast,Nat.shiftRight_eq_div_pow,Int.natCast_ediv,Int.natCast_pow];rfl
 have hn:¬n<0:=by omega
 simp only[eqGuard,binOp,Op.shift,hn,if_false,e3];simp
theorem qi{a:Int}(ha:0<=a):BitVec.ofInt (IntKind.bits IntKind.i64) a=BitVec.ofNat 64 a.toNat:=by
 obtain⟨b,rfl⟩:∃b:Nat,a=b:=⟨a.toNat,by omega⟩
 rw[Int.toNat_natCast];exact BitVec.ofInt_natCast 64 b
theorem Ll{P:Program}{t:TypeId}{a b:Int}(ha:0<=a)(ha2:a<=9223372036854775807)(hb:0<=b)(Se:b<=9223372036854775807):oG P .and t (.int .i64 a) (.int .i64 b) (.int .i64 ((sI a b:Nat):Int)):=fun x y w=>by
 unfold sI;have e:IntKind.wrap IntKind.i64 ((BitVec.toNat (BitVec.ofInt (IntKind.bits IntKind.i64) a &&& BitVec.ofInt (IntKind.bits IntKind.i64) b):Nat):Int)=((a.toNat &&& b.toNat:Nat):Int):=by
  rw[qi ha,qi hb];have e3:BitVec.toNat (BitVec.ofNat 64 a.toNat &&& BitVec.ofNat 64 b.toNat)=a.toNat &&& b.toNat:=by
   rw[BitVec.toNat_and,BitVec.toNat_ofNat,BitVec.toNat_ofNat,Nat.mod_eq_of_lt (a:=a.toNat) (by omega),Nat.mod_eq_of_lt (a:=b.toNat) (by omega)]
  show IntKind.wrap IntKind.i64 ((BitVec.toNat (BitVec.ofNat 64 a.toNat &&& BitVec.ofNat 64 b.toNat):Nat):Int)=_;rw[e3];have:=Nat.and_le_left (n:=a.toNat) (m:=b.toNat);exact bg (by omega) (by omega)
 simp only[eqGuard,binOp,Op.intBits,ne_eq,not_true_eq_false,if_false,e];simp
def pushE{α:Type}(m:Nat)(e:α->List Value)(x:α):List Value:=(e x).map (ZY m)
def yo{α:Type}(e:α->List Value):Prop:=∀x,∀v∈e x,simple v=true\/Va v=true
section
variable {α:Type} {e:α->List Value} {m r j z:Nat} {rs:List (Nat×Nat)} {YF:List (Nat×Array Value)} {ow:List (Nat×Nat)} {xs:List α} {rsT:List Nat}
theorem Vg(h:∀x,(e x).all (fun v=>simple v || Va v)=true):yo e:=fun x v hv=>by
 have:=List.all_eq_true.1 (h x) v hv;simpa using this
theorem Ro(v:Value)(h:simple v=true\/Va v=true):(simple v=true/\ZY m v=v)\/(Va v=true/\ZY m v=Q2 m v):=by
 unfold ZY;cases hs:simple v with
 |true=>exact .inl ⟨rfl,rfl⟩
 |false=>rw[hs]at h;exact .inr ⟨by simpa using h,rfl⟩
theorem AV(he:yo e)(hm:(r,j)∈rs)(x:α):AllX m rs YF ow (pushE r e x) (pushE j e x):=by
 have key:∀l:List Value,(∀v∈l,simple v=true\/Va v=true)->AllX m rs YF ow (l.map (ZY r)) (l.map (ZY j)):=by
  intro l;induction l with
  |nil=>intro _;trivial
  |cons v l ih=>
   intro h;refine⟨?_,ih fun u hu=>h u (Ot _ hu)⟩;show jb m rs YF ow (ZY r v) (ZY j v);rcases Ro (m:=r) v (h v (by simp))with ⟨a,b⟩|⟨a,b⟩ <;> rcases Ro (m:=j) v (h v (by simp))with ⟨c,d⟩|⟨c,d⟩
   ·rw[b,d];exact .simple a
   ·rw[b];unfold ZY;rw[a];exact .simple a
   ·rw[d];unfold ZY;rw[c];exact .simple c
   ·rw[b,d];exact .JX hm a
 exact key _ (he x)
theorem AE{e1 e2:α->List Value}(h:∀x,AllX m rs YF ow (e1 x) (e2 x)):Zw m rs YF ow (Qh e1 xs) (Qh e2 xs):=by
 unfold Zw Qh;simp only;induction xs with
 |nil=>trivial
 |cons x xs ih=>simp only[OX];exact(h x).append ih
theorem Y7(he:yo e)(hm:(r,j)∈rs):Zw m rs YF ow (Qh (pushE r e) xs) (Qh (pushE j e) xs):=AE (AV he hm)
theorem AG{vs:List Value}{x:α}(hx:AllX m rs YF ow vs (e x)):Zw m rs YF ow vs.toArray (Qh e [x]):=by
 unfold Zw Qh;simpa using hx
theorem AF{vs:List Value}{x:α}(h:AllX m rs YF ow vs (e x)):∀k:Nat,Zw m rs YF ow (Qh (fun(_:α)=>vs) (Oi k x)) (Qh e (Oi k x))
 |0=>trivial
 |k+1=>by
  unfold Zw Qh;simp only[List.replicate_succ,OX];exact h.append (AF h k)
theorem Kn(he:yo e)(hm:m∈rsT):Zn rsT (Qh (pushE m e) xs) (Qh e xs):=by
 have key:∀l:List Value,(∀v∈l,simple v=true\/Va v=true)->∀(i:Nat) v v1,(l.map (ZY m))[i]? =some v->l[i]? =some v1->oE rsT v v1:=by
  intro l h i v v1 h1 h2;rw[OA,h2]at h1;simp only[OF,YO]at h1;subst h1;rcases Ro (m:=m) v1 (h v1 (Oj h2))with ⟨a,b⟩|⟨a,b⟩
  ·exact .inl ⟨by rw[b];exact a,b.symm⟩
  ·exact .inr ⟨m,hm,b,a⟩
 have e0:Qh (pushE m e) xs=((xs.flatMap e).map (ZY m)).toArray:=by
  unfold Qh pushE;rw[List.map_flatMap]
 refine⟨by rw[e0];simp[Qh],fun i v v1 h1 h2=> ?_⟩;rw[e0]at h1;refine key (xs.flatMap e) (fun v hv=> ?_) i v v1 (by simpa using h1) (by simpa[Qh]using h2);obtain⟨x,_,hx⟩:=List.mem_flatMap.1 hv;exact he x v hx
theorem nU{a:Nat}{t:TypeId}{fl:Nat×Nat}(he:yo e)(hm:m<a):AZ a (.cells (Qh (pushE m e) xs) t fl):=fun i v hv=>by
 have:v∈Qh (pushE m e) xs:=OK hv;simp only[Qh,List.mem_toArray,List.mem_flatMap,pushE,List.mem_map]at this;obtain⟨x,_,u,hu,rfl⟩:=this;rcases Ro (m:=m) u (he x u hu)with ⟨h1,h2⟩|⟨h1,h2⟩
 ·rw[h2];exact .inl (kL h1)
 ·rw[h2];refine .inl ?_;show W4 a (Q2 m u)=true;have:On m a=true:=OB hm;unfold W4;rw[show simple (Q2 m u)=false from rfl,Bool.false_or];exact this
end
def Ur(zs:List Value)(_:Unit):List Value:=zs
theorem DL{zc:Array Value}{z n:Nat}(hz:zc.size=z)(h0:0<z):madeCells zc (n*z)=Qh (Ur zc.toList) (Oi n ()):=by
 have hl:∀x,(Ur zc.toList x).length=z:=fun x=>by simp[Ur,hz]
 refine Array.ext_getElem? fun i=> ?_
 by_cases hi:i<n*z
 ·have hk:i / z<n:=(Nat.div_lt_iff_lt_mul h0).2 hi;have hj:i % z<z:=Nat.mod_lt _ h0;have e:i / z*z+i % z=i:=by rw[Nat.mul_comm];exact Nat.div_add_mod i z
  have:=dG (e:=Ur zc.toList) (xs:=Oi n ()) hl (k:=i / z) (j:=i % z) (by simpa using hk) hj;rw[e]at this;rw[this];have hj':i % z<zc.size:=by rw[hz];exact hj
  simp only[madeCells,Array.getElem?_map,Array.getElem?_range,hi,if_true,OF,hz,Ur];simp[hj']
 ·have a:(madeCells zc (n*z)).size=n*z:=size_madeCells _ _;have b:(Qh (Ur zc.toList) (Oi n ())).size=n*z:=by rw[ZE hl];simp
  rw[Array.getElem?_eq_none (by omega),Array.getElem?_eq_none (by omega)]
def Nn(P:Program)(t e z bytes:Nat)(zs:List Value):Bool:=match Rg P t with
 |some (.slice e')=>Of e' e && match inf P e with
  |some i=>match i.zero with
   |some zv=>Of i.size z && (Of i.bytes bytes && (On 0 z && (Of zv.cells.size z && (Hy (Es 2) zv.cells.toList zs && zs.all simple))))
   |none=>false
  |none=>false
 |_=>false
theorem dg{P:Program}{t e z bytes:Nat}{zs:List Value}(h:Nn P t e z bytes zs=true){l:Int}{k k':IntKind}(h0:0<=l)(hb:bytes*l<=281474976710656)(hn:l<=9223372036854775807):
 RH P t (.int k l) (.int k' l)=some (e,Qh (Ur zs) (Oi l.toNat ()),l.toNat,z):=by
 unfold Nn at h;split at h
 ·rename_i e' hu;split at h
  ·rename_i i hi;split at h
   ·rename_i zv hz;simp only[YB]at h;obtain⟨h1,h2,h3,h4,h5,h6,h7⟩:=h;have h1:=YE h1;have h2:=YE h2;have h3:=YE h3;have h4:0<z:=YL h4;have h5:=YE h5;have h6:=Yo (Kk 2) _ _ h6;subst h1 h2 h3;have e1:=DL (n:=l.toNat) h5 h4;rw[h6]at e1;have YC:(madeCells zv.cells (l.toNat*i.size)).all simple=true:=by
     rw[e1,Array.all_eq_true'];intro v hv;simp only[Qh,List.mem_toArray,List.mem_flatMap,Ur]at hv;obtain⟨_,_,hv⟩:=hv;exact List.all_eq_true.1 h7 v hv
    simp only[RH,hu,hi,hz,decide_eq_true h0,decide_eq_true hb,decide_eq_true hn,decide_eq_true (OV l),YC,Bool.and_self,cond_true];rw[e1]
   ·simp at h
  ·simp at h
 ·cases h
section
variable {α:Type} {e:α->List Value} {m z:Nat} {rs:List (Nat×Nat)} {YF:List (Nat×Array Value)} {ow:List (Nat×Nat)} {xs:List α}
theorem V7{zs:List Value}{x:α}(h:AllX m rs YF ow zs (e x)):∀k:Nat,Zw m rs YF ow (Qh (Ur zs) (Oi k ())) (Qh e (Oi k x))
 |0=>trivial
 |k+1=>by
  unfold Zw Qh;simp only[List.replicate_succ,OX];exact AllX.append h (V7 h k)
theorem AllX.take{l k:List Value}:∀(n:Nat) {l k:List Value},AllX m rs YF ow l k->AllX m rs YF ow (l.take n) (k.take n)
 |0,_,_,_=>trivial
 |_+1,[],[],_=>trivial
 |n+1,_::_,_::_,h=>⟨h.1,AllX.take (l:=[]) (k:=[]) n h.2⟩
 |_+1,[],_::_,h=>h.elim
 |_+1,_::_,[],h=>h.elim
theorem AllX.drop{l k:List Value}:∀(n:Nat) {l k:List Value},AllX m rs YF ow l k->AllX m rs YF ow (l.drop n) (k.drop n)
 |0,_,_,h=>h
 |_+1,[],[],_=>trivial
 |n+1,_::_,_::_,h=>AllX.drop (l:=[]) (k:=[]) n h.2
 |_+1,[],_::_,h=>h.elim
 |_+1,_::_,[],h=>h.elim
theorem AD{cs:Array Value}{vs:List Value}{x:α}{k:Nat}(hz:∀y,(e y).length=z)(h:Zw m rs YF ow cs (Qh e xs))(hk:k<xs.length)(hx:AllX m rs YF ow vs (e x)):Zw m rs YF ow (splice cs (k*z) vs.toArray) (Qh e (xs.set k x)):=by
 have hlen:=(AllX.get hx).1;rw[hz x]at hlen;rw[<-(gU hz hk).2];unfold Zw at h ⊢;unfold splice;simp only[hz x,<-hlen];exact AllX.append (AllX.append (AllX.take (l:=[]) (k:=[]) _ h) hx) (AllX.drop (l:=[]) (k:=[]) _ h)
theorem iS{cs cs1:Array Value}{vs us:List Value}{off:Nat}(h:Zw m rs YF ow cs cs1)(hx:AllX m rs YF ow vs us):Zw m rs YF ow (splice cs off vs.toArray) (splice cs1 off us.toArray):=by
 have hlen:=(AllX.get hx).1;have hl2:=(AllX.get h).1;have e:∀(cs:Array Value) (l:List Value),(splice cs off l.toArray).toList=cs.toList.take off++l++cs.toList.drop (off+l.length):=by
  intro cs l;unfold splice;simp
 unfold Zw at h ⊢;rw[e,e,hlen];exact AllX.append (AllX.append (AllX.take (l:=[]) (k:=[]) _ h) hx) (AllX.drop (l:=[]) (k:=[]) _ h)
theorem Cg{cs:Array Value}{off:Nat}{v:Value}(h:off<cs.size):(splice cs off #[v])[off]? =some v:=by
 have hl:(cs.toList.take off).length=off:=by simp;omega
 unfold splice;rw[List.getElem?_toArray,OZ,Og (by omega),hl];simp
theorem Cf{cs:Array Value}{off:Nat}{u v:Value}(h:off<cs.size):off+1<=(splice cs off #[u]).size/\splice (splice cs off #[u]) off #[v]=splice cs off #[v]:=by
 have hl:(cs.toList.take off).length=off:=by simp;omega
 constructor
 ·unfold splice;simp;omega
 ·unfold splice;congr 1;have e1:(cs.toList.take off++[u]++cs.toList.drop (off+1)).take off=cs.toList.take off:=by
   rw[OZ,List.take_append_of_le_length (by omega),List.take_of_length_le (by omega)]
  have e2:(cs.toList.take off++[u]++cs.toList.drop (off+1)).drop (off+1)=cs.toList.drop (off+1):=by
   rw[List.drop_append_of_le_length (by simp;omega),List.drop_eq_nil_of_le (by simp;omega),List.nil_append]
  show((cs.toList.take off++[u]++cs.toList.drop (off+1)).take off++[v]++(cs.toList.take off++[u]++cs.toList.drop (off+1)).drop (off+1))=_;rw[e1,e2];rfl
theorem bc{cs:Array Value}{vs:List Value}{x:α}{k:Nat}(hz:∀y,(e y).length=z)(h:Zw m rs YF ow cs (Qh e xs))(hk:k<xs.length)(hx:AllX m rs YF ow vs (e x)):Zw m rs YF ow (splice cs (0+k*z) vs.toArray) (Qh e (xs.set k x)):=by
 rw[Oz];exact AD hz h hk hx
theorem Sl(h:∀x,(e x).length=z){k z':Nat}(hk:k<xs.length){x:α}{cs:Array Value}(hc:cs=(e x).toArray)(hz:z'=z):0+k*z+z'<=(Qh e xs).size/\splice (Qh e xs) (0+k*z) cs=Qh e (xs.set k x):=by
 subst hz;rw[Oz];exact Bk h hk hc
theorem dF(h:∀x,(e x).length=z){k z':Nat}(hk:k<xs.length)(hz:z'=z):0+k*z+z'<=(Qh e xs).size:=by
 subst hz;rw[Oz];exact jC h hk
theorem VT[Inhabited α](h:∀x,(e x).length=z){k z':Nat}(hk:k<xs.length){cs:Array Value}(hc:cs=(e (xs.getD k NZ)).toArray)(hz:z'=z):0+k*z+z'<=(Qh e xs).size/\(Qh e xs).extract (0+k*z) (0+k*z+z')=cs:=by
 subst hz hc;rw[Oz];exact⟨jC h hk,QB h hk⟩
end
end Go.CE

noncomputable abbrev Go.CE.YP:Go.Program:=Go.Proofs.Try.prog
namespace Go.Proofs.Ytncjjangllkokaa
open Go Go.CE Go.RowKit
abbrev pA(b o:Nat):Value:=.pointer (some ⟨b,o,none⟩)
def J0:World->Prop:=fun _=>True
theorem Zh:∀w w':World,(∀b,b<w.heap.size->w'.heap[b]? =w.heap[b]?)->J0 w->J0 w':=fun _ _ _ _=>trivial
theorem Qg:YP.follows .mixedOrders=true:=by decide+kernel
theorem okF:∀g,Q9 YP g=true->Q9 YP g=true:=fun _ h=>h
end Go.Proofs.Ytncjjangllkokaa

namespace Go.CE
open Go Go.RowKit

section
variable {P:Program} {F:FuncId->Bool} {T:Tm} {o:Oper} {H:Qy} {n:Nat}
theorem iK{t e:TypeId}{x hi:Operand}{b off N z:Nat}{k:IntKind}{l:Int}(ho:o.op=.slice t x none (some hi) none)(hx:Zl T x=some (.pointer (some ⟨b,off,none⟩)))(hl:Zl T hi=some (.int k l))(hu:Rg P t=some (.array N e))(hz:W8 P e=some z)(hN:ON N maxLen=true)(h1:0<=l)(h2:l<=N):
 bY P F X6 (fun _ _ _=>none) T o H n=some ⟨.ret (.slice (some ⟨b,off,none⟩) l.toNat 0),H,n,[],[]⟩:=by
 have e1:ym N none (some (.int k l))=some (0,l.toNat):=by
  simp only[ym,E5,decide_eq_true h1,decide_eq_true h2,Bool.and_self,cond_true]
 have e4:bd P t (.pointer (some ⟨b,off,none⟩)) none (some (.int k l))=some (.slice (some ⟨b,off,none⟩) l.toNat 0):=by
  simp only[bd,hu,hz,e1,hN,cond_true,Nat.zero_mul,Nat.add_zero,Nat.sub_zero];cases Of N 0 <;> rfl
 have e5:Rd P F (Zl T) o H n=some ⟨.val (.slice (some ⟨b,off,none⟩) l.toNat 0),H,n,[],[]⟩:=by
  unfold Rd sr;simp only[ho,hx,E8,hl,e4,mkPure,OF,List.all_nil,cond_true]
 unfold bY;simp only[ho,e5]
end
section
variable {P:Program} {F:FuncId->Bool} {T:Tm} {o:Oper} {H:Qy} {n:Nat}
theorem wz{c:Call}{s x:Operand}{sv:Value}{t e:TypeId}{b off m s2 z by':Nat}{cs cs':Array Value}{te:TypeId}{f:Nat×Nat}(ho:o.op=.call c)(hc:c.callee=.builtin .append)(ha:c.args.toList=[s,x])(hat:c.argTypes.toList=[t,t])
 (hs:Zl T s=some sv) (hbn:YW sv=true) (hx:Zl T x=some (.slice (some ⟨b,off,none⟩) m s2)) (hu:Rg P t=some (.slice e)) (hi:(inf P e).map (fun i=>(i.zero.map (·.cells.size),i.size,i.bytes))=some (some (z+1),z+1,by')) (hb:Q1 H b=some (.cells cs te f)) (hn:b<n)
 (hq:0<m/\m<=maxLen/\m*by'<=140737488355328/\off+m*(z+1)<=cs.size/\ones (cs.extract off (off+m*(z+1)))=true/\cs.extract off (off+m*(z+1))=cs'):
 bY P F X6 (fun _ _ _=>none) T o H n=some ⟨.ret (.slice (some ⟨n,0,none⟩) m (z+1)),(n,.cells cs' e (0,0))::H,n+1,[b],[]⟩:=by
 obtain⟨h1,h2,h3,h4,h5,rfl⟩:=hq;cases hinf:inf P e with
 |none=>rw[hinf]at hi;cases hi
 |some i=>
  rw[hinf]at hi;simp only[OF,YO,YR]at hi;obtain⟨i1,i2,i3⟩:=hi;cases hz:i.zero with
  |none=>rw[hz]at i1;cases i1
  |some zv=>
   rw[hz]at i1;simp only[OF,YO]at i1;have eb:bare sv=.slice none 0 0:=by
    unfold YW at hbn;split at hbn
    ·rfl
    ·rfl
    ·cases hbn
   have e4:yl P t t H n sv (.slice (some ⟨b,off,none⟩) m s2)=some ⟨.val (.slice (some ⟨n,0,none⟩) m (z+1)),(n,.cells (cs.extract off (off+m*(z+1))) e (0,0))::H,n+1,[b],[]⟩:=by
    have q1:Of zv.cells.size (z+1)=true:=by rw[i1];simp
    have q2:ON m maxLen=true:=OB h2;have q3:ON (m*i.bytes) 140737488355328=true:=OB (by rw[i3];exact h3);have q4:On 0 m=true:=OB h1;have q5:ON (off+m*(z+1)) cs.size=true:=OB h4;simp only[yl,eb,show Of t t=true by simp,cond_true,Um,hu,hinf,hz,i2,RX,mB,hb,q5,h5,q1,q2,q3,q4,Oz,Bool.and_self,TA,Option.toList,Array.empty_append]
   have e5:Rd P F (Zl T) o H n=some ⟨.val (.slice (some ⟨n,0,none⟩) m (z+1)),(n,.cells (cs.extract off (off+m*(z+1))) e (0,0))::H,n+1,[b],[]⟩:=by
    unfold Rd sr;simp only[ho,hc,ha,hat,hs,hx,e4,List.all_cons,List.all_nil,show On b n=true from OB hn,Bool.and_self,cond_true]
   unfold bY;simp only[ho,e5]
end
theorem W9{α:Type}{e:α->List Value}{xs:List α}{x:α}{cs:Array Value}(h:cs=(e x).toArray):Qh e xs++cs=Qh e (xs++[x]):=by
 rw[h];exact WH
def Qp(fs:List Int)(k:Nat):Int:=fs.getD k 0
def y5(k:Nat)(x:Int):Nat->List Int->List Int
 |_,[]=>[]
 |j,f::l=>(if k=j then x else f)::y5 k x (j+1) l
theorem dn(k:Nat)(x:Int):∀(l:List Int) (j:Nat),(y5 k x j l).length=l.length
 |[],_=>rfl
 |_::l,j=>by simp[y5,dn k x l (j+1)]
theorem tf(k:Nat)(x:Int):∀(l:List Int) (j i:Nat),i<l.length->(y5 k x j l)[i]? =some (if k=j+i then x else l.getD i 0)
 |[],_,_,h=>by simp at h
 |f::l,j,0,_=>by simp[y5]
 |f::l,j,i+1,h=>by
  have:=tf k x l (j+1) i (by simpa using h);simp only[y5,List.getElem?_cons_succ,this,List.getD_cons_succ];rw[show j+1+i=j+(i+1)by omega]
theorem sH{cs:Array Value}{fs:List Int}{off i:Nat}(h:(cs.toList.drop off).take fs.length=fs.map (Value.int .i64))(hi:i<fs.length):cs[off+i]? =some (.int .i64 (fs.getD i 0)):=by
 have e:((cs.toList.drop off).take fs.length)[i]? =(fs.map (Value.int .i64))[i]? :=by rw[h]
 rw[O0 hi,List.getElem?_drop,OA,Om]at e;rw[e];simp[Ol,hi]
theorem Z9{cs:Array Value}{fs:List Int}{off k:Nat}(h:(cs.toList.drop off).take fs.length=fs.map (Value.int .i64))(hk:k<fs.length):cs[off+k*1]? =some (.int .i64 (Qp fs k)):=by
 rw[Nat.mul_one];exact sH h hk
theorem DJ{l:List Int}:ones (Qh QR l)=true:=by
 unfold ones;rw[Array.all_eq_true'];intro v hv;have:=Qq (e:=QR) (fun x v hv=>by simp[QR]at hv;subst hv;rfl) v hv;cases v <;> first|rfl|cases this
theorem BC{cs:Array Value}{fs:List Int}{off m:Nat}(h:(cs.toList.drop off).take fs.length=fs.map (Value.int .i64))(hm:m<=fs.length)(h0:0<fs.length):off+m*1<=cs.size/\ones (cs.extract off (off+m*1))=true/\cs.extract off (off+m*1)=Qh QR (fs.take m):=by
 have Z8:off+fs.length<=cs.size:=by
  have e:=sH h (i:=fs.length-1) (by omega);have:=(Array.getElem?_eq_some_iff.1 e).1;omega
 rw[Nat.mul_one];have e:cs.extract off (off+m)=Qh QR (fs.take m):=by
  apply Array.ext';rw[Array.toList_extract,List.extract_eq_drop_take,show off+m-off=m by omega];have e2:(cs.toList.drop off).take m=((cs.toList.drop off).take fs.length).take m:=by rw[List.take_take,Nat.min_eq_left hm]
  rw[e2,h,<-List.map_take];induction fs.take m with
  |nil=>rfl
  |cons x l ih=>rw[List.map_cons,ih];rfl
 exact⟨by omega,by rw[e];exact DJ,e⟩
theorem HO{cs:Array Value}{fs:List Int}{off k:Nat}(h:(cs.toList.drop off).take fs.length=fs.map (Value.int .i64))(hk:k<fs.length):cs.extract (off+k*1) (off+k*1+1)=#[.int .i64 (Qp fs k)]:=by
 have e:=Z9 h hk;have hs:=(Array.getElem?_eq_some_iff.1 e).1;refine Array.ext_getElem? fun i=> ?_
 rw[OY];by_cases hi:i=0
 ·subst hi;rw[if_pos (by omega),Nat.add_zero,e];rfl
 ·rw[if_neg (by omega),Array.getElem?_eq_none (by simp;omega)]
theorem MP{l:List Int}{k:Nat}(h:l.length<=4):Qp [l.getD 0 0,l.getD 1 0,l.getD 2 0,l.getD 3 0] k=l.getD k 0:=by
 match k with
 |0=>rfl
 |1=>rfl
 |2=>rfl
 |3=>rfl
 |k+4=>
  have e:l.getD (k+4) 0=0:=by rw[Ol,Ou (by omega)];rfl
  rw[e];rfl
theorem sF{cs cs' vc:Array Value}{fs:List Int}{off k:Nat}{x:Int}(hv:vc=#[.int .i64 x])(h:(cs.toList.drop off).take fs.length=fs.map (Value.int .i64))(hk:k<fs.length)(hc:cs'.toList=cs.toList.take off++(y5 k x 0 fs).map (Value.int .i64)++cs.toList.drop (off+fs.length)):
 off+k*1+1<=cs.size/\splice cs (off+k*1) vc=cs':=by
 subst hv;have Z8:off+fs.length<=cs.size:=by
  have e:=sH h (i:=fs.length-1) (by omega);have:=(Array.getElem?_eq_some_iff.1 e).1;omega
 rw[Nat.mul_one];refine⟨by omega,Array.ext_getElem? fun i=> ?_⟩;rw[KD (by simp;omega),<-Om (xs:=cs'),hc];have l1:(cs.toList.take off).length=off:=by simp;omega
 by_cases h1:i<off
 ·rw[if_neg (by simp;omega),OZ,Ow (by omega),O0 h1,Om]
 ·rw[OZ,Og (by omega),l1];by_cases h2:i-off<fs.length
  ·rw[Ow (by simp[dn];omega),OA,tf k x fs 0 (i-off) h2];by_cases h3:i=off+k
   ·subst h3;rw[if_pos (by simp),if_pos (by omega)];simp
   ·rw[if_neg (by simp;omega),if_neg (by omega)];have e:=sH h h2;rw[show off+(i-off)=i by omega]at e;rw[e];rfl
  ·rw[if_neg (by simp;omega),Og (by simp[dn];omega),List.getElem?_drop,List.length_map,dn,Om];congr 1;omega
theorem fo{xs:List Int}{cs cs':Array Value}{off k r m:Nat}{e:Int->List Value}(he:∀x,e x=[.int .i64 x])(hm:m=xs.length)(h0:0<m)(hk:m<=k)(h:(cs.toList.drop off).take k=Oi k (Value.int .i64 0))(hz:off+k<=cs.size)
 (hc:cs'.toList=cs.toList.take off++((Oe k).map fun j=>Value.int .i64 (xs.getD j NZ))++cs.toList.drop (off+k)):
 0<m/\off+OU m k*1<=cs.size/\OU m k*1<=(Qh e xs).size/\((Qh e xs).all fun v=>simple v || Va v)=true/\ones (((Qh e xs).extract 0 (OU m k*1)).map (ZY r))=true/\splice cs off (((Qh e xs).extract 0 (OU m k*1)).map (ZY r))=cs':=by
 subst hm;have hmin:OU xs.length k*1=xs.length:=by rw[Nat.mul_one];exact Nat.min_eq_left hk
 have hrow:Qh e xs=(xs.map (Value.int .i64)).toArray:=by
  have:xs.flatMap e=xs.map (Value.int .i64):=by
   have:e=fun x=>[Value.int .i64 x]:=funext he
   rw[this];have h9:∀l:List Int,l.flatMap (fun x=>[Value.int .i64 x])=l.map (Value.int .i64):=fun l=>by
    induction l with
    |nil=>rfl
    |cons x l ih=>rw[OX,ih];rfl
   exact h9 xs
  unfold Qh;rw[this]
 have Z8:(Qh e xs).size=xs.length:=by rw[hrow];simp
 have hext:((Qh e xs).extract 0 (OU xs.length k*1)).map (ZY r)=(xs.map (Value.int .i64)).toArray:=by
  rw[hmin,hrow];apply Array.ext_getElem?;intro i;rw[Array.getElem?_map,OY];by_cases hi:i<xs.length
  ·rw[if_pos (by simp;omega)];simp[hi,ZY,simple]
  ·rw[if_neg (by simp;omega)];simp[hi]
 rw[hext,hmin,Z8];refine⟨h0,by omega,OE _, ?_, ?_,Array.ext_getElem? fun i=> ?_⟩
 ·rw[hrow];simp[simple]
 ·simp[ones,Value.oneCell']
 ·rw[KD (by simp;omega),<-Om (xs:=cs'),hc];have l1:(cs.toList.take off).length=off:=by simp;omega
  by_cases h1:i<off
  ·rw[if_neg (by simp;omega),OZ,Ow (by omega),O0 h1,Om]
  ·rw[OZ,Og (by omega),l1];by_cases h2:i-off<k
   ·rw[Ow (by simp;omega),OA,List.getElem?_range h2];by_cases h3:i-off<xs.length
    ·rw[if_pos (by simp;omega)];simp[h3,Ol]
    ·rw[if_neg (by simp;omega)];have e2:((cs.toList.drop off).take k)[i-off]? =(Oi k (Value.int .i64 0))[i-off]? :=by rw[h]
     rw[O0 h2,List.getElem?_drop,show off+(i-off)=i by omega,Om,List.getElem?_replicate,if_pos h2]at e2;rw[e2];simp[Ol,Ou (show xs.length<=i-off by omega)]
   ·rw[if_neg (by simp;omega),Og (by simp;omega),List.getElem?_drop,Om];congr 1;simp;omega
theorem FinK.wri{P:Program}{J:World->Prop}{g:FuncId}{args:Array Value}{c0:CF}{Hb ws:Qy}{a:Nat}{Wf:List Nat}{bs outs news:List Obj}{out:OO}(hc:ZW P g args=some c0)(e1:Hb=jc bs)(e2:a=bs.length+1)(e3:ws=QU 1 outs)(e4:Wf=OH 1 bs.length)
 (h:∀B:Lo,(∀w,B.has w->J w)->FinK P B c0 Hb a out ws news Wf):WriC P J g args bs out outs news:=fun B hJ μ w args' cs QF hB hf hv=>by
 subst e1 e2 e3 e4;obtain⟨Zq,w',μ',hp,ho,_,he⟩:=h B hJ μ w _ cs QF hB hf (Kc hc hv);rw[show bs.length+1+1+news.length=bs.length+2+news.length by omega]at hp;exact⟨Zq,w',μ',hp,ho,he⟩
theorem Fc{α:Type}{e:α->List Value}{xs:List α}{z:Nat}[Inhabited α](h:∀x,(e x).length=z){k j:Nat}{v:Value}(hk:k<xs.length)(hv:(e (xs.getD k NZ))[j]? =some v):(Qh e xs)[0+k*z+j]? =some v:=by
 rw[Oz];exact Bl h hk hv
theorem Ks{α:Type}[Inhabited α]{e:α->List Value}{z:Nat}{xs:List α}(h:∀x,(e x).length=z){k j z':Nat}(hk:k<xs.length){x:α}{cs:Array Value}(hx:e x=(e (xs.getD k NZ)).take j++cs.toList++(e (xs.getD k NZ)).drop (j+z'))(hz:z'=cs.size)(hj:j+z'<=z):0+k*z+j+z'<=(Qh e xs).size/\splice (Qh e xs) (0+k*z+j) cs=Qh e (xs.set k x):=by
 have hle:=jC (e:=e) h hk;have Wh:=Bk (e:=e) h hk (x:=x) (cs:=(e x).toArray) rfl;have hX:(e x).length=z:=h _;have hE:(e (xs.getD k NZ)).length=z:=h _;have hr:∀q,q<z->(Qh e xs)[k*z+q]? =(e (xs.getD k NZ))[q]? :=fun q hq=>by
  have hq':q<(e (xs.getD k NZ)).length:=by omega
  rw[Bl (e:=e) h hk (O1 hq'),O1 hq']
 generalize e (xs.getD k NZ)=E at *;subst hz;have hc:cs.toList.length=cs.size:=Array.length_toList ..;have ht:(E.take j).length=j:=by rw[List.length_take];omega
 have key:∀q,(e x).toArray[q]? =(E.take j++(cs.toList++E.drop (j+cs.size)))[q]? :=fun q=>by rw[List.getElem?_toArray,hx,OZ]
 have ec:∀q,cs[q]? =cs.toList[q]? :=fun q=>(Om ..).symm
 refine⟨by omega, ?_⟩;rw[<-Wh.2];apply Array.ext_getElem?;intro i;have s2:(e x).toArray.size=z:=hX;rw[KD (by omega),KD (by omega),s2,key,ec];by_cases h1:0+k*z+j<=i/\i<0+k*z+j+cs.size
 ·rw[if_pos h1,if_pos (by omega),Og (by omega),Ow (by omega)];congr 1;omega
 ·rw[if_neg h1];by_cases h2:k*z<=i/\i<k*z+z
  ·rw[if_pos h2];have h5:=hr (i-k*z) (by omega);rw[show k*z+(i-k*z)=i by omega]at h5;rw[h5];by_cases h3:i<k*z+j
   ·rw[Ow (by omega),O0 (by omega)]
   ·rw[Og (by omega),Og (by omega),List.getElem?_drop];congr 1;omega
  ·rw[if_neg h2]
end Go.CE
