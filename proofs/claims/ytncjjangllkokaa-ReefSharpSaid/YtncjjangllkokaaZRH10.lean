/- TW 7: heads and ends of runs with trees; contracts. -/
import Derived.Test.YtncjjangllkokaaZRH09
import Derived.Deep.Slices
import Derived.Carry
import Derived.WideShapes
import Derived.ChangeShapes
import Derived.SevenTiedAt
import Derived.Test.YtncjjangllkokaaZRH07
import Derived.Test.YtncjjangllkokaaProg
set_option linter.all false
open List renaming getElem?_eq_none->LA,getElem?_cons_zero->Lv,getElem?_map->LC,mem_of_getElem? ->Lp,flatMap_cons->LW,getElem?_append_left->Ly,getElem?_append_right->Ll,range->Lg,mem_cons_of_mem->Lw,getD_eq_getElem?_getD->Lq,getElem?_eq_getElem->LZ,length_append->Li,getD->Ld,replicate->Ln,mem_append_left->Lm,mem_append_right->Lx,append_assoc->LY,getElem?_take_of_lt->L0,range'->LK
open Nat renaming ble->LP,beq->Lf,lt_or_ge->LJ,le_refl->LH,zero_add->LB,blt->Ls,ble_eq_true_of_le->LD,min->LU
open Option renaming map_some->LI
open Array renaming mem_of_getElem? ->LL,getElem?_toList->Lr,getElem?_extract->LX
open Int renaming le_refl->LR
open Inhabited renaming default->La
namespace Go.CE
open Go Go.RowKit

def XW:Qq:=[(0,Xx)]
def Q9(objs:List Obj):Qq:=(0,Xx)::(1,Xx)::Xa 2 objs
theorem sm(objs:List Obj)(j:Nat):Qt (Q9 objs) j=if j=0 then some Xx else if j=1 then some Xx else objs[j-2]? :=by
 unfold Q9;rw[QQ,QQ,Vs];by_cases h0:j=0
 ·simp[h0]
 ·by_cases h1:j=1
  ·simp[h1]
  ·rw[if_neg h0,if_neg h1,if_pos (by omega),if_neg h0,if_neg h1]
theorem jo(objs:List Obj):Under (Q9 objs) (2+objs.length):=fun i hi=>by
 rw[sm,if_neg (by omega),if_neg (by omega),LA (by omega)]
def ca(H:Qq)(m:Nat)(pos:Nat->Option Nat)(fz:List Fz):List (Nat×KS)->Option (List Obj×List Prop)
 |[]=>some ([],[])
 |(k,s)::l=>match coO H m pos fz (Qt H k) s with
  |some (o,L)=>match ca H m pos fz l with
   |some (os,L2)=>some (o::os,L++L2)
   |none=>none
  |none=>none
structure OD where
 fn:FuncId
 len:Nat
 todo:List Item
 defers:List Nat
 mode:CM
 roundOf:Option Nat
 vals:List Value
 objs:List Obj
 L:List Prop
def IX:Option Obj->Bool
 |some (.cells _ _ (0,0))=>true
 |_=>false
def landM(s:Option ST)(slots:List Nat)(keeps:List (Nat×KS))(fz:List Fz):Option OD:=match s with
 |some ⟨.at c H n,W,L⟩=>bif W.isEmpty && distinct (keeps.map (·.1)) && (keeps.all fun k=>LP 1 k.1) && (fz.all fun x=>LP 1 x.k && IX (Qt H x.k) && (keeps.all fun k=> !(Lf k.1 x.k)))then
  match uw (Am H 1 (posOf (keeps.map (·.1)) 2) fz 3) (slots.map (Zc c.tmps)),ca H 1 (posOf (keeps.map (·.1)) 2) fz keeps with
  |some (vs,L1),some (os,L2)=>some ⟨c.fn,c.tmps.len,c.todo,c.defers,c.mode,c.roundOf,vs,os,L1++(L2++L)⟩
  |_,_=>none
   else none
 |_=>none
section
variable {P:Program} {F:FuncId->Bool} {J:World->Prop} {B:Lo}
theorem uv{f:Value->Option (Value×List Prop)}:∀(l ts:List Value) (L:List Prop),uw f l=some (ts,L)->ts.length=l.length/\∀(i:Nat) v,ts[i]? =some v->∃u L1,l[i]? =some u/\f u=some (v,L1)/\(Qr L->Qr L1)
 |[],ts,L,h=>by
  simp only[uw,YO,YR]at h;obtain⟨rfl,rfl⟩:=h;exact⟨rfl,fun i v h=>by simp at h⟩
 |v::l,ts,L,h=>by
  simp only[uw]at h;split at h
  ·rename_i t L1 h1;split at h
   ·rename_i ts2 L2 h2;simp only[YO,YR]at h;obtain⟨rfl,rfl⟩:=h;obtain⟨k1,k2⟩:=uv l ts2 L2 h2;refine⟨by simp[k1],fun i u x=> ?_⟩;cases i with
    |zero=>
     simp only[Lv,YO]at x;subst x;exact⟨v,L1,rfl,h1,fun h=>(X6 h).1⟩
    |succ i=>
     obtain⟨u',L',a,b,c⟩:=k2 i u (by simpa using x);exact⟨u',L',by simpa using a,b,fun h=>c (X6 h).2⟩
   ·cases h
  ·cases h
theorem KH{H:Qq}{m:Nat}{pos:Nat->Option Nat}{fz:List Fz}:∀(l:List (Nat×KS)) (os:List Obj) (L:List Prop),ca H m pos fz l=some (os,L)->os.length=l.length/\∀(i:Nat) o,os[i]? =some o->∃k s L1,l[i]? =some (k,s)/\coO H m pos fz (Qt H k) s=some (o,L1)/\(Qr L->Qr L1)
 |[],os,L,h=>by
  simp only[ca,YO,YR]at h;obtain⟨rfl,rfl⟩:=h;exact⟨rfl,fun i v h=>by simp at h⟩
 |(k,s)::l,os,L,h=>by
  simp only[ca]at h;split at h
  ·rename_i t L1 h1;split at h
   ·rename_i ts2 L2 h2;simp only[YO,YR]at h;obtain⟨rfl,rfl⟩:=h;obtain⟨k1,k2⟩:=KH l ts2 L2 h2;refine⟨by simp[k1],fun i u x=> ?_⟩;cases i with
    |zero=>
     simp only[Lv,YO]at x;subst x;exact⟨k,s,L1,rfl,h1,fun h=>(X6 h).1⟩
    |succ i=>
     obtain⟨k',s',L',a,b,c⟩:=k2 i u (by simpa using x);exact⟨k',s',L',by simpa using a,b,fun h=>c (X6 h).2⟩
   ·cases h
  ·cases h
theorem TR.merge{μ' μ1:Mu}{T':Tm}{A:Array Value}{len:Nat}{live:List (Nat×Value)}(h:TR μ' T' A)(hlen:T'.len=len)(hl:len<=16000)(hlive:∀p∈live,∀v',VR μ' (Zc T' p.1) v'->VR μ1 p.2 v')
 {d:Nat->Value} (hd:∀t,Xi (d t)/\∀μ v',VR μ (Zc T' t) v'->VR μ (d t) v'):TR μ1 (mkT len live d) A:=by
 refine⟨hlen ▸ h.1,fun t=> ?_⟩;rw[NQ hl];have ht:=h.2 t;split
 ·rcases CK live t (d t)with e|⟨v,hv,e⟩
  ·rw[e];exact(hd t).1 μ' μ1 _ ((hd t).2 μ' _ ht)
  ·rw[e];exact hlive _ hv _ ht
 ·rename_i Xp;have:A.getD t undef=undef:=by
   have:A.size<=t:=by rw[<-h.1,hlen];omega
   simp[this]
  rw[this];exact VR.undef
theorem GoE.landM{c0 c:CF}{H:Qq}{n:Nat}(hF:∀g,F g=true->Q1 P g=true)(hJ:∀w,B.has w->J w)(Zl:P.follows .mixedOrders=true)(h:GoE P B c0 XW 1 c H n []){fuel:Nat}{sc:Q7}{f:FuncId}{len:Nat}{todo:List Item}{slots:List Nat}{keeps:List (Nat×KS)}{fz:List Fz}{vs:List Value}{os:List Obj}{L:List Prop}
 (e:CE.landM (Qo P F J B fuel 1 c H n sc 0 [] []) slots keeps fz=some ⟨f,len,todo,[],.run,none,vs,os,L⟩) (hL:Qr L) (hlen:LP len 16000=true) (hplain:todo.all PF=true):
 ∃d:Nat->Value,(∀t,Xi (d t))/\GoE P B c0 XW 1 (QA f len (slots.zip vs) d todo) (Q9 os) (2+os.length) []:=by
 unfold CE.landM at e;split at e
 ·rename_i c' H' n' W' L' hs;have e:=e;cases hq:(W'.isEmpty && distinct (keeps.map (·.1)) && (keeps.all fun k=>LP 1 k.1) && (fz.all fun x=>LP 1 x.k && IX (Qt H' x.k) && (keeps.all fun k=> !(Lf k.1 x.k))))with
  |false=>rw[hq]at e;cases e
  |true=>
   rw[hq]at e;simp only[cond_true]at e;split at e
   ·rename_i vs0 L1 os0 L2 hvs hos;simp only[YO,OD.mk.injEq]at e;obtain⟨e1,e2,e3,e4,e5,e6,rfl,rfl,rfl⟩:=e;obtain⟨hL1,hL23⟩:=X6 hL;obtain⟨hL2,hL3⟩:=X6 hL23;simp only[YB]at hq;obtain⟨⟨⟨hW,hdist⟩,hge⟩,hfz⟩:=hq;have hWe:W'=[]:=by simpa using hW
    subst hWe;obtain⟨R,W2,a8,hiff⟩:=WH hF hJ Zl fuel 1 c H n sc 0 [] [] _ h.under hs hL3;have hg:=(h.step a8).lists (W1:=[]) (fun i hi=>by
     have:=hiff i hi;simp only[List.not_mem_nil,false_or]at this;simp[<-this])
    have hd:∀t,∃d,Xi d/\∀μ v',VR μ (Zc c'.tmps t) v'->VR μ d v':=fun t=>Jf _
    have hlenos:=(KH keeps os0 L2 hos).1;refine⟨fun t=>Classical.choose (hd t),fun t=>(Classical.choose_spec (hd t)).1,jo _,by omega,fun Z μ w fr cs QE hB hf XJ=> ?_⟩;obtain⟨fr',w',μ',hp,hfr',a,b,ZB⟩:=hg.sem Z μ w fr cs QE hB hf XJ;let ρ:Nat->Nat:=fun i=>if i=0 then 0 else((keeps.map (·.1))[i-2]?).getD i
    have hρ:∀i k,2<=i->(keeps.map (·.1))[i-2]? =some k->ρ i=k:=fun i k hi hk=>by
     show(if i=0 then 0 else((keeps.map (·.1))[i-2]?).getD i)=k;rw[if_neg (by omega),hk];rfl
    have get:∀i,1<i->i<2+os0.length->∃k,(keeps.map (·.1))[i-2]? =some k/\ρ i=k/\1<=k:=by
     intro i h1 h2;have Xp:i-2<keeps.length:=by omega
     refine⟨(keeps[i-2]).1,by simp[Xp],hρ i _ (by omega) (by simp[Xp]), ?_⟩;exact YL (List.all_eq_true.1 hge _ (List.getElem_mem Xp))
    let im1:dx:=⟨0,0,0,false,YD μ' H' w' (Ph H' n'++fz.map (·.k))⟩
    let μ1:=lq 1 (2+os0.length) ρ μ μ' (YD μ' H' w' (Ph H' n'++fz.map (·.k)))
    have hco:Ax H' 1 (posOf (keeps.map (·.1)) 2) fz μ' μ1 w' n' (fz.map (·.k)) im1:=by
     refine⟨⟨B.B,_,hp.ok,fun i hi=> ?_⟩,hg.under,fun k j hj=> ?_, ?_,rfl,fun x hx=>List.mem_map.2 ⟨x,hx,rfl⟩⟩
     ·rcases LJ i 1 with h|h
      ·exact .inl h
      ·exact .inr ⟨h,hi⟩
     ·obtain⟨h1,h2⟩:=TZ _ _ _ _ hj;have Xp:j-2<keeps.length:=by
       have:=(List.getElem?_eq_some_iff.1 h2).1;simpa using this
      show lq 1 (2+os0.length) ρ μ μ' _ j=μ' k;unfold lq;rw[if_neg (by omega),if_pos ⟨by omega,by omega⟩,hρ j k h1 h2]
     ·show lq 1 (2+os0.length) ρ μ μ' _ 1=some im1;unfold lq;rw[if_pos rfl]
    have hkeeps:Dx 1 n' (2+os0.length) [] μ μ' XW H' (Q9 os0) w' ρ (fz.map (·.k)):=by
     refine⟨by omega,fun i hi=> ?_,fun i h1 h2=> ?_,fun i j h1 h2 h3 h4 h5=> ?_,jo _,fun i hi _=> ?_, ?_,fun i o1 hi hc ho=> ?_,fun k hk=> ?_⟩
     ·have:i=0:=by omega
      subst this;rfl
     ·obtain⟨k,hk,hk2,hk3⟩:=get i h1 h2;refine⟨by omega, ?_⟩;rw[hk2];have Xp:i-2<os0.length:=by omega
      obtain⟨k',s,L',ha,hb,hc⟩:=(KH keeps os0 L2 hos).2 (i-2) os0[i-2] (by simp[Xp]);have:k'=k:=by
       rw[LC,ha]at hk;simpa using hk
      subst this;obtain⟨⟨x,hx⟩,_⟩:=Tw hco hb (hc hL2);exact hg.under.lt hx
     ·obtain⟨k,hk,hk2,_⟩:=get i h1 h2;obtain⟨k',hk',hk2',_⟩:=get j h3 h4;rw[hk2,hk2']at h5;subst h5;have:=P1 hdist _ _ _ hk hk';omega
     ·have:i=0:=by omega
      subst this;rfl
     ·rfl
     ·have h1i:1<i:=hc.elim id fun h=>by simp at h
      rw[sm,if_neg (by omega),if_neg (by omega)]at ho;obtain⟨k,s,L',ha,hb,hc'⟩:=(KH keeps os0 L2 hos).2 (i-2) o1 ho;obtain⟨_,hnr,S0⟩:=Tw hco hb (hc' hL2);refine⟨hnr,fun hl1=> ?_⟩;obtain⟨x,hx,hl,ZU⟩:=S0 hl1;refine⟨x, ?_,hl,fun im _ h=>ZU im h⟩;rw[hρ i k (by omega) (by rw[LC,ha];rfl)];exact hx
     ·obtain⟨x,hx,rfl⟩:=List.mem_map.1 hk;have:=List.all_eq_true.1 hfz x hx;simp only[YB]at this;obtain⟨⟨q1,q2⟩,q3⟩:=this;have hown:∃o,Qt H' x.k=some o/\live o:=by
       unfold IX at q2;split at q2
       ·rename_i ho;exact⟨_,ho,trivial⟩
       ·cases q2
      obtain⟨o,ho,hl⟩:=hown;refine⟨YL q1,hg.under.lt ho,⟨o,ho,hl⟩,fun i h1 h2 hr=> ?_⟩;obtain⟨k,hk,hk2,_⟩:=get i h1 h2;rw[hk2]at hr;rw[LC]at hk;cases hy:keeps[i-2]? with
      |none=>rw[hy]at hk;cases hk
      |some y=>
       rw[hy]at hk;simp only[LI,YO]at hk;have:=List.all_eq_true.1 q3 y (Lp hy);rw[hk,hr]at this;simp at this
    have Zw:=hp.merge QE hf hkeeps;have hpans:c'.mode.pans=false:=by rw[e5];rfl
    refine⟨fr',w',_,Zw,⟨by rw[hfr'.fn,e1];rfl, ?_,fun _=>(e3 ▸ hfr'.todo hpans).plain hplain, ?_, ?_,hfr'.kind, ?_⟩,a,b,ZB⟩
    ·refine hfr'.tmps.merge e2 (YL hlen) (fun p hp v' hv=> ?_) fun t=>Classical.choose_spec (hd t)
     obtain⟨i,hi⟩:=List.getElem?_of_mem hp;rw[List.getElem?_zip_eq_some]at hi;obtain⟨hi1,hi2⟩:=hi;obtain⟨u,L',ha,hb,hc⟩:=(uv _ _ _ hvs).2 i p.2 hi2;rw[LC,hi1]at ha;simp only[LI,YO]at ha;subst ha;exact Yl hco 3 _ _ _ _ hb (hc hL1) hv
    ·have:=hfr'.defers;rw[e4]at this;exact .of_empty this.empty
    ·have:=hfr'.mode;rw[e5]at this;generalize fr'.mode=ds at this;cases this;exact .run
    ·have:=hfr'.round;rw[e6]at this;generalize fr'.roundOf=x at this;cases x with
     |none=>trivial
     |some x=>cases this
   ·cases e
 ·cases e
def QO(s:Option ST)(fz:List Fz):Option (Value×List Prop):=match s with
 |some ⟨.fin (.ret v) H _,W,L⟩=>bif W.isEmpty then match VT H fz 3 v with
  |some (t,_,L2)=>some (t,L2++L)
  |none=>none
   else none
 |_=>none
def EndsT(P:Program)(B:Lo)(c0:CF)(out:Value):Prop:=
 ∀(μ:Mu) (w:World) (fr:Frame) (cs:List Frame) (im:dx),Ok B (fun i=>i<1) μ (Qt XW) w->B.has w->(∀i,1<=i->μ i=none)->μ 0=some im->FrR Bot.no μ c0 fr->
  ∃v' w',Below w.heap.size w w'/\TRv (dj im.fm w w') out v'/\EndsAs P fr cs w (.ret v') w'
theorem GoE.endsT{c0 c:CF}{H:Qq}{n:Nat}(hF:∀g,F g=true->Q1 P g=true)(hJ:∀w,B.has w->J w)(Zl:P.follows .mixedOrders=true)(h:GoE P B c0 XW 1 c H n []){fuel:Nat}{sc:Q7}{fz:List Fz}{out:Value}{L:List Prop}
 (e:QO (Qo P F J B fuel 1 c H n sc 0 [] []) fz=some (out,L)) (hL:Qr L):EndsT P B c0 out:=by
 unfold QO at e;split at e
 ·rename_i v H' n' W' L' hs;cases hW:W'.isEmpty with
  |false=>rw[hW]at e;cases e
  |true=>
   rw[hW]at e;simp only[cond_true]at e;split at e
   ·rename_i t R2 L2 ZB;simp only[YO,YR]at e;obtain⟨rfl,rfl⟩:=e;obtain⟨hL2,hL1⟩:=X6 hL;have hWe:W'=[]:=by simpa using hW
    subst hWe;obtain⟨R,W2,hfj,hiff⟩:=WH hF hJ Zl fuel 1 c H n sc 0 [] [] _ h.under hs hL1;intro μ w fr cs im QE hB hf QJ XJ;obtain⟨Zh,w',μ',hp,ho,he⟩:=h.fj hfj μ w fr cs QE hB hf XJ;have hnoW:∀i,i∈[]++W2->¬i<1:=fun i hi Xp=>by
     have:=(hiff i Xp).2 (.inr (by simpa using hi));simp at this
    have hbel:Below w.heap.size w w':=⟨hp.os,hp.tape,hp.output,hp.grow,fun b hb=>hp.frame b hb fun i hi hl=>absurd hl (hnoW i hi)⟩
    cases ho with
    |ret VX=>
     rename_i v';refine⟨v',w',hbel, ?_,he⟩;have hu':Under H' n':=h.under.shape hfj.shape;have hle:=hp.le
     -- of what is looked at, all is there
     have YC:∀r,(Qt H' r).isSome->r<1\/1<=r/\r<n':=fun r hr=>by
      have:r<n':=by
       cases hg:Qt H' r with
       |none=>rw[hg]at hr;cases hr
       |some o=>exact hu'.lt hg
      omega
     have hok2:Ok B.B (fun _=>True) μ' (Qt H') w':=
      ⟨fun i o _ ho=>hp.ok.rel i o (YC i (by rw[ho];rfl)) ho,fun i o im _ ho=>hp.ok.low i o im (YC i (by rw[ho];rfl)) ho,
       fun i j oi oj a b _ _ ay Wl Wk=>hp.ok.inj i j oi oj a b (YC i (by rw[Wl];rfl)) (YC j (by rw[Wk];rfl)) ay Wl Wk,
       fun i o _ ho=>hp.ok.Pj i o (YC i (by rw[ho];rfl)) ho,fun i j oi oj a b x _ _ Wl Wk=>hp.ok.sep i j oi oj a b x (YC i (by rw[Wl];rfl)) (YC j (by rw[Wk];rfl)) Wl Wk⟩
     refine(Pq hok2 3 v v' t R2 L2 ZB hL2 (fun _ _=>trivial) VX).mono fun b x hx=> ?_
     have hw:=Vt hx;unfold YD at hx;split at hx
     ·rename_i hc;obtain⟨i,_,o,im2,hio,WV,Yi⟩:=hc;have hi:=YC i (by rw[hio];rfl);have old0:∀i,i<1->i=0:=fun i h=>by omega
      have keep0:Qt H' 0=some Xx:=by
       rw[hp.keep 0 (by omega) fun e=>hnoW 0 e (by omega)];rfl
      have mu0:μ' 0=some im:=by rw[hp.ext 0 (by omega)];exact QJ
      have below:b<w.heap.size->im.fm b=some x->dj im.fm w w' b=some x:=fun h1 h2=>by unfold dj;rw[if_pos h1];exact h2
      have above:w.heap.size<=b->dj im.fm w w' b=some x:=fun h1=>by unfold dj;rw[if_neg (by omega)];exact hw
      have from0:im.fm b=some x->dj im.fm w w' b=some x:=fun h=>by
       refine below ?_ h;exact PU QE (i:=0) (o:=Xx) (show 0<1 by omega) rfl trivial QJ h
      rcases Yi with ⟨WN,JY⟩|⟨hl,hb⟩
      ·cases hfx:im2.fm b with
       |none=>exact absurd hfx JY
       |some y=>
        obtain⟨im3,him3,hf3⟩:=hp.ok.Pj i o hi hio WN;rw[WV]at him3;cases him3;have:=hf3 b y hfx;rw[hw]at this;cases this;rcases hi with hi|hi
        ·rw[old0 i hi,mu0]at WV;cases WV;exact from0 hfx
        ·rcases hp.rf i im2 o (.inl hi) hio WN WV b x hfx with c|⟨k,US,ko,hk,_,hko,_,hkm,hkb⟩|⟨k,hk,hkn,_⟩
         ·exact above c
         ·rw[old0 k hk,QJ]at hkm;cases hkm;exact from0 hkb
         ·exact absurd hkn (hnoW k hk)
      ·rcases hi with hi|hi
       ·rw[old0 i hi,keep0]at hio;cases hio;exact hl.elim
       ·rcases(hp.fresh i im2 o hi.1 hi.2 hio hl WV).2 with c|⟨k,hk,hkn,_⟩
        ·exact above (by omega)
        ·exact absurd hkn (hnoW k hk)
     ·cases hx
   ·cases e
 ·cases e
theorem Xb{g:FuncId}{ts:List Value}{out:Value}{c0:CF}(ZB:∀w w':World,(∀b,b<w.heap.size->w'.heap[b]? =w.heap[b]?)->J w->J w')(hc:Wa P g (ts.map (Q2 0 4)).toArray=some c0)(QE:(ts.all (tL 4))=true)
 (h:∀B:Lo,(∀w,B.has w->J w)->EndsT P B c0 out):Qn P J g ts.toArray out:=by
 intro fm w args' hJ hfm hargs cs;let B:Lo:=⟨w.heap.size,fun w'=> ∀b,b<w.heap.size->w'.heap[b]? =w.heap[b]?,fun _ _ h hi b hb=>(h b hb).trans (hi b hb)⟩
 have hB:B.has w:=⟨LH _,fun _ _=>rfl⟩
 let im:dx:=⟨0,0,0,false,fm⟩
 let μ:Mu:=fun i=>if i=0 then some im else none
 have hOk:Ok B.B (fun i=>i<1) μ (Qt XW) w:=by
  have only:∀i o,Qt XW i=some o->i=0/\o=Xx:=by
   intro i o h;simp only[XW,QQ,Qt]at h;split at h
   ·rename_i e;exact⟨e,by simpa using h.symm⟩
   ·cases h
  refine⟨fun i o _ ho hl=> ?_,fun i o im _ ho hl=> ?_,fun i j oi oj a b _ _ _ ho _ hl=> ?_,fun i o _ ho _=> ?_,fun i j oi oj a b x _ _ _ ho _ hl=> ?_⟩
  ·rw[(only i o ho).2]at hl;exact hl.elim
  ·rw[(only i o ho).2]at hl;exact hl.elim
  ·rw[(only i oi ho).2]at hl;exact hl.elim
  ·exact⟨im,by rw[(only i o ho).1];rfl,hfm⟩
  ·rw[(only j oj ho).2]at hl;exact hl.elim
 have hv:VRs μ (ts.map (Q2 0 4)).toArray args':=by
  refine⟨by simpa using hargs.1,fun i v v' hv ZX=> ?_⟩;simp only[List.getElem?_toArray,LC]at hv;cases ht:ts[i]? with
  |none=>rw[ht]at hv;cases hv
  |some t=>
   rw[ht]at hv;simp only[LI,YO]at hv;subst hv;exact SL (im:=im) rfl 4 t v' (List.all_eq_true.1 QE t (Lp ht)) (hargs.2 i t v' (by simpa using ht) ZX)
 obtain⟨v',w',hb,ht,he⟩:=h B (fun w' h=>ZB w w' h.inv hJ) μ w (Frame.enter P g args' .normal) cs im hOk hB (fun i hi=>by show(if i=0 then _ else _)=_;rw[if_neg (by omega)]) rfl (UL hc hv);obtain⟨frE,h1,h2,h3⟩:=he.1 rfl;exact⟨.returned v',w',frE,⟨v',rfl,hb,ht⟩,h1,h2,h3⟩
theorem GoE.start{c0:CF}:GoE P B c0 XW 1 c0 XW 1 []:=GoE.refl (fun i hi=>by simp only[XW,QQ,Qt];rw[if_neg (by omega)])
end
end Go.CE

namespace Go.CE
open Go Go.RowKit

def Qe{α:Type}(e:α->List Value)(xs:List α):Array Value:=(xs.flatMap e).toArray
def Q5(n:Int):List Value:=[.int .i64 n]
abbrev XH(xs:List Int):Value:=QC xs.length (Qe Q5 xs)
section
variable {α:Type} {e:α->List Value} {z:Nat} {xs:List α}
theorem kx(h:∀x,(e x).length=z):∀xs:List α,(xs.flatMap e).length=xs.length*z
 |[]=>by simp
 |x::xs=>by simp[h,kx h xs,Nat.add_mul,Nat.add_comm]
theorem QZ(h:∀x,(e x).length=z):(Qe e xs).size=xs.length*z:=by simp[Qe,kx h]
theorem flat_get(h:∀x,(e x).length=z):∀(xs:List α) (k j:Nat) (x:α),j<z->xs[k]? =some x->(xs.flatMap e)[k*z+j]? =(e x)[j]?
 |[],k,j,x,hj,hk=>by simp at hk
 |y::xs,0,j,x,hj,hk=>by
  simp only[Lv,YO]at hk;subst hk;simp only[LW,Nat.zero_mul,LB];rw[Ly (by rw[h];exact hj)]
 |y::xs,k+1,j,x,hj,hk=>by
  simp only[LW];rw[Ll (by rw[h,Nat.add_mul];omega),h,show(k+1)*z+j-z=k*z+j by rw[Nat.add_mul];omega];exact flat_get h xs k j x hj (by simpa using hk)
theorem fI[Inhabited α](h:∀x,(e x).length=z){k j:Nat}(hk:k<xs.length)(hj:j<z):(Qe e xs)[k*z+j]? =(e (xs.getD k La))[j]? :=by
 have hx:xs[k]? =some (xs.getD k La):=by simp[hk]
 simp only[Qe,List.getElem?_toArray];exact flat_get h xs k j _ hj hx
theorem D8[Inhabited α](h:∀x,(e x).length=z){k j:Nat}{v:Value}(hk:k<xs.length)(hv:(e (xs.getD k La))[j]? =some v):(Qe e xs)[k*z+j]? =some v:=by
 have hj:j<z:=by rw[<-h (xs.getD k La)];exact(List.getElem?_eq_some_iff.1 hv).1
 rw[fI h hk hj,hv]
theorem Qs[Inhabited α](h:∀x,(e x).length=z){k:Nat}(hk:k<xs.length):(Qe e xs).extract (k*z) (k*z+z)=(e (xs.getD k La)).toArray:=by
 have ZA:=QZ (xs:=xs) h;have hle:k*z+z<=xs.length*z:=by
  have:=Nat.mul_le_mul_right z (show k+1<=xs.length by omega);rw[Nat.add_mul,Nat.one_mul]at this;exact this
 refine Array.ext (by simp[ZA,h];omega) fun i h1 h2=> ?_
 have hi:i<z:=by simpa[h]using h2
 have a:=fI (xs:=xs) h hk hi;rw[Array.getElem_extract];have b:(Qe e xs)[k*z+i]? =some ((Qe e xs)[k*z+i]'(by rw[ZA];omega)):=by simp
 have c:(e (xs.getD k La))[i]? =some ((e (xs.getD k La)).toArray[i]'h2):=by simp
 rw[b,c]at a;exact Option.some.inj a
theorem X1{x:α}:Qe e xs++(e x).toArray=Qe e (xs++[x]):=by simp[Qe]
theorem RA(h:∀x,∀v∈e x,simple v=true):∀v∈Qe e xs,simple v=true:=fun v hv=>by
 simp only[Qe,List.mem_toArray,List.mem_flatMap]at hv;obtain⟨x,_,hx⟩:=hv;exact h x v hx
theorem Xc{rs:List Nat}(h:∀x,∀v∈e x,simple v=true):X8 rs (Qe e xs) (Qe e xs):=dv (Array.all_eq_true'.2 (RA h))
theorem Ag{x:α}(h:∀x,(e x).length=z):∀(xs:List α) (k i:Nat),k<xs.length->((xs.set k x).flatMap e)[i]? =if k*z<=i/\i<k*z+z then(e x)[i-k*z]? else(xs.flatMap e)[i]?
 |[],k,i,hk=>by simp at hk
 |y::xs,0,i,hk=>by
  simp only[List.set_cons_zero,LW,Nat.zero_mul,LB,Nat.zero_le,true_and,Nat.sub_zero];by_cases hi:i<z
  ·rw[if_pos hi,Ly (by rw[h];exact hi)]
  ·rw[if_neg hi,Ll (by rw[h];omega),Ll (by rw[h];omega),h,h]
 |y::xs,k+1,i,hk=>by
  simp only[List.set_cons_succ,LW];by_cases hi:i<z
  ·rw[Ly (by rw[h];exact hi),if_neg (by rw[Nat.add_mul];omega),Ly (by rw[h];exact hi)]
  ·rw[Ll (by rw[h];omega),Ll (by rw[h];omega),h,Ag h xs k (i-z) (by simpa using hk)];by_cases hc:k*z<=i-z/\i-z<k*z+z
   ·rw[if_pos hc,if_pos (by rw[Nat.add_mul];omega),show i-z-k*z=i-(k+1)*z by rw[Nat.add_mul];omega]
   ·rw[if_neg hc,if_neg (by rw[Nat.add_mul];omega)]
theorem jy{x:α}(h:∀x,(e x).length=z){k:Nat}(hk:k<xs.length):k*z+z<=(Qe e xs).size/\splice (Qe e xs) (k*z) (e x).toArray=Qe e (xs.set k x):=by
 have ZA:=QZ (xs:=xs) h;have hle:k*z+z<=xs.length*z:=by
  have:=Nat.mul_le_mul_right z (show k+1<=xs.length by omega);rw[Nat.add_mul,Nat.one_mul]at this;exact this
 refine⟨by rw[ZA];exact hle,Array.ext_getElem? fun i=> ?_⟩;have a:(Qe e (xs.set k x))[i]? =((xs.set k x).flatMap e)[i]? :=by simp[Qe]
 have b:(Qe e xs)[i]? =(xs.flatMap e)[i]? :=by simp[Qe]
 rw[a,Ag h xs k i hk,<-b];rw[K6 (by rw[ZA];simp[h];exact hle)];simp[h]
end
theorem TRv.len'{fm:Nat->Option Obj}{n:Nat}{cs:Array Value}{v':Value}(h:TRv fm (QC n cs) v'):n<=maxLen:=by
 rcases h.slice_inv with ⟨_,_,_,_,_,_,_,h1,h2,_⟩|⟨rfl,_⟩
 ·omega
 ·exact Nat.zero_le _
theorem KE{a b:Int}(h:a≠b):(!Yo a b)=true:=by rw[bZ h];rfl
theorem KF{a b:Int}(h:a=b):(!Yo a b)=false:=by rw[bY h];rfl
theorem Xt{m:Nat}{rs:List Nat}{cs:Array Value}(h:cs.all simple=true):Q0 m rs cs cs:=dw fun v hv=>Array.all_eq_true'.1 h v hv
theorem ly{α:Type}{e:α->List Value}{z:Nat}{xs:List α}(h:∀x,(e x).length=z){k:Nat}(hk:k<xs.length):k*z+z<=(Qe e xs).size:=by
 rw[QZ h];have:=Nat.mul_le_mul_right z (show k+1<=xs.length by omega);rw[Nat.add_mul,Nat.one_mul]at this;exact this
theorem D7{α:Type}{e:α->List Value}{z:Nat}{xs:List α}(h:∀x,(e x).length=z){k:Nat}(hk:k<xs.length){x:α}{cs:Array Value}(hc:cs=(e x).toArray):k*z+z<=(Qe e xs).size/\splice (Qe e xs) (k*z) cs=Qe e (xs.set k x):=by
 rw[hc];exact jy h hk
theorem EndsT.cast{P:Program}{B:Lo}{c0:CF}{a b:Value}(h:EndsT P B c0 a)(e:a=b):EndsT P B c0 b:=e ▸ h
theorem TRvs.len{fm:Nat->Option Obj}{ts args:Array Value}(h:TRvs fm ts args){i n:Nat}{cs:Array Value}(hi:ts[i]? =some (QC n cs)):n<=maxLen:=by
 have Xp:i<args.size:=h.1 ▸ (Array.getElem?_eq_some_iff.1 hi).1;exact TRv.len' (h.2 i _ args[i] hi (by simp[Xp]))
theorem TRvs.len2{fm:Nat->Option Obj}{ts args:Array Value}(h:TRvs fm ts args){i j n:Nat}{xs cs:Array Value}(hi:ts[i]? =some (.agg xs))(hj:xs[j]? =some (QC n cs)):n<=maxLen:=by
 have Xp:i<args.size:=h.1 ▸ (Array.getElem?_eq_some_iff.1 hi).1;have ht:=h.2 i _ args[i] hi (by simp[Xp]);generalize args[i]=v at ht;cases ht with
 |simple h=>cases h
 |agg h1 h2=>
  rename_i ys;have Xp:j<ys.size:=h1 ▸ (Array.getElem?_eq_some_iff.1 hj).1;exact TRv.len' (h2 j _ ys[j] hj (by simp[Xp]))
theorem TRvs.ln{fm:Nat->Option Obj}{ts args:Array Value}(h:TRvs fm ts args){i n:Nat}{cs:Array Value}(hi:ts[i]? =some (QC n cs)):n<=9223372036854775807:=by
 have:=h.len hi;unfold maxLen at this;omega
theorem TRvs.ln2{fm:Nat->Option Obj}{ts args:Array Value}(h:TRvs fm ts args){i j n:Nat}{xs cs:Array Value}(hi:ts[i]? =some (.agg xs))(hj:xs[j]? =some (QC n cs)):n<=9223372036854775807:=by
 have:=h.len2 hi hj;unfold maxLen at this;omega
section
variable {α:Type} [Inhabited α] {f:α->Bool} {xs:List α} {i:Int}
theorem drop_cons(h0:0<=i)(hi:i<xs.length):xs.drop i.toNat=xs.getD i.toNat La::xs.drop (i+1).toNat:=by
 have Xp:i.toNat<xs.length:=by omega
 rw[List.drop_eq_getElem_cons Xp,show(i+1).toNat=i.toNat+1 by omega];simp[Xp]
theorem Aj(h0:0<=i)(hi:i<xs.length):(xs.drop i.toNat).all f=(f (xs.getD i.toNat La) && (xs.drop (i+1).toNat).all f):=by rw[drop_cons h0 hi];rfl
omit [Inhabited α]in
theorem M7(hi:xs.length<=i):xs.drop i.toNat=[]:=List.drop_eq_nil_of_le (by omega)
end
def Yq(a b:Int):List Int:=(Lg (b-a).toNat).map fun(k:Nat)=>a+(k:Int)
theorem mr{a b:Int}(h:a<b):Yq a b=a::Yq (a+1) b:=by
 unfold Yq;obtain⟨m,hm⟩:∃m:Nat,(b-a).toNat=m+1:=⟨(b-a).toNat-1,by omega⟩
 rw[hm,show(b-(a+1)).toNat=m by omega,List.range_succ_eq_map];simp only[List.map_cons,List.map_map,Int.ofNat_zero,Int.add_zero,Int.cast_ofNat_Int];congr 1;apply List.map_congr_left;intro k _;simp only[Function.comp_apply,Nat.succ_eq_add_one];omega
theorem lu{a b:Int}(h:b<=a):Yq a b=[]:=by
 unfold Yq;rw[show(b-a).toNat=0 by omega];rfl
theorem Vd{P:Program}{J:World->Prop}{g:FuncId}{ts:List Value}{out:Value}{c0:CF}(facts:Prop)(X2:∀fm args',TRvs fm ts.toArray args'->facts)(ZB:∀w w':World,(∀b,b<w.heap.size->w'.heap[b]? =w.heap[b]?)->J w->J w')(hc:Wa P g (ts.map (Q2 0 4)).toArray=some c0)(QE:(ts.all (tL 4))=true)
 (h:facts->∀B:Lo,(∀w,B.has w->J w)->EndsT P B c0 out):Qn P J g ts.toArray out:=fun fm w args' hJ hfm hargs=>Xb ZB hc QE (h (X2 fm args' hargs)) fm w args' hJ hfm hargs
def uL(rs:List Nat):List Value->List Value->Prop
 |[],[]=>True
 |v::l,v1::l1=>qB rs v v1/\uL rs l l1
 |_,_=>False
theorem fe{rs:List Nat}:∀{l l1:List Value},uL rs l l1->l.length=l1.length/\∀(i:Nat) v v1,l[i]? =some v->l1[i]? =some v1->qB rs v v1
 |[],[],_=>⟨rfl,fun i v v1 h=>by simp at h⟩
 |v::l,v1::l1,h=>⟨by simp[(fe h.2).1],fun i u u1 h1 h2=>by
   cases i with
   |zero=>simp at h1 h2;subst h1;subst h2;exact h.1
   |succ i=>exact(fe h.2).2 i u u1 (by simpa using h1) (by simpa using h2)⟩
theorem De{rs:List Nat}{l l1:List Value}(h:uL rs l l1):X8 rs l.toArray l1.toArray:=by
 obtain⟨h1,h2⟩:=fe h
 first
 |exact⟨by simp[h1],fun i v v1 a b=>h2 i v v1 (by simpa using a) (by simpa using b)⟩
def unC(rs:List Nat)(v:Value):Option Value:=bif simple v then some v else match v with
 | .func (.via r ⟨[]⟩ 0 true) ⟨[t]⟩ ⟨[]⟩=>bif rs.contains r && WU t then some t else none
 |_=>none
def unL(rs:List Nat):List Value->Option (List Value)
 |[]=>some []
 |v::l=>match unC rs v,unL rs l with
  |some t,some ts=>some (t::ts)
  |_,_=>none
theorem OK{rs:List Nat}{v t:Value}(h:unC rs v=some t):qB rs v t:=by
 unfold unC at h;cases hs:simple v with
 |true=>
  rw[hs]at h;simp only[cond_true,YO]at h;exact .inl ⟨hs,h.symm⟩
 |false=>
  rw[hs]at h;simp only[cond_false]at h;split at h
  ·rename_i r t0;cases hq:(rs.contains r && WU t0)with
   |false=>rw[hq]at h;cases h
   |true=>
    rw[hq]at h;simp only[cond_true,YO]at h;subst h;simp only[YB,List.contains_iff_mem]at hq;exact .inr ⟨r,hq.1,rfl,hq.2⟩
  ·cases h
theorem G6{rs:List Nat}:∀{l l1:List Value},unL rs l=some l1->uL rs l l1
 |[],l1,h=>by simp only[unL,YO]at h;subst h;exact trivial
 |v::l,l1,h=>by
  simp only[unL]at h;split at h
  ·rename_i t ts h1 h2;simp only[YO]at h;subst h;exact⟨OK h1,G6 h2⟩
  ·cases h
theorem Gp{rs:List Nat}{l l1:List Value}(h:unL rs l=some l1):X8 rs l.toArray l1.toArray:=De (G6 h)
end Go.CE

namespace Go.CE
open Go Go.RowKit

theorem Post.widen{B n n':Nat}{S:Nat->Prop}{W W':List Nat}{μ μ':Mu}{H H':Qq}{w w':World}(QE:Ok B S μ (Qt H) w)(h:Post B S n n' W μ μ' H H' w w')(hW:∀i,i<n->i∈W->i∈W')(hw:∀i,i<n->i∈W'->S i/\∃o,Qt H i=some o/\live o/\∀im,μ i=some im->im.rw=true):Post B S n n' W' μ μ' H H' w w':=
 ⟨h.ok,h.le,h.ext,fun i hi hw'=>h.keep i hi fun e=>hw' (hW i hi e),h.grow,fun b hb hx=>h.frame b hb fun i hi hl=>hx i (hW i hl hi) hl,fun i hi hl=>by
  obtain⟨hs,o,hg,hl',hr⟩:=hw i hl hi;obtain⟨im,QJ,_⟩:=QE.rel i _ hs hg hl';exact⟨hs,⟨o,hg,hl'⟩,im,QJ,hr im QJ⟩,fun i im o h1 h2 ho hl hm=>by
  obtain⟨hr,hf⟩:=h.fresh i im o h1 h2 ho hl hm;exact⟨hr,hf.imp id fun⟨k,a,b,d⟩=>⟨k,hW k b a,b,d⟩⟩,fun i im o hi ho hr hm b x hx=>by
  have res:(n<=i/\i<n'\/i∈W/\i<n)->w.heap.size<=b\/(∃k US ko,S k/\k<n/\Qt H k=some ko/\Wd ko/\μ k=some US/\US.fm b=some x)\/∃k,k∈W'/\k<n/\(∃ZD,μ k=some ZD/\ZD.Zu=b)/\∀o,Qt H' k=some o->¬live o:=fun hc=>by
   rcases h.rf i im o hc ho hr hm b x hx with e|e|⟨k,p,q,r⟩
   ·exact .inl e
   ·exact .inr (.inl e)
   ·exact .inr (.inr ⟨k,hW k q p,q,r⟩)
  rcases hi with hi|⟨hi,Xp⟩
  ·exact res (.inl hi)
  ·by_cases YF:i∈W
   ·exact res (.inr ⟨YF,Xp⟩)
   ·obtain⟨_,o',hg,hl,_⟩:=hw i Xp hi;rw[h.keep i Xp YF,hg]at ho;cases ho;exact absurd hl (by cases o <;> first|exact id|exact hr.elim),h.os,h.tape,h.output⟩
def Writable(H0:Qq)(a:Nat)(Wf:List Nat):Prop:=∀i,i<a->i∈Wf->(∃cs t,Qt H0 i=some (.cells cs t (0,0)))\/(∃r,Qt H0 i=some (.loop r))\/(∃es Se,Qt H0 i=some (.map es Se))\/∃ds,Qt H0 i=some (.deferred ds)
def Ow(o:Option Obj):Bool:=match o with
 |some (.cells _ _ (0,0))|some (.loop _)|some (.map _ _)|some (.deferred _)=>true
 |_=>false
theorem Qy{H0:Qq}{a:Nat}{Wf:List Nat}(h:(Wf.all fun i=>Ow (Qt H0 i))=true):Writable H0 a Wf:=fun i _ hi=>by
 have:=List.all_eq_true.1 h i hi;unfold Ow at this;split at this
 ·rename_i cs t hg;exact .inl ⟨cs,t,hg⟩
 ·rename_i r hg;exact .inr (.inl ⟨r,hg⟩)
 ·rename_i es Se hg;exact .inr (.inr (.inl ⟨es,Se,hg⟩))
 ·rename_i ds hg;exact .inr (.inr (.inr ⟨ds,hg⟩))
 ·cases this
theorem Writable.rw{B:Nat}{μ:Mu}{H0:Qq}{a:Nat}{Wf:List Nat}{w:World}(h:Writable H0 a Wf)(QE:Ok B (fun i=>i<a) μ (Qt H0) w){i:Nat}(hi:i<a)(hw:i∈Wf):i<a/\∃o,Qt H0 i=some o/\live o/\∀im,μ i=some im->im.rw=true:=by
 rcases h i hi hw with ⟨cs,t,hg⟩|⟨r,hg⟩|⟨es,Se,hg⟩|⟨ds,hg⟩
 ·refine⟨hi,_,hg,trivial,fun im QJ=> ?_⟩;obtain⟨ZD,QN,ZU⟩:=QE.rel i _ hi hg trivial;rw[QJ]at QN;cases QN;rcases ZU with ⟨_,h,_⟩|⟨h,_⟩
  ·exact h
  ·exact absurd rfl h
 all_goals
  refine⟨hi,_,hg,trivial,fun im QJ=> ?_⟩;obtain⟨ZD,QN,ZU⟩:=QE.rel i _ hi hg trivial;rw[QJ]at QN;cases QN;exact ZU.1
def XV(ro:Option Nat)(f:FuncId)(len:Nat)(live:List (Nat×Value))(d:Nat->Value)(todo:List Item):CF:=⟨f,mkT len live d,todo,[],.run,ro⟩
def XF(Hb:Qq)(a:Nat)(ws:Qq)(os:List Obj):Qq:=ws++((a,Xx)::(Xa (a+1) os++Hb))
def ny(a:Nat)(olds:List Nat)(k:Nat):Option Nat:=bif Ls k a then some k else posOf olds (a+1) k
def CZ(H:Qq)(m:Nat)(pos:Nat->Option Nat)(fz:List Fz):List (Nat×KS)->Option (Qq×List Prop)
 |[]=>some ([],[])
 |(k,s)::l=>match coO H m pos fz (Qt H k) s with
  |some (o,L)=>match CZ H m pos fz l with
   |some (os,L2)=>some ((k,o)::os,L++L2)
   |none=>none
  |none=>none
theorem ql{H:Qq}{m:Nat}{pos:Nat->Option Nat}{fz:List Fz}:∀(l:List (Nat×KS)) (ws:Qq) (L:List Prop),CZ H m pos fz l=some (ws,L)->∀i,(Qt ws i=none<->i ∉ l.map (·.1))/\∀o,Qt ws i=some o->∃s L1,coO H m pos fz (Qt H i) s=some (o,L1)/\(Qr L->Qr L1)
 |[],ws,L,h,i=>by
  simp only[CZ,YO,YR]at h;obtain⟨rfl,rfl⟩:=h;simp[Qt]
 |(k,s)::l,ws,L,h,i=>by
  simp only[CZ]at h;split at h
  ·rename_i t L1 h1;split at h
   ·rename_i ts2 L2 h2;simp only[YO,YR]at h;obtain⟨rfl,rfl⟩:=h;obtain⟨k1,k2⟩:=ql l ts2 L2 h2 i;rw[QQ];by_cases e:i=k
    ·subst e;simp only[if_true,List.map_cons,List.mem_cons,true_or,not_true_eq_false,iff_false];exact⟨by simp,fun o ho=>by cases ho;exact⟨s,L1,h1,fun h=>(X6 h).1⟩⟩
    ·rw[if_neg e];refine⟨by rw[k1];simp[e],fun o ho=> ?_⟩;obtain⟨s',L',a,b⟩:=k2 o ho;exact⟨s',L',a,fun h=>b (X6 h).2⟩
   ·cases h
  ·cases h
structure OE where
 fn:FuncId
 len:Nat
 todo:List Item
 defers:List Nat
 mode:CM
 roundOf:Option Nat
 vals:List Value
 ws:Qq
 objs:List Obj
 L:List Prop
def fC(a:Nat)(H:Qq)(W:List Nat)(wks keeps:List (Nat×KS))(fz:List Fz):Bool:=
 (W.all fun i=>(wks.map (·.1)).contains i) && (wks.all fun k=>Ls k.1 a) && distinct (keeps.map (·.1)) && (keeps.all fun k=>LP a k.1) && (fz.all fun x=>LP a x.k && IX (Qt H x.k) && (keeps.all fun k=> !(Lf k.1 x.k)))
def landA(a:Nat)(s:Option ST)(slots:List Nat)(wks keeps:List (Nat×KS))(fz:List Fz):Option OE:=match s with
 |some ⟨.at c H n,W,L⟩=>bif fC a H W wks keeps fz then
  match uw (Am H a (ny a (keeps.map (·.1))) fz 4) (slots.map (Zc c.tmps)),CZ H a (ny a (keeps.map (·.1))) fz wks,ca H a (ny a (keeps.map (·.1))) fz keeps with
  |some (vs,L1),some (ws,L3),some (os,L2)=>some ⟨c.fn,c.tmps.len,c.todo,c.defers,c.mode,c.roundOf,vs,ws,os,L1++(L3++(L2++L))⟩
  |_,_,_=>none
   else none
 |_=>none
section
variable {P:Program} {F:FuncId->Bool} {J:World->Prop} {B:Lo} {c0 c:CF} {Hb H:Qq} {a n:Nat} {W Wf:List Nat}
theorem GoE.widen(h:GoE P B c0 Hb a c H n W)(hW:∀i,i<a->i∈W->i∈Wf)(hw:Writable Hb a Wf):GoE P B c0 Hb a c H n Wf:=
 ⟨h.under,h.le,fun Z μ w fr cs QE hB hf XJ=>by
  obtain⟨fr',w',μ',hp,r⟩:=h.sem Z μ w fr cs QE hB hf XJ;exact⟨fr',w',μ',hp.widen QE hW fun i hi hiW=>hw.rw QE hi hiW,r⟩⟩
theorem Jd{ws:Qq}{os:List Obj}(i:Nat):Qt (XF Hb a ws os) i=match Qt ws i with
 |some o=>some o
 |none=>if i=a then some Xx else if a<i/\i<a+1+os.length then os[i-(a+1)]? else Qt Hb i:=by
 unfold XF;rw[ZI];cases Qt ws i with
 |some o=>rfl
 |none=>
  simp only;rw[QQ];by_cases e:i=a
  ·rw[if_pos e,if_pos e]
  ·rw[if_neg e,if_neg e,ZI,Vs];by_cases h1:a+1<=i
   ·rw[if_pos h1];by_cases h2:i<a+1+os.length
    ·rw[if_pos ⟨by omega,h2⟩];have:i-(a+1)<os.length:=by omega
     simp[this]
    ·rw[if_neg (by omega),LA (by omega)]
   ·rw[if_neg h1,if_neg (by omega)]
theorem jq{ws:Qq}{os:List Obj}(hu:Under Hb a)(hws:∀i o,Qt ws i=some o->i<a):Under (XF Hb a ws os) (a+1+os.length):=fun i hi=>by
 rw[Jd];cases hg:Qt ws i with
 |some o=>have:=hws i o hg;omega
 |none=>simp only;rw[if_neg (by omega),if_neg (by omega)];exact hu i (by omega)
theorem o6{n':Nat}{H':Qq}{μ μ':Mu}{w w':World}{W':List Nat}{wks keeps:List (Nat×KS)}{fz:List Fz}{ws:Qq}{os:List Obj}{L2 L3:List Prop}(hu:Under Hb a)(hw:Writable Hb a (wks.map (·.1)))(hu':Under H' n')(hq:fC a H' W' wks keeps fz=true)
 (QE:Ok B.B (fun i=>i<a) μ (Qt Hb) w) (hf:∀i,a<=i->μ i=none) (hp:Post B.B (fun i=>i<a) a n' (wks.map (·.1)) μ μ' Hb H' w w')
 (hws:CZ H' a (ny a (keeps.map (·.1))) fz wks=some (ws,L3)) (hos:ca H' a (ny a (keeps.map (·.1))) fz keeps=some (os,L2)) (hL3:Qr L3) (hL2:Qr L2):
 ∃μ1 im1,Ax H' a (ny a (keeps.map (·.1))) fz μ' μ1 w' n' (fz.map (·.k)) im1/\Post B.B (fun i=>i<a) a (a+1+os.length) (wks.map (·.1)) μ μ1 Hb (XF Hb a ws os) w w'/\(∀i,a+1+os.length<=i->μ1 i=none)/\(∀i o,Qt ws i=some o->i<a):=by
 unfold fC at hq;simp only[YB]at hq;obtain⟨⟨⟨⟨hW,hwlt⟩,hdist⟩,hge⟩,hfz⟩:=hq;have wlt:∀i,i∈wks.map (·.1)->i<a:=fun i hi=>by
  obtain⟨k,hk,rfl⟩:=List.mem_map.1 hi;exact YL (List.all_eq_true.1 hwlt k hk)
 have wsget:=ql wks ws L3 hws;have wslt:∀i o,Qt ws i=some o->i<a:=fun i o ho=>by
  refine wlt i (Decidable.of_not_not fun e=> ?_);have:=(wsget i).1.2 e;rw[this]at ho;cases ho
 have hlenos:=(KH keeps os L2 hos).1;let ρ:Nat->Nat:=fun i=>if i<a then i else((keeps.map (·.1))[i-(a+1)]?).getD i
 have hρ:∀i k,a+1<=i->(keeps.map (·.1))[i-(a+1)]? =some k->ρ i=k:=fun i k hi hk=>by
  show(if i<a then i else((keeps.map (·.1))[i-(a+1)]?).getD i)=k;rw[if_neg (by omega),hk];rfl
 have hρlow:∀i,i<a->ρ i=i:=fun i hi=>by
  show(if i<a then i else((keeps.map (·.1))[i-(a+1)]?).getD i)=i;rw[if_pos hi]
 have get:∀i,a<i->i<a+1+os.length->∃k,(keeps.map (·.1))[i-(a+1)]? =some k/\ρ i=k/\a<=k:=by
  intro i h1 h2;have Xp:i-(a+1)<keeps.length:=by omega
  refine⟨(keeps[i-(a+1)]).1,by simp[Xp],hρ i _ (by omega) (by simp[Xp]), ?_⟩;exact YL (List.all_eq_true.1 hge _ (List.getElem_mem Xp))
 let im1:dx:=⟨0,0,0,false,YD μ' H' w' (Ph H' n'++fz.map (·.k))⟩
 let μ1:=lq a (a+1+os.length) ρ μ μ' (YD μ' H' w' (Ph H' n'++fz.map (·.k)))
 have hco:Ax H' a (ny a (keeps.map (·.1))) fz μ' μ1 w' n' (fz.map (·.k)) im1:=by
  refine⟨⟨B.B,_,hp.ok,fun i hi=> ?_⟩,hu',fun k j hj=> ?_, ?_,rfl,fun x hx=>List.mem_map.2 ⟨x,hx,rfl⟩⟩
  ·rcases LJ i a with h|h
   ·exact .inl h
   ·exact .inr ⟨h,hi⟩
  ·unfold ny at hj;cases hb:Ls k a with
   |true=>
    rw[hb]at hj;simp only[cond_true,YO]at hj;subst hj;have Xp:k<a:=YL hb;show lq a (a+1+os.length) ρ μ μ' _ k=μ' k;unfold lq;rw[if_neg (by omega),if_neg (by omega),hp.ext k (by omega)]
   |false=>
    rw[hb]at hj;obtain⟨h1,h2⟩:=TZ _ _ _ _ hj;have Xp:j-(a+1)<keeps.length:=by
     have:=(List.getElem?_eq_some_iff.1 h2).1;simpa using this
    show lq a (a+1+os.length) ρ μ μ' _ j=μ' k;unfold lq;rw[if_neg (by omega),if_pos ⟨by omega,by omega⟩,hρ j k h1 h2]
  ·show lq a (a+1+os.length) ρ μ μ' _ a=some im1;unfold lq;rw[if_pos rfl]
 have hkeeps:Dx a n' (a+1+os.length) (wks.map (·.1)) μ μ' Hb H' (XF Hb a ws os) w' ρ (fz.map (·.k)):=by
  refine⟨by omega,hρlow,fun i h1 h2=> ?_,fun i j h1 h2 h3 h4 h5=> ?_,jq hu wslt,fun i hi hn=> ?_, ?_,fun i o1 hi hc ho=> ?_,fun k hk=> ?_⟩
  ·obtain⟨k,hk,hk2,hk3⟩:=get i h1 h2;refine⟨by omega, ?_⟩;rw[hk2];have Xp:i-(a+1)<os.length:=by omega
   obtain⟨k',s,L',ha,hb,hc⟩:=(KH keeps os L2 hos).2 (i-(a+1)) os[i-(a+1)] (by simp[Xp]);have:k'=k:=by
    rw[LC,ha]at hk;simpa using hk
   subst this;obtain⟨⟨x,hx⟩,_⟩:=Tw hco hb (hc hL2);exact hu'.lt hx
  ·obtain⟨k,hk,hk2,_⟩:=get i h1 h2;obtain⟨k',hk',hk2',_⟩:=get j h3 h4;rw[hk2,hk2']at h5;subst h5;have:=P1 hdist _ _ _ hk hk';omega
  ·rw[Jd,(wsget i).1.2 hn];simp only;rw[if_neg (by omega),if_neg (by omega)]
  ·rw[Jd];cases hg:Qt ws a with
   |some o=>have:=wslt a o hg;omega
   |none=>simp
  ·rcases hc with h1i|⟨YF,Xp⟩
   ·rw[Jd]at ho;have hn:Qt ws i=none:=by
     cases hg:Qt ws i with
     |none=>rfl
     |some o=>have:=wslt i o hg;omega
    rw[hn]at ho;simp only at ho;rw[if_neg (by omega),if_pos ⟨h1i,hi⟩]at ho;obtain⟨k,s,L',ha,hb,hc'⟩:=(KH keeps os L2 hos).2 (i-(a+1)) o1 ho;obtain⟨_,hnr,S0⟩:=Tw hco hb (hc' hL2);refine⟨hnr,fun hl1=> ?_⟩;obtain⟨x,hx,hl,ZU⟩:=S0 hl1;refine⟨x, ?_,hl,fun im _ h=>ZU im h⟩;rw[hρ i k (by omega) (by rw[LC,ha];rfl)];exact hx
   ·cases hg:Qt ws i with
    |none=>exact absurd YF ((wsget i).1.1 hg)
    |some o=>
     rw[Jd,hg]at ho;simp only[YO]at ho;subst ho;obtain⟨s,L1,h1,h2⟩:=(wsget i).2 o hg;obtain⟨_,hnr,S0⟩:=Tw hco h1 (h2 hL3);refine⟨hnr,fun hl1=> ?_⟩;obtain⟨x,hx,hl,ZU⟩:=S0 hl1;exact⟨x,by rw[hρlow i Xp];exact hx,hl,fun im _ h=>ZU im h⟩
  ·obtain⟨x,hx,rfl⟩:=List.mem_map.1 hk;have:=List.all_eq_true.1 hfz x hx;simp only[YB]at this;obtain⟨⟨q1,q2⟩,q3⟩:=this;have hown:∃o,Qt H' x.k=some o/\live o:=by
    unfold IX at q2;split at q2
    ·rename_i ho;exact⟨_,ho,trivial⟩
    ·cases q2
   obtain⟨o,ho,hl⟩:=hown;refine⟨YL q1,hu'.lt ho,⟨o,ho,hl⟩,fun i h1 h2 hr=> ?_⟩;obtain⟨k,hk,hk2,_⟩:=get i h1 h2;rw[hk2]at hr;rw[LC]at hk;cases hy:keeps[i-(a+1)]? with
   |none=>rw[hy]at hk;cases hk
   |some y=>
    rw[hy]at hk;simp only[LI,YO]at hk;have:=List.all_eq_true.1 q3 y (Lp hy);rw[hk,hr]at this;simp at this
 refine⟨μ1,im1,hco,hp.merge QE hf hkeeps,fun i hi=> ?_,wslt⟩;show lq a (a+1+os.length) ρ μ μ' _ i=none;unfold lq;rw[if_neg (by omega),if_neg (by omega)];exact hf i (by omega)
theorem GoE.landA(hF:∀g,F g=true->Q1 P g=true)(hJ:∀w,B.has w->J w)(Zl:P.follows .mixedOrders=true){wks:List (Nat×KS)}(hu:Under Hb a)(hw:Writable Hb a (wks.map (·.1)))(h:GoE P B c0 Hb a c H n (wks.map (·.1))){fuel:Nat}{sc:Q7}{f:FuncId}{len:Nat}{todo:List Item}{ro:Option Nat}{slots:List Nat}{keeps:List (Nat×KS)}{fz:List Fz}{vs:List Value}{ws:Qq}{os:List Obj}{L:List Prop}
 (e:CE.landA a (Qo P F J B fuel a c H n sc 0 [] []) slots wks keeps fz=some ⟨f,len,todo,[],.run,ro,vs,ws,os,L⟩) (hL:Qr L) (hlen:LP len 16000=true) (hplain:todo.all PF=true) (ax:∀l,ro=some l->l<a):
 ∃d:Nat->Value,(∀t,Xi (d t))/\GoE P B c0 Hb a (XV ro f len (slots.zip vs) d todo) (XF Hb a ws os) (a+1+os.length) (wks.map (·.1)):=by
 unfold CE.landA at e;split at e
 ·rename_i c' H' n' W' L' hs;cases hq:fC a H' W' wks keeps fz with
  |false=>rw[hq]at e;cases e
  |true=>
   rw[hq]at e;simp only[cond_true]at e;split at e
   ·rename_i vs0 L1 ws0 L3 os0 L2 hvs hws hos;simp only[YO,OE.mk.injEq]at e;obtain⟨e1,e2,e3,e4,e5,e6,rfl,rfl,rfl,rfl⟩:=e;obtain⟨hL1,hLr⟩:=X6 hL;obtain⟨hL3,hLr⟩:=X6 hLr;obtain⟨hL2,hL4⟩:=X6 hLr;obtain⟨R,W2,a8,hiff⟩:=WH hF hJ Zl fuel a c H n sc 0 [] [] _ h.under hs hL4;have hg:=(h.step a8).widen (Wf:=wks.map (·.1)) (fun i hi hm=>by
     rcases List.mem_append.1 hm with hm|hm
     ·exact hm
     ·have hi':i∈W':=(hiff i hi).2 (.inr hm);unfold fC at hq;simp only[YB]at hq;simpa using List.all_eq_true.1 hq.1.1.1.1 i hi') hw
    have hd:∀t,∃d,Xi d/\∀μ v',VR μ (Zc c'.tmps t) v'->VR μ d v':=fun t=>Jf _
    have wslt:∀i o,Qt ws0 i=some o->i<a:=fun i o ho=>by
     have hq':=hq;unfold fC at hq';simp only[YB]at hq';have YF:i∈wks.map (·.1):=Decidable.of_not_not fun e=>by
      have:=(ql wks ws0 L3 hws i).1.2 e;rw[this]at ho;cases ho
     obtain⟨k,hk,rfl⟩:=List.mem_map.1 YF;exact YL (List.all_eq_true.1 hq'.1.1.1.2 k hk)
    refine⟨fun t=>Classical.choose (hd t),fun t=>(Classical.choose_spec (hd t)).1,jq hu wslt,by omega,fun Z μ w fr cs QE hB hf XJ=> ?_⟩;obtain⟨fr',w',μ',hp,hfr',ha,hb,ZB⟩:=hg.sem Z μ w fr cs QE hB hf XJ;obtain⟨μ1,im1,hco,Zw,UK,_⟩:=o6 hu hw hg.under hq QE hf hp hws hos hL3 hL2;have hpans:c'.mode.pans=false:=by rw[e5];rfl
    refine⟨fr',w',μ1,Zw,⟨by rw[hfr'.fn,e1];rfl, ?_,fun _=>(e3 ▸ hfr'.todo hpans).plain hplain, ?_, ?_,hfr'.kind, ?_⟩,ha,hb,ZB⟩
    ·refine hfr'.tmps.merge e2 (YL hlen) (fun p hp v' hv=> ?_) fun t=>Classical.choose_spec (hd t)
     obtain⟨i,hi⟩:=List.getElem?_of_mem hp;rw[List.getElem?_zip_eq_some]at hi;obtain⟨hi1,hi2⟩:=hi;obtain⟨u,L',ha,hb,hc⟩:=(uv _ _ _ hvs).2 i p.2 hi2;rw[LC,hi1]at ha;simp only[LI,YO]at ha;subst ha;exact Yl hco 4 _ _ _ _ hb (hc hL1) hv
    ·have:=hfr'.defers;rw[e4]at this;exact .of_empty this.empty
    ·have:=hfr'.mode;rw[e5]at this;generalize fr'.mode=ds at this;cases this;exact .run
    ·have:=hfr'.round;rw[e6]at this;show RoR μ1 ro fr'.roundOf;generalize fr'.roundOf=x at this;cases ro with
     |none=>
      cases x with
      |none=>trivial
      |some x=>cases this
     |some l=>
      cases x with
      |none=>cases this
      |some x=>
       obtain⟨im,h1,h2⟩:=this;have hl:=ax l rfl;refine⟨im, ?_,h2⟩;rw[Zw.ext l (by omega)];rw[hp.ext l (by omega)]at h1;exact h1
   ·cases e
 ·cases e
def Wx(a:Nat)(v:Value):Bool:=simple v || match v with
 | .func (.via r ⟨[]⟩ 0 true) ⟨[_]⟩ ⟨[]⟩=>Ls r a
 | .pointer (some ⟨k,_,none⟩)=>Ls k a
 | .slice (some ⟨k,_,none⟩) _ _=>Ls k a
 | .map (some r)=>Ls r a
 | .func (.yield l) ⟨[]⟩ ⟨[]⟩=>Ls l a
 | .chan none=>true
 |_=>false
def au(a:Nat):Nat->Value->Bool
 |0,v=>Wx a v
 |f+1,v=>match v with
  | .agg xs=>xs.all (au a f)
  | .tuple xs=>xs.all (au a f)
  | .iface _ x=>au a f x
  | .func (.func _) xs ys=>xs.all (au a f) && ys.all (au a f)
  |v=>Wx a v
section
variable {μ μ0:Mu} (hμ:∀b,b<a->μ0 b=μ b)
include hμ
theorem uf{v v':Value}(h:Wx a v=true)(hv:VR μ v v'):VR μ0 v v':=by
 unfold Wx at h;cases hs:simple v with
 |true=>rw[simple_eq hs hv];exact ZO hs
 |false=>
  rw[hs]at h;simp only[Bool.false_or]at h;have lt:∀{k},Ls k a=true->μ0 k=μ k:=fun h=>hμ _ (YL h)
  split at h
  ·cases hv with
   |top h1 h2 h3=>exact .top h1 (by rw[lt h];exact h2) h3
  ·cases hv with
   |ptr har=>
    obtain⟨im,h1,h2,h3⟩:=har;exact .ptr ⟨im,by rw[lt h];exact h1,h2,h3⟩
  ·cases hv with
   |slice har x y z=>
    obtain⟨im,h1,h2,h3⟩:=har;exact .slice ⟨im,by rw[lt h];exact h1,h2,h3⟩ x y fun hz ZD QN=>z hz ZD (by rw[<-lt h];exact QN)
  ·cases hv with
   |map hr=>exact .map (by rw[lt h];exact hr)
  ·cases hv with
   |yield hr=>exact .yield (by rw[lt h];exact hr)
  ·cases hv with
   |Y5 x y z=>exact .Y5 x y z
  ·cases h
theorem lA:∀(f:Nat) (v v':Value),au a f v=true->VR μ v v'->VR μ0 v v'
 |0,v,v',h,hv=>uf hμ h hv
 |f+1,v,v',h,hv=>by
  have arr:∀{xs xs':Array Value},xs.all (au a f)=true->(∀(i:Nat) v v',xs[i]? =some v->xs'[i]? =some v'->VR μ v v')->∀(i:Nat) v v',xs[i]? =some v->xs'[i]? =some v'->VR μ0 v v':=
   fun ha hx i v v' h1 h2=>lA f v v' (Array.all_eq_true'.1 ha v (LL h1)) (hx i v v' h1 h2)
  cases v with
  |agg xs=>cases hv with|agg h1 h2=>exact .agg h1 (arr h h2)
  |tuple xs=>cases hv with|tuple h1 h2=>exact .tuple h1 (arr h h2)
  |iface t x=>cases hv with|iface hv=>exact .iface (lA f x _ h hv)
  |func fn xs ys=>
   cases fn with
   |func g=>
    have h:(xs.all (au a f) && ys.all (au a f))=true:=h;simp only[YB]at h;cases hv with
    |func h1 h2 h3 h4=>exact .func h1 h2 (arr h.1 h3) (arr h.2 h4)
   |_=>exact uf hμ (by exact h) hv
  |_=>exact uf hμ (by exact h) hv
end
theorem FY{μ μ0:Mu}(hμ:∀b,b<a->μ0 b=μ b){T:Tm}{A:Array Value}(hl:∀t,au a 4 (Zc T t)=true\/Xi (Zc T t))(h:TR μ T A):TR μ0 T A:=⟨h.1,fun t=>(hl t).elim (fun h1=>lA hμ 4 _ _ h1 (h.2 t)) fun h1=>h1 _ _ _ (h.2 t)⟩
theorem FrR.low{μ μ0:Mu}{fr:Frame}(hμ:∀b,b<a->μ0 b=μ b)(hs:∀t,au a 4 (Zc c.tmps t)=true\/Xi (Zc c.tmps t))(hp:c.todo.all PF=true)(hd:c.defers=[])(hm:c.mode=.run)(hr:∀l,c.roundOf=some l->l<a)(h:FrR Bot.no μ c fr):FrR Bot.no μ0 c fr:=by
 have hpans:c.mode.pans=false:=by rw[hm];rfl
 refine⟨h.fn,FY hμ hs h.tmps,fun _=>(h.todo hpans).plain hp, ?_, ?_,h.kind, ?_⟩
 ·have:=h.defers;rw[hd]at this ⊢;exact .of_empty this.empty
 ·have:=h.mode;rw[hm]at this ⊢;generalize fr.mode=ds at this ⊢;cases this;exact .run
 ·have:=h.round;generalize fr.roundOf=x at this ⊢;cases ax:c.roundOf with
  |none=>
   rw[ax]at this;cases x with
   |none=>trivial
   |some x=>cases this
  |some l=>
   rw[ax]at this;cases x with
   |none=>cases this
   |some x=>
    obtain⟨im,h1,h2⟩:=this;exact⟨im,by rw[hμ l (hr l ax)];exact h1,h2⟩
def LV(a:Nat)(v:Value):Prop:=au a 4 v=true\/Xi v
theorem LV.vr{μ μ0:Mu}{v v':Value}(hμ:∀b,b<a->μ0 b=μ b)(h:LV a v)(hv:VR μ v v'):VR μ0 v v':=h.elim (fun h=>lA hμ 4 _ _ h hv) fun h=>h _ _ _ hv
def Dw(a:Nat):Obj->Prop
 | .cells cs _ _=> ∀(i:Nat) v,cs[i]? =some v->LV a v
 | .map es _=> ∀(i:Nat) e,es[i]? =some e->LV a e.val
 | .loop l=> ∀(i:Nat) v,l.tmps[i]? =some v->LV a v
 |_=>True
theorem OR.low{μ μ0:Mu}{w:World}{im:dx}{o:Obj}(hμ:∀b,b<a->μ0 b=μ b)(hl:Dw a o)(h:OR μ w im o):OR μ0 w im o:=by
 cases o with
 |cells cs t fz=>
  rcases h with ⟨h1,h2,h3,arr,h4,h5,h6,h7⟩|⟨h1,h2⟩
  ·exact .inl ⟨h1,h2,h3,arr,h4,h5,h6,fun i v hv=>by
    obtain⟨v',a1,b1⟩:=h7 i v hv;exact⟨v',a1,(hl i v hv).vr hμ b1⟩⟩
  ·exact .inr ⟨h1,fun i v hv=>by
    obtain⟨v',a1,b1⟩:=h2 i v hv;exact⟨v',a1,(hl i v hv).vr hμ b1⟩⟩
 |map es Se=>
  obtain⟨h1,KG,h2,h3,h4⟩:=h;exact⟨h1,KG,h2,h3,fun i e e' he he'=>by
   obtain⟨x,y,z,u⟩:=h4 i e e' he he';exact⟨x,y,z,(hl i e he).vr hμ u⟩⟩
 |loop l=>
  obtain⟨h1,tm,df,h2,h3⟩:=h;exact⟨h1,tm,df,h2,h3.1,fun i v v' hv ZX=>(hl i v hv).vr hμ (h3.2 i v v' hv ZX)⟩
 |deferred ds=>exact h
 |pending x y=>trivial
 |_=>exact h
def O7(a:Nat):Obj->Bool
 | .cells cs _ _=>cs.toList.all (au a 4)
 | .map es _=>es.toList.all fun e=>au a 4 e.val
 | .loop l=>l.tmps.toList.all (au a 4)
 |_=>true
theorem Mh{a:Nat}{o:Obj}(h:O7 a o=true):Dw a o:=by
 cases o with
 |cells cs t fz=>exact fun i v hv=>.inl (List.all_eq_true.1 h v (Array.mem_toList_iff.2 (LL hv)))
 |map es Se=>exact fun i e he=>.inl (List.all_eq_true.1 h e (Array.mem_toList_iff.2 (LL he)))
 |loop l=>exact fun i v hv=>.inl (List.all_eq_true.1 h v (Array.mem_toList_iff.2 (LL hv)))
 |_=>exact trivial
theorem lB:∀{H:Qq} {i:Nat} {o:Obj},Qt H i=some o->(i,o)∈H
 |[],_,_,h=>by cases h
 |(k,x)::l,i,o,h=>by
  rw[QQ]at h;split at h
  ·rename_i e;cases h;subst e;exact List.mem_cons_self
  ·exact Lw _ (lB h)
theorem Q6{H:Qq}{n:Nat}(h:(H.all fun p=>Ls p.1 n)=true):Under H n:=fun i hi=>by
 cases hg:Qt H i with
 |none=>rfl
 |some o=>have:=YL (List.all_eq_true.1 h _ (lB hg));simp at this;omega
end
end Go.CE

namespace Go.CE
open Go Go.RowKit

def Wy(n:Int):Qh:=.XD (.val (.int .i64 n))
def Z5:Qh:=.XD (.val (.bool true))
def ZW:Qh:=.XD (.val (.bool false))
def ME(f:Value->Option (Value×List Prop)):OO->Option (OO×List Prop)
 | .ret v=>match f v with
   |some (v1,L)=>some (.ret v1,L)
   |none=>none
 | .Wn v=>match f v with
   |some (v1,L)=>some (.Wn v1,L)
   |none=>none
def finK(a:Nat)(s:Option ST)(wks keeps:List (Nat×KS))(fz:List Fz):Option (OO×Qq×List Obj×List Prop):=match s with
 |some ⟨.fin out H _,W,L⟩=>bif fC a H W wks keeps fz then
  match ME (Am H a (ny a (keeps.map (·.1))) fz 4) out,CZ H a (ny a (keeps.map (·.1))) fz wks,ca H a (ny a (keeps.map (·.1))) fz keeps with
  |some (v1,L1),some (ws,L3),some (os,L2)=>some (v1,ws,os,L1++(L3++(L2++L)))
  |_,_,_=>none
   else none
 |_=>none
def FinK(P:Program)(B:Lo)(c0:CF)(Hb:Qq)(a:Nat)(out:OO)(ws:Qq)(os:List Obj)(Wf:List Nat):Prop:=
 ∀(μ:Mu) (w:World) (fr:Frame) (cs:List Frame),Ok B (fun i=>i<a) μ (Qt Hb) w->B.has w->(∀i,a<=i->μ i=none)->FrR Bot.no μ c0 fr->
  ∃Zh w' μ',Post B (fun i=>i<a) a (a+1+os.length) Wf μ μ' Hb (XF Hb a ws os) w w'/\OR2 μ' out Zh/\(∀i,a+1+os.length<=i->μ' i=none)/\EndsAs P fr cs w Zh w'
section
variable {P:Program} {F:FuncId->Bool} {J:World->Prop} {B:Lo} {c0 c:CF} {Hb H:Qq} {a n:Nat} {W Wf:List Nat}
theorem GoE.finK(hF:∀g,F g=true->Q1 P g=true)(hJ:∀w,B.has w->J w)(Zl:P.follows .mixedOrders=true){wks keeps:List (Nat×KS)}(hu:Under Hb a)(hw:Writable Hb a (wks.map (·.1)))(h:GoE P B c0 Hb a c H n (wks.map (·.1))){fuel:Nat}{sc:Q7}{fz:List Fz}{out:OO}{ws:Qq}{os:List Obj}{L:List Prop}
 (e:CE.finK a (Qo P F J B fuel a c H n sc 0 [] []) wks keeps fz=some (out,ws,os,L)) (hL:Qr L):FinK P B c0 Hb a out ws os (wks.map (·.1)):=by
 unfold CE.finK at e;split at e
 ·rename_i out0 H' n' W' L' hs;cases hq:fC a H' W' wks keeps fz with
  |false=>rw[hq]at e;cases e
  |true=>
   rw[hq]at e;simp only[cond_true]at e;split at e
   ·rename_i v1 L1 ws0 L3 os0 L2 hv1 hws hos;simp only[YO,YR]at e;obtain⟨rfl,rfl,rfl,rfl⟩:=e;obtain⟨hL1,hLr⟩:=X6 hL;obtain⟨hL3,hLr⟩:=X6 hLr;obtain⟨hL2,hL4⟩:=X6 hLr;obtain⟨R,W2,hfj,hiff⟩:=WH hF hJ Zl fuel a c H n sc 0 [] [] _ h.under hs hL4;intro μ w fr cs QE hB hf XJ;obtain⟨Zh,w',μ',hp,ho,he⟩:=h.fj hfj μ w fr cs QE hB hf XJ;have hp:=hp.widen (W':=wks.map (·.1)) QE (fun i hi hm=>by
     rcases List.mem_append.1 hm with hm|hm
     ·exact hm
     ·have hi':i∈W':=(hiff i hi).2 (.inr hm);have hq':=hq;unfold fC at hq';simp only[YB]at hq';simpa using List.all_eq_true.1 hq'.1.1.1.1 i hi') (fun i hi hiW=>hw.rw QE hi hiW)
    obtain⟨μ1,im1,hco,Zw,UK,_⟩:=o6 hu hw (h.under.shape hfj.shape) hq QE hf hp hws hos hL3 hL2;cases ho with
    |ret VX=>
     unfold ME at hv1;split at hv1
     ·rename_i v0 e0;cases e0;split at hv1
      ·rename_i v2 L2' hv2;simp only[YO,YR]at hv1;obtain⟨rfl,rfl⟩:=hv1;exact⟨_,w',μ1,Zw,.ret (Yl hco 4 _ _ _ _ hv2 hL1 VX),UK,he⟩
      ·cases hv1
     ·rename_i e0;cases e0
    |Wn VX=>
     unfold ME at hv1;split at hv1
     ·rename_i e0;cases e0
     ·rename_i v0 e0;cases e0;split at hv1
      ·rename_i v2 L2' hv2;simp only[YO,YR]at hv1;obtain⟨rfl,rfl⟩:=hv1;exact⟨_,w',μ1,Zw,.Wn (Yl hco 4 _ _ _ _ hv2 hL1 VX),UK,he⟩
      ·cases hv1
   ·cases e
 ·cases e
theorem FinK.cast{out out1:OO}{ws ws1:Qq}{os os1:List Obj}(h:FinK P B c0 Hb a out ws os Wf)(e1:out=out1)(e2:ws=ws1)(e3:os=os1):FinK P B c0 Hb a out1 ws1 os1 Wf:=e1 ▸ e2 ▸ e3 ▸ h
theorem FinK.fj{out:OO}{ws:Qq}{os:List Obj}(h:FinK P B c0 Hb a out ws os Wf)(hub:Under Hb a)(hws:∀i o,Qt ws i=some o->i<a/\i∈Wf)(hWf:∀i∈Wf,i<a)(hs:∀t,au a 4 (Zc c0.tmps t)=true\/Xi (Zc c0.tmps t))(hp:c0.todo.all PF=true)(hd:c0.defers=[])(hm:c0.mode=.run)(hr:∀l,c0.roundOf=some l->l<a)(hob:∀i o,Qt Hb i=some o->Dw a o):
 FJ P B c0 Hb a out ((ws++((a,Xx)::Xa (a+1) os))++Hb) (a+1+os.length) (Lg a) Wf:=by
 have hG:(ws++((a,Xx)::Xa (a+1) os))++Hb=XF Hb a ws os:=by unfold XF;simp
 rw[hG];refine⟨⟨by omega,fun i hi hw=> ?_,fun i hi=> ?_,fun i hi=>List.mem_range.2 (hWf i hi),fun i hi=>by have:=hWf i hi;omega⟩,fun S μ w fr cs QE hB hS hf XJ hR=> ?_⟩
 ·rw[Jd];cases hg:Qt ws i with
  |some o=>exact absurd (hws i o hg).2 hw
  |none=>simp only;rw[if_neg (by omega),if_neg (by omega)]
 ·rw[Jd];cases hg:Qt ws i with
  |some o=>have:=(hws i o hg).1;omega
  |none=>simp only;rw[if_neg (by omega),if_neg (by omega)]
 ·have hSeq:S=fun i=>i<a:=funext fun i=>propext ⟨hS i,fun hi=>hR i (List.mem_range.2 hi) hi⟩
  subst hSeq;let μc:Mu:=fun i=>if i<a then μ i else none
  have hμc:∀b,b<a->μc b=μ b:=fun b hb=>by show(if b<a then μ b else none)=μ b;rw[if_pos hb]
  have hextc:Ext μc μ:=fun k im hk=>by
   have hk:(if k<a then μ k else none)=some im:=hk;split at hk
   ·exact hk
   ·cases hk
  have hokc:Ok B.B (fun i=>i<a) μc (Qt Hb) w:=by
   refine⟨fun i o hi hg hl=> ?_,fun i o im hi hg hl QJ=> ?_,fun i j oi oj x y hi hj JY hg1 hg2 l1 l2 m1 m2 r1 r2=> ?_,fun i o hi hg hr=> ?_,fun i j oi oj x y z hi hj hg1 hg2 r1 l2 m1 m2 Ja=> ?_⟩
   ·obtain⟨im,QJ,ZU⟩:=QE.rel i o hi hg hl;exact⟨im,(hμc i hi).trans QJ,OR.low hμc (hob i o hg) ZU⟩
   ·exact QE.low i o im hi hg hl ((hμc i hi).symm.trans QJ)
   ·exact QE.inj i j oi oj x y hi hj JY hg1 hg2 l1 l2 ((hμc i hi).symm.trans m1) ((hμc j hj).symm.trans m2) r1 r2
   ·obtain⟨im,QJ,hx⟩:=QE.Pj i o hi hg hr;exact⟨im,(hμc i hi).trans QJ,hx⟩
   ·exact QE.sep i j oi oj x y z hi hj hg1 hg2 r1 l2 ((hμc i hi).symm.trans m1) ((hμc j hj).symm.trans m2) Ja
  obtain⟨Zh,w',μ',Zw,hv,UK,he⟩:=h μc w fr cs hokc hB (fun i hi=>by show(if i<a then μ i else none)=none;rw[if_neg (by omega)]) (XJ.low hμc hs hp hd hm hr);let μ2:Mu:=fun i=>if i<a+1+os.length then μ' i else μ i
  have hμ2:∀i,i<a+1+os.length->μ2 i=μ' i:=fun i hi=>by show(if i<a+1+os.length then μ' i else μ i)=μ' i;rw[if_pos hi]
  have ext2:Ext μ' μ2:=fun k im hk=>by
   rcases LJ k (a+1+os.length)with h1|h1
   ·rw[hμ2 k h1];exact hk
   ·rw[UK k h1]at hk;cases hk
  have Slt:∀i,(i<a\/a<=i/\i<a+1+os.length)->i<a+1+os.length:=fun i h=>by omega
  refine⟨_,w',μ2,⟨?_,by omega,fun i hi=> ?_,fun i hi hw=> ?_,Zw.grow,fun b hb hx=>Zw.frame b hb fun i hiW hi im QJ=>hx i hiW hi im ((hμc i hi).symm.trans QJ),fun i hiW hi=> ?_,fun i im o h1 h2 ho hl QJ=> ?_,fun i im o hc ho hr QJ b x hx=> ?_,Zw.os,Zw.tape,Zw.output⟩,OR2.mono ext2 hv,he⟩
  ·have ok:=Zw.ok;refine⟨fun i o hi hg hl=> ?_,fun i o im hi hg hl QJ=> ?_,fun i j oi oj x y hi hj JY hg1 hg2 l1 l2 m1 m2 r1 r2=> ?_,fun i o hi hg hr=> ?_,fun i j oi oj x y z hi hj hg1 hg2 r1 l2 m1 m2 Ja=> ?_⟩
   ·obtain⟨im,QJ,ZU⟩:=ok.rel i o hi hg hl;exact⟨im,(hμ2 i (Slt i hi)).trans QJ,ZU.keep ext2 rfl⟩
   ·exact ok.low i o im hi hg hl ((hμ2 i (Slt i hi)).symm.trans QJ)
   ·exact ok.inj i j oi oj x y hi hj JY hg1 hg2 l1 l2 ((hμ2 i (Slt i hi)).symm.trans m1) ((hμ2 j (Slt j hj)).symm.trans m2) r1 r2
   ·obtain⟨im,QJ,hx⟩:=ok.Pj i o hi hg hr;exact⟨im,(hμ2 i (Slt i hi)).trans QJ,hx⟩
   ·exact ok.sep i j oi oj x y z hi hj hg1 hg2 r1 l2 ((hμ2 i (Slt i hi)).symm.trans m1) ((hμ2 j (Slt j hj)).symm.trans m2) Ja
  ·rcases LJ i a with h1|h1
   ·rw[hμ2 i (by omega),Zw.ext i (by omega),hμc i h1]
   ·show(if i<a+1+os.length then μ' i else μ i)=μ i;rw[if_neg (by omega)]
  ·exact Zw.keep i hi hw
  ·obtain⟨p,q,im,s,t⟩:=Zw.wr i hiW hi;exact⟨p,q,im,(hμc i hi).symm.trans s,t⟩
  ·obtain⟨p,q⟩:=Zw.fresh i im o h1 h2 ho hl ((hμ2 i h2).symm.trans QJ);exact⟨p,q.imp id fun⟨k,x,y,⟨ZD,m,m2⟩,z⟩=>⟨k,x,y,⟨ZD,(hμc k y).symm.trans m,m2⟩,z⟩⟩
  ·have Xp:i<a+1+os.length:=by omega
   rcases Zw.rf i im o hc ho hr ((hμ2 i Xp).symm.trans QJ) b x hx with e|⟨k,US,ko,p,q,r,s,t,u⟩|⟨k,p,q,⟨ZD,m,m2⟩,z⟩
   ·exact .inl e
   ·exact .inr (.inl ⟨k,US,ko,p,q,r,s,(hμc k q).symm.trans t,u⟩)
   ·exact .inr (.inr ⟨k,p,q,⟨ZD,(hμc k q).symm.trans m,m2⟩,z⟩)
def Qbl(a:Nat)(l:List Value)(todo:List Item)(ro:Option Nat)(Hb ws:Qq)(Wf ex:List Nat):Bool:=
 l.all (au a 4) && (todo.all PF && ((match ro with|some l=>Ls l a|none=>true) && ((Hb.all fun p=>Ls p.1 a) && ((Hb.all fun p=>ex.contains p.1 || O7 a p.2) && ((ws.all fun p=>Ls p.1 a && Wf.contains p.1) && ((Wf.all fun k=>Ls k a) && LP l.length 16000))))))
def Ov(a:Nat):Qq->List Nat->Prop
 |[],_=>True
 |(k,o)::H,ex=>(bif ex.contains k then Dw a o else True)/\Ov a H ex
theorem zU{a:Nat}{ex:List Nat}:∀{H:Qq} {k:Nat} {o:Obj},Ov a H ex->ex.contains k=true->Qt H k=some o->Dw a o
 |[],_,_,_,_,h=>by cases h
 |(j,x)::H,k,o,hx,hk,h=>by
  rw[QQ]at h;split at h
  ·rename_i e;cases h;subst e;have:=hx.1;rw[hk]at this;exact this
  ·exact zU hx.2 hk h
theorem Vr{a:Nat}:∀H:Qq,Ov a H []
 |[]=>trivial
 |(_,_)::H=>⟨trivial,Vr H⟩
theorem v7{a:Nat}{v:Value}(h:simple v=true):Wx a v=true:=by unfold Wx;rw[h];rfl
theorem m9{a:Nat}{v:Value}(h:simple v=true):au a 4 v=true:=by
 have hs:=v7 (a:=a) h;cases v with
 |agg xs=>cases h
 |tuple xs=>cases h
 |iface t x=>cases h
 |func fn xs ys=>
  cases fn with
  |func f=>
   simp only[simple,YB,beq_iff_eq,Array.size_eq_zero_iff]at h;obtain⟨rfl,rfl⟩:=h;simp[au]
  |_=>exact hs
 |_=>exact hs
theorem JX{α:Type}{a:Nat}{e:α->List Value}{xs:List α}{t:TypeId}{fl:Nat×Nat}(h:∀x,∀v∈e x,simple v=true):Dw a (.cells (Qe e xs) t fl):=fun i v hv=>.inl (m9 (RA h v (LL hv)))
theorem FinK.fjB{fn:FuncId}{len:Nat}{l:List Value}{todo:List Item}{ro:Option Nat}{out:OO}{ws:Qq}{os:List Obj}{ex:List Nat}(h:FinK P B ⟨fn,ofList len l,todo,[],.run,ro⟩ Hb a out ws os Wf)(e:Qbl a l todo ro Hb ws Wf ex=true)(hx:Ov a Hb ex):
 FJ P B ⟨fn,ofList len l,todo,[],.run,ro⟩ Hb a out ((ws++((a,Xx)::Xa (a+1) os))++Hb) (a+1+os.length) (Lg a) Wf:=by
 simp only[Qbl,YB]at e;obtain⟨e1,e2,e3,e4,e5,e6,e7,e8⟩:=e;have e8:=YL e8;refine h.fj (Q6 e4) (fun i o ho=> ?_) (fun i hi=>YL (List.all_eq_true.1 e7 i hi)) (fun t=> ?_) e2 rfl rfl (fun k hk=> ?_) (fun i o ho=> ?_)
 ·have:=List.all_eq_true.1 e6 _ (lB ho);simp only[YB]at this;exact⟨YL this.1,by simpa using this.2⟩
 ·simp only[Zc,ofList];rw[l7 _ _ _ _ (by omega)];split
  ·rename_i ht;have ht:t<l.length:=by omega
   refine .inl (List.all_eq_true.1 e1 _ ?_);rw[Nat.sub_zero,Lq,LZ ht];exact List.getElem_mem ht
  ·rw[Tri.get_lf];exact .inr (Tp (by simp[Go.undef,af]))
 ·have hk:ro=some k:=hk;subst hk;exact YL e3
 ·have:=List.all_eq_true.1 e5 _ (lB ho);simp only[Bool.or_eq_true]at this;rcases this with h1|h1
  ·exact zU hx h1 ho
  ·exact Mh h1
end
end Go.CE

namespace Go.CE
open Go Go.RowKit Go.ChangeShapes Go.WideShapes

inductive Sh where
 |int|bool|str|unit
 |pair (a b:Sh)
 |struct (f:Sh)
 |slice (e:Sh)
def Sh.sz:Sh->Nat
 | .unit=>0
 | .pair a b=>a.sz+b.sz
 | .struct f=>f.sz
 |_=>1
def Sh.ok:Sh->List Value->Prop
 | .int,cs=> ∃z:Int,(-9223372036854775808<=z/\z<=9223372036854775807)/\cs=[.int .i64 z]
 | .bool,cs=> ∃b,cs=[.bool b]
 | .str,cs=> ∃s:ByteArray,s.size<=maxLen/\cs=[.string s]
 | .unit,cs=>cs=[]
 | .pair a b,cs=> ∃x y,cs=x++y/\a.ok x/\b.ok y
 | .struct f,cs=>f.ok cs
 | .slice e,cs=> ∃(n:Nat) (r:Nat->List Value),(∀k,e.ok (r k)\/n<=k)/\(∀k,(r k).length=e.sz)/\cs=[QC n (Qe r (Lg n))]
theorem Sh.ok_sz:∀(s:Sh) (cs:List Value),s.ok cs->cs.length=s.sz
 | .int,cs,⟨z,_,h⟩=>by rw[h];rfl
 | .bool,cs,⟨z,h⟩=>by rw[h];rfl
 | .str,cs,⟨z,_,h⟩=>by rw[h];rfl
 | .unit,cs,h=>by rw[show cs=[]from h];rfl
 | .pair a b,cs,⟨x,y,h,hx,hy⟩=>by rw[h,Li,Sh.ok_sz a x hx,Sh.ok_sz b y hy];rfl
 | .struct f,cs,h=>Sh.ok_sz f cs h
 | .slice e,cs,⟨n,r,_,_,h⟩=>by rw[h];rfl
def Sh.chk(P:Program):Sh->Option (List Field×Nat)->TypeId->Bool
 | .int,none,t=>match P.underlying t with|some (.int .i64)=>true|_=>false
 | .bool,none,t=>match P.underlying t with|some .bool=>true|_=>false
 | .str,none,t=>match P.underlying t with|some .string=>true|_=>false
 | .struct f,none,t=>match P.underlying t with|some (.struct fs)=>f.chk P (some (fs.toList,0)) t|_=>false
 | .slice e,none,t=>match P.underlying t with|some (.slice u)=>Ls 0 e.sz && e.chk P none u|_=>false
 | .unit,some ([],off),t=>Lf off (P.cellsOf t)
 | .pair a b,some (f::fs,off),t=>Lf f.offset off && (a.chk P none f.type && (Lf (P.cellsOf f.type) a.sz && b.chk P (some (fs,off+P.cellsOf f.type)) t))
 |_,_,_=>false
def TRl(fm:Nat->Option Obj)(ts cs:List Value):Prop:=ts.length=cs.length/\∀(i:Nat) v v',ts[i]? =some v->cs[i]? =some v'->TRv fm v v'
theorem TRl.nil{fm:Nat->Option Obj}:TRl fm [] []:=⟨rfl,fun i v v' h=>by simp at h⟩
theorem TRl.one{fm:Nat->Option Obj}{t v:Value}(h:TRv fm t v):TRl fm [t] [v]:=⟨rfl,fun i a b ha hb=>by
 cases i with
 |zero=>simp at ha hb;subst ha hb;exact h
 |succ i=>simp at ha⟩
theorem TRl.append{fm:Nat->Option Obj}{a b c d:List Value}(h:TRl fm a b)(k:TRl fm c d):TRl fm (a++c) (b++d):=⟨by simp[h.1,k.1],fun i v v' x y=>by
 rcases LJ i a.length with hi|hi
 ·rw[Ly hi]at x;rw[Ly (by rw[<-h.1];exact hi)]at y;exact h.2 i v v' x y
 ·rw[Ll hi]at x;rw[Ll (by rw[<-h.1];exact hi)]at y;exact k.2 _ v v' x (by rw[h.1];exact y)⟩
def allM(w:World)(b:Nat):Option Obj:=w.heap[b]?
section
variable {P:Program} {H:Type} {enc:TypeId×Value->H} {w:World} {held:Bool}
theorem Dt{a:Addr}{v:Value}(h:w.cell? a=some v):∃b o arr t fl,a=⟨b,o,none⟩/\w.heap[b]? =some (.cells arr t fl)/\arr[o]? =some v:=by
 obtain⟨b,o,s⟩:=a;unfold World.cell? at h;split at h
 ·rename_i c t fl hb;cases s with
  |some _=>simp at h
  |none=>exact⟨b,o,c,t,fl,rfl,hb,by simpa using h⟩
 ·cases h
theorem rJ{b o j:Nat}:(⟨b,o,none⟩:Addr).add j=⟨b,o+j,none⟩:=by
 unfold Addr.add;split <;> simp_all
theorem qX{e:Nat->List Value}{z n:Nat}(h:∀k,(e k).length=z){i:Nat}{v:Value}(hv:(Qe e (Lg n))[i]? =some v):∃k j,k<n/\j<z/\i=k*z+j/\(e k)[j]? =some v:=by
 have Xp:i<n*z:=by
  have:=(Array.getElem?_eq_some_iff.1 hv).1;rw[QZ h]at this;simpa using this
 have hz:0<z:=by
  rcases Nat.eq_zero_or_pos z with rfl|h
  ·omega
  ·exact h
 have hk:i / z<n:=Nat.div_lt_of_lt_mul (by rwa[Nat.mul_comm]at Xp);have hj:i % z<z:=Nat.mod_lt _ hz;have hi:i=i / z*z+i % z:=by
  have:=Nat.div_add_mod i z;rw[Nat.mul_comm]at this;omega
 refine⟨i / z,i % z,hk,hj,hi, ?_⟩;have:=fI (e:=e) (xs:=Lg n) h (k:=i / z) (j:=i % z) (by simpa using hk) hj;rw[<-hi,hv]at this;rw[this];simp[Ld,hk]
theorem Nj:∀(s:Sh) (fuel:Nat) (t:TypeId) (cs:List Value) (x:DataW H×List MemPlace),s.chk P none t=true->DataW.trod enc P w 0 (fun _=>true) held fuel t cs=some x->∃ts,s.ok ts/\TRl (allM w) ts cs:=by
 intro s
 -- for fields, too
 have key:(∀(fuel:Nat) (t:TypeId) (cs:List Value) (x:DataW H×List MemPlace),s.chk P none t=true->DataW.trod enc P w 0 (fun _=>true) held fuel t cs=some x->∃ts,s.ok ts/\TRl (allM w) ts cs)/\
  (∀(fl:List Field) (off:Nat) (t:TypeId) (cs:List Value),s.chk P (some (fl,off)) t=true->cs.length=P.cellsOf t->(∀f∈fl,∃fuel x,DataW.trod enc P w 0 (fun _=>true) held fuel f.type ((cs.drop f.offset).take (P.cellsOf f.type))=some x)->∃ts,s.ok ts/\TRl (allM w) ts (cs.drop off)):=by
  induction s with
  |int=>
   refine⟨fun fuel t cs x hc h=> ?_,fun fl off t cs hc=>by simp[Sh.chk]at hc⟩;simp only[Sh.chk]at hc;split at hc
   ·rename_i ht;obtain⟨n,rfl,_,hw⟩:=DataW.trod_int ht h;simp only[Lit.wf,YB,decide_eq_true_eq]at hw;exact⟨_,⟨n,⟨hw.1,hw.2⟩,rfl⟩,TRl.one (.simple rfl)⟩
   ·cases hc
  |bool=>
   refine⟨fun fuel t cs x hc h=> ?_,fun fl off t cs hc=>by simp[Sh.chk]at hc⟩;simp only[Sh.chk]at hc;split at hc
   ·rename_i ht;obtain⟨b,rfl,_⟩:=DataW.trod_bool ht h;exact⟨_,⟨b,rfl⟩,TRl.one (.simple rfl)⟩
   ·cases hc
  |str=>
   refine⟨fun fuel t cs x hc h=> ?_,fun fl off t cs hc=>by simp[Sh.chk]at hc⟩;simp only[Sh.chk]at hc;split at hc
   ·rename_i ht;obtain⟨b,rfl,_,hl⟩:=DataW.trod_string ht h;exact⟨_,⟨b,hl,rfl⟩,TRl.one (.simple rfl)⟩
   ·cases hc
  |unit=>
   refine⟨fun fuel t cs x hc h=>by simp[Sh.chk]at hc,fun fl off t cs hc hl hf=> ?_⟩;cases fl with
   |nil=>
    simp only[Sh.chk]at hc;have:=YE hc;refine⟨[],rfl, ?_⟩;rw[List.drop_eq_nil_of_le (by omega)];exact TRl.nil
   |cons f fl=>simp[Sh.chk]at hc
  |pair a b iha ihb=>
   refine⟨fun fuel t cs x hc h=>by simp[Sh.chk]at hc,fun fl off t cs hc hl hf=> ?_⟩;cases fl with
   |nil=>simp[Sh.chk]at hc
   |cons f fl=>
    simp only[Sh.chk,YB]at hc;obtain⟨h1,h2,h3,h4⟩:=hc;have h1:=YE h1;have h3:=YE h3;subst h1;obtain⟨fuel,x,hx⟩:=hf f (by simp);obtain⟨ta,oa,ra⟩:=iha.1 fuel f.type _ x h2 hx;obtain⟨tb,ob,rb⟩:=ihb.2 fl _ t cs h4 hl (fun g hg=>hf g (by simp[hg]));refine⟨ta++tb,⟨ta,tb,rfl,oa,ob⟩, ?_⟩;have:cs.drop f.offset=(cs.drop f.offset).take (P.cellsOf f.type)++cs.drop (f.offset+P.cellsOf f.type):=by
     rw[<-List.drop_drop,List.take_append_drop]
    rw[this];exact ra.append rb
  |struct f ih=>
   refine⟨fun fuel t cs x hc h=> ?_,fun fl off t cs hc=>by simp[Sh.chk]at hc⟩;simp only[Sh.chk]at hc;split at hc
   ·rename_i fs ht;obtain⟨xs,n,_,_,hl,hlen,hg⟩:=DataW.trod_struct ht h;obtain⟨ts,h1,h2⟩:=ih.2 fs.toList 0 t cs hc hl fun g hg'=>by
     obtain⟨i,hi⟩:=List.getElem?_of_mem hg';have hi':fs[i]? =some g:=by simpa using hi
     have:=hg i g hi';have Xp:i<xs.length:=by
      have:=(Array.getElem?_eq_some_iff.1 hi').1;omega
     rw[LZ Xp]at this;exact⟨n,_,this⟩
    exact⟨ts,h1,by simpa using h2⟩
   ·cases hc
  |slice e ih=>
   refine⟨fun fuel t cs x hc h=> ?_,fun fl off t cs hc=>by simp[Sh.chk]at hc⟩;simp only[Sh.chk]at hc;split at hc
   ·rename_i u ht;simp only[YB]at hc;obtain⟨hz,hc⟩:=hc;have hz:0<e.sz:=YL hz;rcases Deep.open_slice ht h with ⟨rfl,_⟩|⟨a,len,cap,m,n',D,Pl,rfl,_,hl,hm,hmm,_,hi⟩
    ·exact⟨_,⟨0,fun _=>Ln e.sz undef,fun k=>.inr (Nat.zero_le _),fun k=>by simp,rfl⟩,TRl.one .nil⟩
    ·simp only[if_true]at hmm;subst hmm;have each:∀k,∃r:List Value,(k<len->e.ok r/\(∀j,j<P.cellsOf u->w.cell? (a.add (k*P.cellsOf u+j))=none->False)/\∀(j:Nat) v v',r[j]? =some v->w.cell? (a.add (k*P.cellsOf u+j))=some v'->TRv (allM w) v v')/\r.length=e.sz/\(k<len->e.sz=P.cellsOf u):=by
      intro k;by_cases hk:k<len
      ·obtain⟨cs',hc',ht'⟩:=hi k (by omega);obtain⟨ts,ho,hr⟩:=ih.1 n' u cs' _ hc ht';obtain⟨_,hln,hat⟩:=World.cells?_some hc';have ZA:e.sz=P.cellsOf u:=by rw[<-Sh.ok_sz e ts ho,hr.1,hln]
       refine⟨ts,fun _=>⟨ho,fun j hj hnone=> ?_,fun j v v' hv ZX=> ?_⟩,Sh.ok_sz e ts ho,fun _=>ZA⟩
       ·have:=hat j hj;rw[Deep.add_add,hnone,LZ (by omega)]at this;cases this
       ·have hj:j<ts.length:=(List.getElem?_eq_some_iff.1 hv).1;have:=hat j (by rw[hr.1,hln]at hj;exact hj);rw[Deep.add_add,ZX]at this;exact hr.2 j v v' hv this.symm
      ·exact⟨Ln e.sz undef,fun h=>absurd h hk,by simp,fun h=>absurd h hk⟩
     refine⟨_,⟨len,fun k=>Classical.choose (each k),fun k=> ?_,fun k=>(Classical.choose_spec (each k)).2.1,rfl⟩,TRl.one ?_⟩
     ·by_cases hk:k<len
      ·exact .inl ((Classical.choose_spec (each k)).1 hk).1
      ·exact .inr (by omega)
     ·generalize hr:(fun k=>Classical.choose (each k))=r;have hr1:∀k,k<len->e.ok (r k)/\(∀j,j<P.cellsOf u->w.cell? (a.add (k*P.cellsOf u+j))=none->False)/\∀(j:Nat) v v',(r k)[j]? =some v->w.cell? (a.add (k*P.cellsOf u+j))=some v'->TRv (allM w) v v':=fun k hk=>by rw[<-hr];exact(Classical.choose_spec (each k)).1 hk
      have hr2:∀k,(r k).length=e.sz:=fun k=>by rw[<-hr];exact(Classical.choose_spec (each k)).2.1
      have hr3:∀k,k<len->e.sz=P.cellsOf u:=fun k hk=>(Classical.choose_spec (each k)).2.2 hk
      rcases Nat.eq_zero_or_pos len with rfl|hpos
      ·have:Qe r (Lg 0)=#[]:=rfl;rw[this];exact .empty hm
      ·have ZA:=hr3 0 hpos;have hex:∃v,w.cell? a=some v:=by
        have:=(hr1 0 hpos).2.1 0 (by omega);have ea:a.add (0*P.cellsOf u+0)=a:=by simp[Addr.add]
        rw[ea]at this;cases hq:w.cell? a with
        |none=>exact absurd hq this
        |some v=>exact⟨v,rfl⟩
       obtain⟨v0,hv0⟩:=hex;obtain⟨b,o,arr,ty,fl,rfl,hb,_⟩:=Dt hv0;have cellE:∀i,w.cell? ⟨b,o+i,none⟩=arr[o+i]? :=fun i=>by simp[World.cell?,hb]
       refine TRv.slice (o:=o) hl hm hb (fun i hi'=> ?_) fun i v v' hv ZX=> ?_
       ·obtain⟨k,j,hk,hj,rfl,_⟩:=qX hr2 (i:=i) (v:=(Qe r (Lg len))[i]) (Array.getElem?_eq_getElem hi');have:=(hr1 k hk).2.1 j (by omega);rw[rJ,<-ZA,cellE]at this;rcases LJ (o+(k*e.sz+j)) arr.size with h1|h1
        ·exact h1
        ·exact absurd (Array.getElem?_eq_none h1) this
       ·obtain⟨k,j,hk,hj,rfl,hkj⟩:=qX hr2 hv;refine(hr1 k hk).2.2 j v v' hkj ?_;rw[rJ,<-ZA,cellE];exact ZX
   ·cases hc
 exact key.1
def Sh.arg:Sh->Value->Prop
 | .struct f,v=> ∃cs,v=.agg cs.toArray/\f.ok cs
 |s,v=>s.ok [v]
def uM:List Sh->List Value->Prop
 |[],l=>l=[]
 |s::ss,l=> ∃t ts,l=t::ts/\s.arg t/\uM ss ts
theorem G7{s:Sh}{t:TypeId}{v:Value}{d:DataW H}{ps:List MemPlace}{r:Reach}{b0:Nat}(hc:s.chk P none t=true)(hv:Value.okWide P w r b0 t v)(h:DataW.Trod enc P w 0 (fun _=>true) held t v d ps):∃tr,s.arg tr/\TRv (allM w) tr v:=by
 obtain⟨fuel,hf⟩:=h;obtain⟨ts,ho,hr⟩:=Nj s fuel t _ _ hc hf;have one:v.cells=#[v]->s.ok ts->(∀f,s≠.struct f)->∃tr,s.arg tr/\TRv (allM w) tr v:=fun hv1 ho hs=>by
  rw[hv1]at hr;match ts,hr,ho with
  |[tr],hr,ho=>
   refine⟨tr, ?_,hr.2 0 tr v rfl rfl⟩;cases s <;> first|exact ho|exact absurd rfl (hs _)
  |[],hr,_=>have:=hr.1;simp at this
  |_::_::_,hr,_=>have:=hr.1;simp at this
 cases s with
 |int=>
  simp only[Sh.chk]at hc;split at hc
  ·rename_i ht;obtain⟨n,rfl⟩:=okWide_int ht hv;exact one rfl ho fun f h=>by cases h
  ·cases hc
 |bool=>
  simp only[Sh.chk]at hc;split at hc
  ·rename_i ht;obtain⟨n,rfl⟩:=okWide_bool ht hv;exact one rfl ho fun f h=>by cases h
  ·cases hc
 |str=>
  simp only[Sh.chk]at hc;split at hc
  ·rename_i ht;obtain⟨n,rfl⟩:=okWide_string ht hv;exact one rfl ho fun f h=>by cases h
  ·cases hc
 |unit=>simp[Sh.chk]at hc
 |pair a b=>simp[Sh.chk]at hc
 |struct f=>
  simp only[Sh.chk]at hc;split at hc
  ·rename_i fs ht;obtain⟨cs,rfl,_⟩:=okWide_struct ht hv;refine⟨.agg ts.toArray,⟨ts,rfl,ho⟩,.agg ?_ fun i v v' h1 h2=> ?_⟩
   ·have:=hr.1;simpa[Value.cells]using this
   ·exact hr.2 i v v' (by simpa using h1) (by simpa[Value.cells]using h2)
  ·cases hc
 |slice e=>
  simp only[Sh.chk]at hc;split at hc
  ·rename_i u ht;obtain⟨a,l,c,rfl⟩:=okWide_slice ht hv;exact one rfl ho fun f h=>by cases h
  ·cases hc
def eY(P:Program):List Sh->List TypeId->Bool
 |[],[]=>true
 |s::ss,t::ts=>s.chk P none t && eY P ss ts
 |_,_=>false
theorem trodAll_cons{t:TypeId}{ts:List TypeId}{vs:List Value}{ds:List (DataW H)}{ps:List MemPlace}{base:Nat}{spare:Nat->Bool}(h:DataW.TrodAll enc P w base spare held (t::ts) vs ds ps):
 ∃v vs' d ds' p q,vs=v::vs'/\ds=d::ds'/\DataW.Trod enc P w base spare held t v d p/\DataW.TrodAll enc P w base spare held ts vs' ds' q/\ps=p++q:=by
 cases vs with
 |nil=>cases ds <;> simp[DataW.TrodAll]at h
 |cons v vs=>
  cases ds with
  |nil=>simp[DataW.TrodAll]at h
  |cons d ds=>
   simp only[DataW.TrodAll]at h;obtain⟨p,q,h1,h2,h3⟩:=h;exact⟨v,vs,d,ds,p,q,rfl,rfl,h1,h2,h3⟩
theorem trodAll_nil{vs:List Value}{ds:List (DataW H)}{ps:List MemPlace}{base:Nat}{spare:Nat->Bool}(h:DataW.TrodAll enc P w base spare held [] vs ds ps):vs=[]/\ds=[]/\ps=[]:=by
 cases vs <;> cases ds <;> simp[DataW.TrodAll]at h
 exact⟨rfl,rfl,h⟩
theorem Oy:∀(ss:List Sh) (ts:List TypeId) (vs:List Value) (ds:List (DataW H)) (ps:List MemPlace) (r:Reach) (b0:Nat),eY P ss ts=true->DataW.TrodAll enc P w 0 (fun _=>true) held ts vs ds ps->
 (∀(j:Nat) t v,ts[j]? =some t->vs[j]? =some v->Value.okWide P w r b0 t v)->∃trs,uM ss trs/\TRl (allM w) trs vs
 |[],[],vs,ds,ps,r,b0,_,h,_=>by
  obtain⟨rfl,_,_⟩:=trodAll_nil h;exact⟨[],rfl,TRl.nil⟩
 |s::ss,t::ts,vs,ds,ps,r,b0,hc,h,hv=>by
  simp only[eY,YB]at hc;obtain⟨v,vs',d,ds',p,q,rfl,rfl,h1,h2,rfl⟩:=trodAll_cons h;obtain⟨tr,ha,hr⟩:=G7 hc.1 (hv 0 t v rfl rfl) h1;obtain⟨trs,ha2,hr2⟩:=Oy ss ts vs' ds' q r b0 hc.2 h2 fun j t v h1 h2=>hv (j+1) t v (by simpa using h1) (by simpa using h2)
  exact⟨tr::trs,⟨tr,trs,rfl,ha,ha2⟩,(TRl.one hr).append hr2⟩
 |[],_::_,_,_,_,_,_,hc,_,_=>by simp[eY]at hc
 |_::_,[],_,_,_,_,_,hc,_,_=>by simp[eY]at hc
theorem Mi{J:World->Prop}{f:FuncId}{ss:List Sh}{ts:List TypeId}{args:Array Value}{ds:List (DataW H)}{ps:List MemPlace}{r:Reach}{b0:Nat}(hJ:J w)(hc:eY P ss ts=true)(h:DataW.TrodAll enc P w 0 (fun _=>true) held ts args.toList ds ps)
 (hv:∀(j:Nat) t v,ts[j]? =some t->args[j]? =some v->Value.okWide P w r b0 t v) (walk:∀trs,uM ss trs->Qn P J f trs.toArray (.bool true)):Calls P f args w fun e w'=>e=.returned (.bool true)/\Below w.heap.size w w':=by
 obtain⟨trs,ha,hr⟩:=Oy ss ts args.toList ds ps r b0 hc h fun j t v h1 h2=>hv j t v h1 (by simpa using h2)
 refine(walk trs ha (allM w) w args hJ (fun b x h=>h) ⟨by simpa using hr.1,fun i v v' h1 h2=>hr.2 i v v' (by simpa using h1) (by simpa using h2)⟩).mono fun e w' ⟨v',he,hb,ht⟩=>⟨?_,hb⟩
 rw[he,TRv.simple_eq rfl ht]
theorem dn(hl:laidOutB P=true){W W':World}(hb:Below W.heap.size W W'):∀(ts:List TypeId) (vs:List Value) (ds:List (DataW H)) (ps:List MemPlace),(ts.all fun t=>P.readableRec t && decide (t<P.types.size))=true->DataW.TrodAll enc P W 0 (fun _=>true) true ts vs ds ps->(∀x∈ps,x.block<W.heap.size)->
 DataW.TrodAll enc P W' 0 (fun b=>decide (b<W.heap.size)) true ts vs ds ps
 |[],vs,ds,ps,_,h,_=>by
  obtain⟨rfl,rfl,rfl⟩:=trodAll_nil h;exact rfl
 |t::ts,vs,ds,ps,ha,h,Xp=>by
  simp only[List.all_cons,YB,decide_eq_true_eq]at ha;obtain⟨v,vs',d,ds',p,q,rfl,rfl,h1,h2,rfl⟩:=trodAll_cons h;exact⟨p,q,Below.trod hl ha.1.1 ha.1.2 h1 hb fun x hx=>Xp x (Lm _ hx),dn hl hb ts vs' ds' q ha.2 h2 fun x hx=>Xp x (Lx _ hx),rfl⟩
theorem Np{α:Type}{s:Sh}{e:α->List Value}(dec:∀cs,s.ok cs->∃x,cs=e x){n:Nat}{r:Nat->List Value}(h:∀k,s.ok (r k)\/n<=k):∃xs:List α,xs.length=n/\Qe r (Lg n)=Qe e xs:=by
 induction n with
 |zero=>exact⟨[],rfl,rfl⟩
 |succ n ih=>
  obtain⟨xs,hl,hx⟩:=ih fun k=>(h k).imp id fun h=>by omega
  obtain⟨x,hxe⟩:=dec (r n) ((h n).resolve_right (by omega));refine⟨xs++[x],by simp[hl], ?_⟩;unfold Qe at hx ⊢;rw[List.range_succ,List.flatMap_append,List.flatMap_append];have:(Lg n).flatMap r=xs.flatMap e:=by simpa using hx
  rw[this];simp[hxe]
theorem v8{α:Type}{s:Sh}{e:α->List Value}(dec:∀cs,s.ok cs->∃x,cs=e x){cs:List Value}(h:Sh.ok (.slice s) cs):∃xs:List α,cs=[QC xs.length (Qe e xs)]:=by
 obtain⟨n,r,h1,_,rfl⟩:=h;obtain⟨xs,rfl,hx⟩:=Np dec h1;exact⟨xs,by rw[hx]⟩
theorem OP{cs:List Value}(h:Sh.ok .int cs):∃z:Int,cs=Q5 z:=by
 obtain⟨z,_,rfl⟩:=h;exact⟨z,rfl⟩
def Sh.zero:Sh->List Value
 | .int=>[.int .i64 0]
 | .bool=>[.bool false]
 | .str=>[.string ⟨#[]⟩]
 | .unit=>[]
 | .pair a b=>a.zero++b.zero
 | .struct f=>f.zero
 | .slice _=>[.slice none 0 0]
def Sh.zeroA:Sh->Value
 | .struct f=>.agg f.zero.toArray
 |s=>s.zero.headD undef
def shS(l:List Sh):Sh:=.struct (l.foldr .pair .unit)
end
end Go.CE

namespace Go.CE
open Go Go.RowKit

def Qbe(T:Tm):Tm:=ofList T.len ((Lg T.len).map (Zc T))
structure SpD where
 c:CF
 H:Qq
 n:Nat
 g:FuncId
 args:Array Value
 R:List Nat
 W:List Nat
noncomputable def QbE(P:Program)(F:FuncId->Bool)(c1:CF)(H:Qq)(n:Nat):Option SpD:=
 match c1.mode,c1.todo,c1.defers,c1.roundOf with
 | .run,.code (.region _ ops false)::todo,[],none=>match v3 P F Xy 0 ops c1 H n with
   |some s=>match s.o.op,s.post with
    | .defer c,[]=>match c.callee with
      | .value x=>match Zd s.T x with
        |some (.func (.func g) xs ys)=>bif c.args.isEmpty && F g && LP s.T.len 16000 then some ⟨⟨c1.fn,Qbe (VG s.T s.o.dst undef),todo,[],.run,none⟩,s.H,s.n,g,xs++ys,Y9 s.Qz,Uc s.Qz⟩else none
        |_=>none
      |_=>none
    |_,_=>none
   |none=>none
 |_,_,_,_=>none
section
variable {P:Program} {F:FuncId->Bool} {J:World->Prop} {B:Lo} {c0 c:CF} {Hb H:Qq} {a n:Nat} {W Wf:List Nat}
end
def VJ(n:Int):Nat:=2 ^ n.toNat
def ej(a n:Int):Nat:=a.toNat >>> n.toNat
def uG(a b:Int):Nat:=a.toNat &&& b.toNat
theorem TU{n:Int}(h1:n<=62):VJ n<=4611686018427387904:=by unfold VJ;exact Nat.le_trans (Nat.pow_le_pow_right (by decide) (show n.toNat<=62 by omega)) (by decide)
theorem No{a n:Int}:ej a n<=a.toNat:=by unfold ej;rw[Nat.shiftRight_eq_div_pow];exact Nat.div_le_self _ _
theorem MO{n:Int}(h1:n<=62):(2:Nat) ^ n.toNat<=2 ^ 62:=Nat.pow_le_pow_right (by decide) (by omega)
theorem MP{P:Program}{t:TypeId}{yk:IntKind}{n:Int}(h0:0<=n)(h1:n<=62):qD P .shl t (.int .i64 1) (.int yk n) (.int .i64 ((VJ n:Nat):Int)):=fun x y w=>by
 unfold VJ;have e:min n.toNat (IntKind.bits IntKind.i64)=n.toNat:=Nat.min_eq_left (by show n.toNat<=64;omega);have hp:=MO h1;have e2:(2:Int) ^ n.toNat=((2 ^ n.toNat:Nat):Int):=by rw[Int.natCast_pow];rfl
 have e3:IntKind.wrap IntKind.i64 (1*2 ^ min n.toNat (IntKind.bits IntKind.i64))=((2 ^ n.toNat:Nat):Int):=by
  rw[e,Int.one_mul,e2];generalize 2 ^ n.toNat=z at *;exact cg (by omega) (by omega)
 have hn:¬n<0:=by omega
 simp only[eqGuard,binOp,Op.shift,hn,if_false,e3];simp
theorem On{P:Program}{t:TypeId}{yk:IntKind}{a n:Int}(ha:0<=a)(h0:0<=n)(h1:n<=62):qD P .shr t (.int .i64 a) (.int yk n) (.int .i64 ((ej a n:Nat):Int)):=fun x y w=>by
 unfold ej;obtain⟨b,rfl⟩:∃b:Nat,a=b:=⟨a.toNat,by omega⟩
 have e:min n.toNat (IntKind.bits IntKind.i64)=n.toNat:=Nat.min_eq_left (by show n.toNat<=64;omega);have e3:Int.fdiv (b:Int) (2 ^ min n.toNat (IntKind.bits IntKind.i64))=((((b:Int)).toNat >>> n.toNat:Nat):Int):=by
  rw[e,Int.fdiv_eq_ediv_of_nonneg _ (Int.le_of_lt (Int.pow_pos (by decide))),Int.toNat_natCast,Nat.shiftRight_eq_div_pow,Int.natCast_ediv,Int.natCast_pow];rfl
 have hn:¬n<0:=by omega
 simp only[eqGuard,binOp,Op.shift,hn,if_false,e3];simp
theorem se{a:Int}(ha:0<=a):BitVec.ofInt (IntKind.bits IntKind.i64) a=BitVec.ofNat 64 a.toNat:=by
 obtain⟨b,rfl⟩:∃b:Nat,a=b:=⟨a.toNat,by omega⟩
 rw[Int.toNat_natCast];exact BitVec.ofInt_natCast 64 b
theorem Oo{P:Program}{t:TypeId}{a b:Int}(ha:0<=a)(ha2:a<=9223372036854775807)(hb:0<=b)(hb2:b<=9223372036854775807):qD P .and t (.int .i64 a) (.int .i64 b) (.int .i64 ((uG a b:Nat):Int)):=fun x y w=>by
 unfold uG;have e:IntKind.wrap IntKind.i64 ((BitVec.toNat (BitVec.ofInt (IntKind.bits IntKind.i64) a &&& BitVec.ofInt (IntKind.bits IntKind.i64) b):Nat):Int)=((a.toNat &&& b.toNat:Nat):Int):=by
  rw[se ha,se hb];have e3:BitVec.toNat (BitVec.ofNat 64 a.toNat &&& BitVec.ofNat 64 b.toNat)=a.toNat &&& b.toNat:=by
   rw[BitVec.toNat_and,BitVec.toNat_ofNat,BitVec.toNat_ofNat,Nat.mod_eq_of_lt (a:=a.toNat) (by omega),Nat.mod_eq_of_lt (a:=b.toNat) (by omega)]
  show IntKind.wrap IntKind.i64 ((BitVec.toNat (BitVec.ofNat 64 a.toNat &&& BitVec.ofNat 64 b.toNat):Nat):Int)=_;rw[e3];have:=Nat.and_le_left (n:=a.toNat) (m:=b.toNat);exact cg (by omega) (by omega)
 simp only[eqGuard,binOp,Op.intBits,ne_eq,not_true_eq_false,if_false,e];simp
def pushE{α:Type}(m:Nat)(e:α->List Value)(x:α):List Value:=(e x).map (Wc m)
def Aw{α:Type}(e:α->List Value):Prop:=∀x,∀v∈e x,simple v=true\/WU v=true
section
variable {α:Type} {e:α->List Value} {m r j z:Nat} {rs:List (Nat×Nat)} {Y7:List (Nat×Array Value)} {ow:List (Nat×Nat)} {xs:List α} {rsT:List Nat}
theorem Xz(h:∀x,(e x).all (fun v=>simple v || WU v)=true):Aw e:=fun x v hv=>by
 have:=List.all_eq_true.1 (h x) v hv;simpa using this
theorem RE(v:Value)(h:simple v=true\/WU v=true):(simple v=true/\Wc m v=v)\/(WU v=true/\Wc m v=Qw m v):=by
 unfold Wc;cases hs:simple v with
 |true=>exact .inl ⟨rfl,rfl⟩
 |false=>rw[hs]at h;exact .inr ⟨by simpa using h,rfl⟩
theorem Ds(he:Aw e)(hm:(r,j)∈rs)(x:α):AllX m rs Y7 ow (pushE r e x) (pushE j e x):=by
 have key:∀l:List Value,(∀v∈l,simple v=true\/WU v=true)->AllX m rs Y7 ow (l.map (Wc r)) (l.map (Wc j)):=by
  intro l;induction l with
  |nil=>intro _;trivial
  |cons v l ih=>
   intro h;refine⟨?_,ih fun u hu=>h u (Lw _ hu)⟩;show kG m rs Y7 ow (Wc r v) (Wc j v);rcases RE (m:=r) v (h v (by simp))with ⟨a,b⟩|⟨a,b⟩ <;> rcases RE (m:=j) v (h v (by simp))with ⟨c,d⟩|⟨c,d⟩
   ·rw[b,d];exact .simple a
   ·rw[b];unfold Wc;rw[a];exact .simple a
   ·rw[d];unfold Wc;rw[c];exact .simple c
   ·rw[b,d];exact .Pj hm a
 exact key _ (he x)
theorem Dc{e1 e2:α->List Value}(h:∀x,AllX m rs Y7 ow (e1 x) (e2 x)):Xj m rs Y7 ow (Qe e1 xs) (Qe e2 xs):=by
 unfold Xj Qe;simp only;induction xs with
 |nil=>trivial
 |cons x xs ih=>simp only[LW];exact(h x).append ih
theorem Xe(he:Aw e)(hm:(r,j)∈rs):Xj m rs Y7 ow (Qe (pushE r e) xs) (Qe (pushE j e) xs):=Dc (Ds he hm)
theorem Sf{cs:Array Value}{vs:List Value}{x:α}(h:Xj m rs Y7 ow cs (Qe e xs))(hx:AllX m rs Y7 ow vs (e x)):Xj m rs Y7 ow (cs++vs.toArray) (Qe e (xs++[x])):=by
 unfold Xj at h ⊢;rw[<-X1];simp only[Array.toList_append];exact AllX.append h hx
theorem Rt{vs:List Value}{x:α}(hx:AllX m rs Y7 ow vs (e x)):Xj m rs Y7 ow vs.toArray (Qe e [x]):=by
 unfold Xj Qe;simpa using hx
theorem Dd{vs:List Value}{x:α}(h:AllX m rs Y7 ow vs (e x)):∀k:Nat,Xj m rs Y7 ow (Qe (fun(_:α)=>vs) (Ln k x)) (Qe e (Ln k x))
 |0=>trivial
 |k+1=>by
  unfold Xj Qe;simp only[List.replicate_succ,LW];exact h.append (Dd h k)
theorem ZS(he:Aw e)(hm:m∈rsT):X8 rsT (Qe (pushE m e) xs) (Qe e xs):=by
 have key:∀l:List Value,(∀v∈l,simple v=true\/WU v=true)->∀(i:Nat) v v1,(l.map (Wc m))[i]? =some v->l[i]? =some v1->qB rsT v v1:=by
  intro l h i v v1 h1 h2;rw[LC,h2]at h1;simp only[LI,YO]at h1;subst h1;rcases RE (m:=m) v1 (h v1 (Lp h2))with ⟨a,b⟩|⟨a,b⟩
  ·exact .inl ⟨by rw[b];exact a,b.symm⟩
  ·exact .inr ⟨m,hm,b,a⟩
 have e0:Qe (pushE m e) xs=((xs.flatMap e).map (Wc m)).toArray:=by
  unfold Qe pushE;rw[List.map_flatMap]
 refine⟨by rw[e0];simp[Qe],fun i v v1 h1 h2=> ?_⟩;rw[e0]at h1;refine key (xs.flatMap e) (fun v hv=> ?_) i v v1 (by simpa using h1) (by simpa[Qe]using h2);obtain⟨x,_,hx⟩:=List.mem_flatMap.1 hv;exact he x v hx
theorem pU{a:Nat}{t:TypeId}{fl:Nat×Nat}(he:Aw e)(hm:m<a):Dw a (.cells (Qe (pushE m e) xs) t fl):=fun i v hv=>by
 have:v∈Qe (pushE m e) xs:=LL hv;simp only[Qe,List.mem_toArray,List.mem_flatMap,pushE,List.mem_map]at this;obtain⟨x,_,u,hu,rfl⟩:=this;rcases RE (m:=m) u (he x u hu)with ⟨h1,h2⟩|⟨h1,h2⟩
 ·rw[h2];exact .inl (m9 h1)
 ·rw[h2];refine .inl ?_;show Wx a (Qw m u)=true;have:Ls m a=true:=LD hm;unfold Wx;rw[show simple (Qw m u)=false from rfl,Bool.false_or];exact this
end
def Ue(zs:List Value)(_:Unit):List Value:=zs
theorem FT{zc:Array Value}{z n:Nat}(hz:zc.size=z)(h0:0<z):madeCells zc (n*z)=Qe (Ue zc.toList) (Ln n ()):=by
 have hl:∀x,(Ue zc.toList x).length=z:=fun x=>by simp[Ue,hz]
 refine Array.ext_getElem? fun i=> ?_
 by_cases hi:i<n*z
 ·have hk:i / z<n:=(Nat.div_lt_iff_lt_mul h0).2 hi;have hj:i % z<z:=Nat.mod_lt _ h0;have e:i / z*z+i % z=i:=by rw[Nat.mul_comm];exact Nat.div_add_mod i z
  have:=fI (e:=Ue zc.toList) (xs:=Ln n ()) hl (k:=i / z) (j:=i % z) (by simpa using hk) hj;rw[e]at this;rw[this];have hj':i % z<zc.size:=by rw[hz];exact hj
  simp only[madeCells,Array.getElem?_map,Array.getElem?_range,hi,if_true,LI,hz,Ue];simp[hj']
 ·have a:(madeCells zc (n*z)).size=n*z:=size_madeCells _ _;have b:(Qe (Ue zc.toList) (Ln n ())).size=n*z:=by rw[QZ hl];simp
  rw[Array.getElem?_eq_none (by omega),Array.getElem?_eq_none (by omega)]
def Qbh(P:Program)(t e z bytes:Nat)(zs:List Value):Bool:=match Rx P t with
 |some (.slice e')=>Lf e' e && match inf P e with
  |some i=>match i.zero with
   |some zv=>Lf i.size z && (Lf i.bytes bytes && (Ls 0 z && (Lf zv.cells.size z && (M5 (Gk 2) zv.cells.toList zs && zs.all simple))))
   |none=>false
  |none=>false
 |_=>false
theorem fg{P:Program}{t e z bytes:Nat}{zs:List Value}(h:Qbh P t e z bytes zs=true){l:Int}{k k':IntKind}(h0:0<=l)(hb:bytes*l<=281474976710656)(hn:l<=9223372036854775807):
 Sg P t (.int k l) (.int k' l)=some (e,Qe (Ue zs) (Ln l.toNat ()),l.toNat,z):=by
 unfold Qbh at h;split at h
 ·rename_i e' hu;split at h
  ·rename_i i hi;split at h
   ·rename_i zv hz;simp only[YB]at h;obtain⟨h1,h2,h3,h4,h5,h6,h7⟩:=h;have h1:=YE h1;have h2:=YE h2;have h3:=YE h3;have h4:0<z:=YL h4;have h5:=YE h5;have h6:=Yk (UT 2) _ _ h6;subst h1 h2 h3;have e1:=FT (n:=l.toNat) h5 h4;rw[h6]at e1;have YC:(madeCells zv.cells (l.toNat*i.size)).all simple=true:=by
     rw[e1,Array.all_eq_true'];intro v hv;simp only[Qe,List.mem_toArray,List.mem_flatMap,Ue]at hv;obtain⟨_,_,hv⟩:=hv;exact List.all_eq_true.1 h7 v hv
    simp only[Sg,hu,hi,hz,decide_eq_true h0,decide_eq_true hb,decide_eq_true hn,decide_eq_true (LR l),YC,Bool.and_self,cond_true];rw[e1]
   ·simp at h
  ·simp at h
 ·cases h
section
variable {α:Type} {e:α->List Value} {m z:Nat} {rs:List (Nat×Nat)} {Y7:List (Nat×Array Value)} {ow:List (Nat×Nat)} {xs:List α}
theorem V2{zs:List Value}{x:α}(h:AllX m rs Y7 ow zs (e x)):∀k:Nat,Xj m rs Y7 ow (Qe (Ue zs) (Ln k ())) (Qe e (Ln k x))
 |0=>trivial
 |k+1=>by
  unfold Xj Qe;simp only[List.replicate_succ,LW];exact AllX.append h (V2 h k)
theorem AllX.take{l k:List Value}:∀(n:Nat) {l k:List Value},AllX m rs Y7 ow l k->AllX m rs Y7 ow (l.take n) (k.take n)
 |0,_,_,_=>trivial
 |_+1,[],[],_=>trivial
 |n+1,_::_,_::_,h=>⟨h.1,AllX.take (l:=[]) (k:=[]) n h.2⟩
 |_+1,[],_::_,h=>h.elim
 |_+1,_::_,[],h=>h.elim
theorem AllX.drop{l k:List Value}:∀(n:Nat) {l k:List Value},AllX m rs Y7 ow l k->AllX m rs Y7 ow (l.drop n) (k.drop n)
 |0,_,_,h=>h
 |_+1,[],[],_=>trivial
 |n+1,_::_,_::_,h=>AllX.drop (l:=[]) (k:=[]) n h.2
 |_+1,[],_::_,h=>h.elim
 |_+1,_::_,[],h=>h.elim
theorem Db{cs:Array Value}{vs:List Value}{x:α}{k:Nat}(hz:∀y,(e y).length=z)(h:Xj m rs Y7 ow cs (Qe e xs))(hk:k<xs.length)(hx:AllX m rs Y7 ow vs (e x)):Xj m rs Y7 ow (splice cs (k*z) vs.toArray) (Qe e (xs.set k x)):=by
 have hlen:=(AllX.get hx).1;rw[hz x]at hlen;rw[<-(jy hz hk).2];unfold Xj at h ⊢;unfold splice;simp only[hz x,<-hlen];exact AllX.append (AllX.append (AllX.take (l:=[]) (k:=[]) _ h) hx) (AllX.drop (l:=[]) (k:=[]) _ h)
theorem kz{cs cs1:Array Value}{vs us:List Value}{off:Nat}(h:Xj m rs Y7 ow cs cs1)(hx:AllX m rs Y7 ow vs us):Xj m rs Y7 ow (splice cs off vs.toArray) (splice cs1 off us.toArray):=by
 have hlen:=(AllX.get hx).1;have hl2:=(AllX.get h).1;have e:∀(cs:Array Value) (l:List Value),(splice cs off l.toArray).toList=cs.toList.take off++l++cs.toList.drop (off+l.length):=by
  intro cs l;unfold splice;simp
 unfold Xj at h ⊢;rw[e,e,hlen];exact AllX.append (AllX.append (AllX.take (l:=[]) (k:=[]) _ h) hx) (AllX.drop (l:=[]) (k:=[]) _ h)
theorem Eu{cs:Array Value}{off:Nat}{v:Value}(h:off<cs.size):(splice cs off #[v])[off]? =some v:=by
 have hl:(cs.toList.take off).length=off:=by simp;omega
 unfold splice;rw[List.getElem?_toArray,LY,Ll (by omega),hl];simp
theorem Et{cs:Array Value}{off:Nat}{u v:Value}(h:off<cs.size):off+1<=(splice cs off #[u]).size/\splice (splice cs off #[u]) off #[v]=splice cs off #[v]:=by
 have hl:(cs.toList.take off).length=off:=by simp;omega
 constructor
 ·unfold splice;simp;omega
 ·unfold splice;congr 1;have e1:(cs.toList.take off++[u]++cs.toList.drop (off+1)).take off=cs.toList.take off:=by
   rw[LY,List.take_append_of_le_length (by omega),List.take_of_length_le (by omega)]
  have e2:(cs.toList.take off++[u]++cs.toList.drop (off+1)).drop (off+1)=cs.toList.drop (off+1):=by
   rw[List.drop_append_of_le_length (by simp;omega),List.drop_eq_nil_of_le (by simp;omega),List.nil_append]
  show((cs.toList.take off++[u]++cs.toList.drop (off+1)).take off++[v]++(cs.toList.take off++[u]++cs.toList.drop (off+1)).drop (off+1))=_;rw[e1,e2];rfl
theorem cb{cs:Array Value}{vs:List Value}{x:α}{k:Nat}(hz:∀y,(e y).length=z)(h:Xj m rs Y7 ow cs (Qe e xs))(hk:k<xs.length)(hx:AllX m rs Y7 ow vs (e x)):Xj m rs Y7 ow (splice cs (0+k*z) vs.toArray) (Qe e (xs.set k x)):=by
 rw[LB];exact Db hz h hk hx
theorem S6(h:∀x,(e x).length=z){k z':Nat}(hk:k<xs.length){x:α}{cs:Array Value}(hc:cs=(e x).toArray)(hz:z'=z):0+k*z+z'<=(Qe e xs).size/\splice (Qe e xs) (0+k*z) cs=Qe e (xs.set k x):=by
 subst hz;rw[LB];exact D7 h hk hc
theorem fH(h:∀x,(e x).length=z){k z':Nat}(hk:k<xs.length)(hz:z'=z):0+k*z+z'<=(Qe e xs).size:=by
 subst hz;rw[LB];exact ly h hk
theorem VK[Inhabited α](h:∀x,(e x).length=z){k z':Nat}(hk:k<xs.length){cs:Array Value}(hc:cs=(e (xs.getD k La)).toArray)(hz:z'=z):0+k*z+z'<=(Qe e xs).size/\(Qe e xs).extract (0+k*z) (0+k*z+z')=cs:=by
 subst hz hc;rw[LB];exact⟨ly h hk,Qs h hk⟩
end
end Go.CE

noncomputable abbrev Go.CE.YP:Go.Program:=Go.Proofs.Try.prog
namespace Go.Proofs.Ytncjjangllkokaa
open Go Go.CE Go.RowKit
abbrev pA(b o:Nat):Value:=.pointer (some ⟨b,o,none⟩)
def J0:World->Prop:=fun _=>True
theorem XZ:∀w w':World,(∀b,b<w.heap.size->w'.heap[b]? =w.heap[b]?)->J0 w->J0 w':=fun _ _ _ _=>trivial
theorem Qf:YP.follows .mixedOrders=true:=by decide+kernel
theorem okF:∀g,Q1 YP g=true->Q1 YP g=true:=fun _ h=>h
end Go.Proofs.Ytncjjangllkokaa

namespace Go.CE
open Go Go.RowKit

section
variable {P:Program} {F:FuncId->Bool} {T:Tm} {o:Oper} {H:Qq} {n:Nat}
theorem kg{t e:TypeId}{x hi:Operand}{b off N z:Nat}{k:IntKind}{l:Int}(ho:o.op=.slice t x none (some hi) none)(hx:Zd T x=some (.pointer (some ⟨b,off,none⟩)))(hl:Zd T hi=some (.int k l))(hu:Rx P t=some (.array N e))(hz:W6 P e=some z)(hN:LP N maxLen=true)(h1:0<=l)(h2:l<=N):
 di P F Xy (fun _ _ _=>none) T o H n=some ⟨.ret (.slice (some ⟨b,off,none⟩) l.toNat 0),H,n,[],[]⟩:=by
 have e1:Au N none (some (.int k l))=some (0,l.toNat):=by
  simp only[Au,Gy,decide_eq_true h1,decide_eq_true h2,Bool.and_self,cond_true]
 have e4:cc P t (.pointer (some ⟨b,off,none⟩)) none (some (.int k l))=some (.slice (some ⟨b,off,none⟩) l.toNat 0):=by
  simp only[cc,hu,hz,e1,hN,cond_true,Nat.zero_mul,Nat.add_zero,Nat.sub_zero];cases Lf N 0 <;> rfl
 have e5:Rq P F (Zd T) o H n=some ⟨.val (.slice (some ⟨b,off,none⟩) l.toNat 0),H,n,[],[]⟩:=by
  unfold Rq uu;simp only[ho,hx,G0,hl,e4,mkPure,LI,List.all_nil,cond_true]
 unfold di;simp only[ho,e5]
end
section
variable {P:Program} {F:FuncId->Bool} {T:Tm} {o:Oper} {H:Qq} {n:Nat}
theorem yJ{c:Call}{s x:Operand}{sv:Value}{t e:TypeId}{b off m s2 z by':Nat}{cs cs':Array Value}{te:TypeId}{f:Nat×Nat}(ho:o.op=.call c)(hc:c.callee=.builtin .append)(ha:c.args.toList=[s,x])(hat:c.argTypes.toList=[t,t])
 (hs:Zd T s=some sv) (hbn:YZ sv=true) (hx:Zd T x=some (.slice (some ⟨b,off,none⟩) m s2)) (hu:Rx P t=some (.slice e)) (hi:(inf P e).map (fun i=>(i.zero.map (·.cells.size),i.size,i.bytes))=some (some (z+1),z+1,by')) (hb:Qt H b=some (.cells cs te f)) (hn:b<n)
 (hq:0<m/\m<=maxLen/\m*by'<=140737488355328/\off+m*(z+1)<=cs.size/\ones (cs.extract off (off+m*(z+1)))=true/\cs.extract off (off+m*(z+1))=cs'):
 di P F Xy (fun _ _ _=>none) T o H n=some ⟨.ret (.slice (some ⟨n,0,none⟩) m (z+1)),(n,.cells cs' e (0,0))::H,n+1,[b],[]⟩:=by
 obtain⟨h1,h2,h3,h4,h5,rfl⟩:=hq;cases hinf:inf P e with
 |none=>rw[hinf]at hi;cases hi
 |some i=>
  rw[hinf]at hi;simp only[LI,YO,YR]at hi;obtain⟨i1,i2,i3⟩:=hi;cases hz:i.zero with
  |none=>rw[hz]at i1;cases i1
  |some zv=>
   rw[hz]at i1;simp only[LI,YO]at i1;have eb:bare sv=.slice none 0 0:=by
    unfold YZ at hbn;split at hbn
    ·rfl
    ·rfl
    ·cases hbn
   have e4:At P t t H n sv (.slice (some ⟨b,off,none⟩) m s2)=some ⟨.val (.slice (some ⟨n,0,none⟩) m (z+1)),(n,.cells (cs.extract off (off+m*(z+1))) e (0,0))::H,n+1,[b],[]⟩:=by
    have q1:Lf zv.cells.size (z+1)=true:=by rw[i1];simp
    have q2:LP m maxLen=true:=LD h2;have q3:LP (m*i.bytes) 140737488355328=true:=LD (by rw[i3];exact h3);have q4:Ls 0 m=true:=LD h1;have q5:LP (off+m*(z+1)) cs.size=true:=LD h4;simp only[At,eb,show Lf t t=true by simp,cond_true,VY,hu,hinf,hz,i2,Sv,oz,hb,q5,h5,q1,q2,q3,q4,LB,Bool.and_self,aE,Option.toList,Array.empty_append]
   have e5:Rq P F (Zd T) o H n=some ⟨.val (.slice (some ⟨n,0,none⟩) m (z+1)),(n,.cells (cs.extract off (off+m*(z+1))) e (0,0))::H,n+1,[b],[]⟩:=by
    unfold Rq uu;simp only[ho,hc,ha,hat,hs,hx,e4,List.all_cons,List.all_nil,show Ls b n=true from LD hn,Bool.and_self,cond_true]
   unfold di;simp only[ho,e5]
end
theorem Xq{α:Type}{e:α->List Value}{xs:List α}{x:α}{cs:Array Value}(h:cs=(e x).toArray):Qe e xs++cs=Qe e (xs++[x]):=by
 rw[h];exact X1
def Qk(fs:List Int)(k:Nat):Int:=fs.getD k 0
def Bg(k:Nat)(x:Int):Nat->List Int->List Int
 |_,[]=>[]
 |j,f::l=>(if k=j then x else f)::Bg k x (j+1) l
theorem fo(k:Nat)(x:Int):∀(l:List Int) (j:Nat),(Bg k x j l).length=l.length
 |[],_=>rfl
 |_::l,j=>by simp[Bg,fo k x l (j+1)]
theorem vo(k:Nat)(x:Int):∀(l:List Int) (j i:Nat),i<l.length->(Bg k x j l)[i]? =some (if k=j+i then x else l.getD i 0)
 |[],_,_,h=>by simp at h
 |f::l,j,0,_=>by simp[Bg]
 |f::l,j,i+1,h=>by
  have:=vo k x l (j+1) i (by simpa using h);simp only[Bg,List.getElem?_cons_succ,this,List.getD_cons_succ];rw[show j+1+i=j+(i+1)by omega]
theorem uF{cs:Array Value}{fs:List Int}{off i:Nat}(h:(cs.toList.drop off).take fs.length=fs.map (Value.int .i64))(hi:i<fs.length):cs[off+i]? =some (.int .i64 (fs.getD i 0)):=by
 have e:((cs.toList.drop off).take fs.length)[i]? =(fs.map (Value.int .i64))[i]? :=by rw[h]
 rw[L0 hi,List.getElem?_drop,LC,Lr]at e;rw[e];simp[Lq,hi]
theorem ZC{cs:Array Value}{fs:List Int}{off k:Nat}(h:(cs.toList.drop off).take fs.length=fs.map (Value.int .i64))(hk:k<fs.length):cs[off+k*1]? =some (.int .i64 (Qk fs k)):=by
 rw[Nat.mul_one];exact uF h hk
theorem FP{l:List Int}:ones (Qe Q5 l)=true:=by
 unfold ones;rw[Array.all_eq_true'];intro v hv;have:=RA (e:=Q5) (fun x v hv=>by simp[Q5]at hv;subst hv;rfl) v hv;cases v <;> first|rfl|cases this
theorem Eg{cs:Array Value}{fs:List Int}{off m:Nat}(h:(cs.toList.drop off).take fs.length=fs.map (Value.int .i64))(hm:m<=fs.length)(h0:0<fs.length):off+m*1<=cs.size/\ones (cs.extract off (off+m*1))=true/\cs.extract off (off+m*1)=Qe Q5 (fs.take m):=by
 have ZA:off+fs.length<=cs.size:=by
  have e:=uF h (i:=fs.length-1) (by omega);have:=(Array.getElem?_eq_some_iff.1 e).1;omega
 rw[Nat.mul_one];have e:cs.extract off (off+m)=Qe Q5 (fs.take m):=by
  apply Array.ext';rw[Array.toList_extract,List.extract_eq_drop_take,show off+m-off=m by omega];have e2:(cs.toList.drop off).take m=((cs.toList.drop off).take fs.length).take m:=by rw[List.take_take,Nat.min_eq_left hm]
  rw[e2,h,<-List.map_take];induction fs.take m with
  |nil=>rfl
  |cons x l ih=>rw[List.map_cons,ih];rfl
 exact⟨by omega,by rw[e];exact FP,e⟩
theorem MU{cs:Array Value}{fs:List Int}{off k:Nat}(h:(cs.toList.drop off).take fs.length=fs.map (Value.int .i64))(hk:k<fs.length):cs.extract (off+k*1) (off+k*1+1)=#[.int .i64 (Qk fs k)]:=by
 have e:=ZC h hk;have hs:=(Array.getElem?_eq_some_iff.1 e).1;refine Array.ext_getElem? fun i=> ?_
 rw[LX];by_cases hi:i=0
 ·subst hi;rw[if_pos (by omega),Nat.add_zero,e];rfl
 ·rw[if_neg (by omega),Array.getElem?_eq_none (by simp;omega)]
theorem QaL{l:List Int}{k:Nat}(h:l.length<=4):Qk [l.getD 0 0,l.getD 1 0,l.getD 2 0,l.getD 3 0] k=l.getD k 0:=by
 match k with
 |0=>rfl
 |1=>rfl
 |2=>rfl
 |3=>rfl
 |k+4=>
  have e:l.getD (k+4) 0=0:=by rw[Lq,LA (by omega)];rfl
  rw[e];rfl
theorem uD{cs cs' vc:Array Value}{fs:List Int}{off k:Nat}{x:Int}(hv:vc=#[.int .i64 x])(h:(cs.toList.drop off).take fs.length=fs.map (Value.int .i64))(hk:k<fs.length)(hc:cs'.toList=cs.toList.take off++(Bg k x 0 fs).map (Value.int .i64)++cs.toList.drop (off+fs.length)):
 off+k*1+1<=cs.size/\splice cs (off+k*1) vc=cs':=by
 subst hv;have ZA:off+fs.length<=cs.size:=by
  have e:=uF h (i:=fs.length-1) (by omega);have:=(Array.getElem?_eq_some_iff.1 e).1;omega
 rw[Nat.mul_one];refine⟨by omega,Array.ext_getElem? fun i=> ?_⟩;rw[K6 (by simp;omega),<-Lr (xs:=cs'),hc];have l1:(cs.toList.take off).length=off:=by simp;omega
 by_cases h1:i<off
 ·rw[if_neg (by simp;omega),LY,Ly (by omega),L0 h1,Lr]
 ·rw[LY,Ll (by omega),l1];by_cases h2:i-off<fs.length
  ·rw[Ly (by simp[fo];omega),LC,vo k x fs 0 (i-off) h2];by_cases h3:i=off+k
   ·subst h3;rw[if_pos (by simp),if_pos (by omega)];simp
   ·rw[if_neg (by simp;omega),if_neg (by omega)];have e:=uF h h2;rw[show off+(i-off)=i by omega]at e;rw[e];rfl
  ·rw[if_neg (by simp;omega),Ll (by simp[fo];omega),List.getElem?_drop,List.length_map,fo,Lr];congr 1;omega
theorem ig{xs:List Int}{cs cs':Array Value}{off k r m:Nat}{e:Int->List Value}(he:∀x,e x=[.int .i64 x])(hm:m=xs.length)(h0:0<m)(hk:m<=k)(h:(cs.toList.drop off).take k=Ln k (Value.int .i64 0))(hz:off+k<=cs.size)
 (hc:cs'.toList=cs.toList.take off++((Lg k).map fun j=>Value.int .i64 (xs.getD j La))++cs.toList.drop (off+k)):
 0<m/\off+LU m k*1<=cs.size/\LU m k*1<=(Qe e xs).size/\((Qe e xs).all fun v=>simple v || WU v)=true/\ones (((Qe e xs).extract 0 (LU m k*1)).map (Wc r))=true/\splice cs off (((Qe e xs).extract 0 (LU m k*1)).map (Wc r))=cs':=by
 subst hm;have hmin:LU xs.length k*1=xs.length:=by rw[Nat.mul_one];exact Nat.min_eq_left hk
 have hrow:Qe e xs=(xs.map (Value.int .i64)).toArray:=by
  have:xs.flatMap e=xs.map (Value.int .i64):=by
   have:e=fun x=>[Value.int .i64 x]:=funext he
   rw[this];have h9:∀l:List Int,l.flatMap (fun x=>[Value.int .i64 x])=l.map (Value.int .i64):=fun l=>by
    induction l with
    |nil=>rfl
    |cons x l ih=>rw[LW,ih];rfl
   exact h9 xs
  unfold Qe;rw[this]
 have ZA:(Qe e xs).size=xs.length:=by rw[hrow];simp
 have hext:((Qe e xs).extract 0 (LU xs.length k*1)).map (Wc r)=(xs.map (Value.int .i64)).toArray:=by
  rw[hmin,hrow];apply Array.ext_getElem?;intro i;rw[Array.getElem?_map,LX];by_cases hi:i<xs.length
  ·rw[if_pos (by simp;omega)];simp[hi,Wc,simple]
  ·rw[if_neg (by simp;omega)];simp[hi]
 rw[hext,hmin,ZA];refine⟨h0,by omega,LH _, ?_, ?_,Array.ext_getElem? fun i=> ?_⟩
 ·rw[hrow];simp[simple]
 ·simp[ones,Value.oneCell']
 ·rw[K6 (by simp;omega),<-Lr (xs:=cs'),hc];have l1:(cs.toList.take off).length=off:=by simp;omega
  by_cases h1:i<off
  ·rw[if_neg (by simp;omega),LY,Ly (by omega),L0 h1,Lr]
  ·rw[LY,Ll (by omega),l1];by_cases h2:i-off<k
   ·rw[Ly (by simp;omega),LC,List.getElem?_range h2];by_cases h3:i-off<xs.length
    ·rw[if_pos (by simp;omega)];simp[h3,Lq]
    ·rw[if_neg (by simp;omega)];have e2:((cs.toList.drop off).take k)[i-off]? =(Ln k (Value.int .i64 0))[i-off]? :=by rw[h]
     rw[L0 h2,List.getElem?_drop,show off+(i-off)=i by omega,Lr,List.getElem?_replicate,if_pos h2]at e2;rw[e2];simp[Lq,LA (show xs.length<=i-off by omega)]
   ·rw[if_neg (by simp;omega),Ll (by simp;omega),List.getElem?_drop,Lr];congr 1;simp;omega
theorem FinK.wri{P:Program}{J:World->Prop}{g:FuncId}{args:Array Value}{c0:CF}{Hb ws:Qq}{a:Nat}{Wf:List Nat}{bs outs news:List Obj}{out:OO}(hc:Wa P g args=some c0)(e1:Hb=kH bs)(e2:a=bs.length+1)(e3:ws=Xa 1 outs)(e4:Wf=LK 1 bs.length)
 (h:∀B:Lo,(∀w,B.has w->J w)->FinK P B c0 Hb a out ws news Wf):WriC P J g args bs out outs news:=fun B hJ μ w args' cs QE hB hf hv=>by
 subst e1 e2 e3 e4;obtain⟨Zh,w',μ',hp,ho,_,he⟩:=h B hJ μ w _ cs QE hB hf (UL hc hv);rw[show bs.length+1+1+news.length=bs.length+2+news.length by omega]at hp;exact⟨Zh,w',μ',hp,ho,he⟩
theorem GJ{α:Type}{e:α->List Value}{xs:List α}{z:Nat}[Inhabited α](h:∀x,(e x).length=z){k j:Nat}{v:Value}(hk:k<xs.length)(hv:(e (xs.getD k La))[j]? =some v):(Qe e xs)[0+k*z+j]? =some v:=by
 rw[LB];exact D8 h hk hv
theorem Kd{α:Type}[Inhabited α]{e:α->List Value}{z:Nat}{xs:List α}(h:∀x,(e x).length=z){k j z':Nat}(hk:k<xs.length){x:α}{cs:Array Value}(hx:e x=(e (xs.getD k La)).take j++cs.toList++(e (xs.getD k La)).drop (j+z'))(hz:z'=cs.size)(hj:j+z'<=z):0+k*z+j+z'<=(Qe e xs).size/\splice (Qe e xs) (0+k*z+j) cs=Qe e (xs.set k x):=by
 have hle:=ly (e:=e) h hk;have ZB:=D7 (e:=e) h hk (x:=x) (cs:=(e x).toArray) rfl;have hX:(e x).length=z:=h _;have hE:(e (xs.getD k La)).length=z:=h _;have hr:∀q,q<z->(Qe e xs)[k*z+q]? =(e (xs.getD k La))[q]? :=fun q hq=>by
  have hq':q<(e (xs.getD k La)).length:=by omega
  rw[D8 (e:=e) h hk (LZ hq'),LZ hq']
 generalize e (xs.getD k La)=E at *;subst hz;have hc:cs.toList.length=cs.size:=Array.length_toList ..;have ht:(E.take j).length=j:=by rw[List.length_take];omega
 have key:∀q,(e x).toArray[q]? =(E.take j++(cs.toList++E.drop (j+cs.size)))[q]? :=fun q=>by rw[List.getElem?_toArray,hx,LY]
 have ec:∀q,cs[q]? =cs.toList[q]? :=fun q=>(Lr ..).symm
 refine⟨by omega, ?_⟩;rw[<-ZB.2];apply Array.ext_getElem?;intro i;have s2:(e x).toArray.size=z:=hX;rw[K6 (by omega),K6 (by omega),s2,key,ec];by_cases h1:0+k*z+j<=i/\i<0+k*z+j+cs.size
 ·rw[if_pos h1,if_pos (by omega),Ll (by omega),Ly (by omega)];congr 1;omega
 ·rw[if_neg h1];by_cases h2:k*z<=i/\i<k*z+z
  ·rw[if_pos h2];have h5:=hr (i-k*z) (by omega);rw[show k*z+(i-k*z)=i by omega]at h5;rw[h5];by_cases h3:i<k*z+j
   ·rw[Ly (by omega),L0 (by omega)]
   ·rw[Ll (by omega),Ll (by omega),List.getElem?_drop];congr 1;omega
  ·rw[if_neg h2]
theorem Zf{α:Type}{e:α->List Value}{xs:List α}{m:Nat}{rs:List Nat}(h:∀x,(e x).all simple=true):Q0 m rs (Qe e xs) (Qe e xs):=dw (RA fun x=>List.all_eq_true.1 (h x))
end Go.CE
