/- TW 7: heads and ends of runs with trees; contracts. -/
import Derived.Test.YtncjjangllkokaaZRS09
import Derived.Deep.Slices
import Derived.Carry
import Derived.WideShapes
import Derived.ChangeShapes
import Derived.SevenTiedAt
import Derived.Test.YtncjjangllkokaaZRS07
import Derived.Test.YtncjjangllkokaaProg
set_option linter.all false
open List renaming getElem?_eq_none->LG,getElem?_cons_zero->Lu,getElem?_map->LF,mem_of_getElem? ->Lp,flatMap_cons->LU,getElem?_append_left->Lx,getElem?_append_right->Lm,range->Ll,mem_cons_of_mem->Lt,getD_eq_getElem?_getD->Ly,getElem?_eq_getElem->L4,length_append->Lh,getD->Le,replicate->Lz,mem_append_left->Ln,mem_append_right->Lw,append_assoc->LY,getElem?_take_of_lt->L0,range'->LM
open Nat renaming ble->LR,beq->Lf,lt_or_ge->LK,le_refl->LI,zero_add->LD,blt->Lr,ble_eq_true_of_le->LH,min->LW
open Option renaming map_some->LL
open Array renaming mem_of_getElem? ->LN,getElem?_toList->Lq,getElem?_extract->LX
open Int renaming le_refl->LS
open Inhabited renaming default->La
namespace Go.CE
open Go Go.RowKit

def Zb:Qt:=[(0,X8)]
def Q8(objs:List Obj):Qt:=(0,X8)::(1,X8)::X0 2 objs
theorem qh(objs:List Obj)(j:Nat):Qw (Q8 objs) j=if j=0 then some X8 else if j=1 then some X8 else objs[j-2]? :=by
 unfold Q8;rw[QV,QV,Vm];by_cases h0:j=0
 ·simp[h0]
 ·by_cases h1:j=1
  ·simp[h1]
  ·rw[if_neg h0,if_neg h1,if_pos (by omega),if_neg h0,if_neg h1]
theorem hC(objs:List Obj):Under (Q8 objs) (2+objs.length):=fun i hi=>by
 rw[qh,if_neg (by omega),if_neg (by omega),LG (by omega)]
def bm(H:Qt)(m:Nat)(pos:Nat->Option Nat)(fz:List Fz):List (Nat×KS)->Option (List Obj×List Prop)
 |[]=>some ([],[])
 |(k,s)::l=>match Ol H m pos fz (Qw H k) s with
  |some (o,L)=>match bm H m pos fz l with
   |some (os,L2)=>some (o::os,L++L2)
   |none=>none
  |none=>none
structure Nd where
 fn:FuncId
 len:Nat
 todo:List Item
 defers:List Nat
 mode:CM
 roundOf:Option Nat
 vals:List Value
 objs:List Obj
 L:List Prop
def GR:Option Obj->Bool
 |some (.cells _ _ (0,0))=>true
 |_=>false
def landM(s:Option ST)(slots:List Nat)(keeps:List (Nat×KS))(fz:List Fz):Option Nd:=match s with
 |some ⟨.at c H n,W,L⟩=>bif W.isEmpty && distinct (keeps.map (·.1)) && (keeps.all fun k=>LR 1 k.1) && (fz.all fun x=>LR 1 x.k && GR (Qw H x.k) && (keeps.all fun k=> !(Lf k.1 x.k)))then
  match sm (xQ H 1 (posOf (keeps.map (·.1)) 2) fz 3) (slots.map (XT c.tmps)),bm H 1 (posOf (keeps.map (·.1)) 2) fz keeps with
  |some (vs,L1),some (os,L2)=>some ⟨c.fn,c.tmps.len,c.todo,c.defers,c.mode,c.roundOf,vs,os,L1++(L2++L)⟩
  |_,_=>none
   else none
 |_=>none
section
variable {P:Program} {F:FuncId->Bool} {J:World->Prop} {B:Lo}
theorem sk{f:Value->Option (Value×List Prop)}:∀(l ts:List Value) (L:List Prop),sm f l=some (ts,L)->ts.length=l.length/\∀(i:Nat) v,ts[i]? =some v->∃u L1,l[i]? =some u/\f u=some (v,L1)/\(Q3 L->Q3 L1)
 |[],ts,L,h=>by
  simp only[sm,YO,YR]at h;obtain⟨rfl,rfl⟩:=h;exact⟨rfl,fun i v h=>by simp at h⟩
 |v::l,ts,L,h=>by
  simp only[sm]at h;split at h
  ·rename_i t L1 h1;split at h
   ·rename_i ts2 L2 h2;simp only[YO,YR]at h;obtain⟨rfl,rfl⟩:=h;obtain⟨k1,k2⟩:=sk l ts2 L2 h2;refine⟨by simp[k1],fun i u x=> ?_⟩;cases i with
    |zero=>
     simp only[Lu,YO]at x;subst x;exact⟨v,L1,rfl,h1,fun h=>(X5 h).1⟩
    |succ i=>
     obtain⟨u',L',a,b,c⟩:=k2 i u (by simpa using x);exact⟨u',L',by simpa using a,b,fun h=>c (X5 h).2⟩
   ·cases h
  ·cases h
theorem KB{H:Qt}{m:Nat}{pos:Nat->Option Nat}{fz:List Fz}:∀(l:List (Nat×KS)) (os:List Obj) (L:List Prop),bm H m pos fz l=some (os,L)->os.length=l.length/\∀(i:Nat) o,os[i]? =some o->∃k s L1,l[i]? =some (k,s)/\Ol H m pos fz (Qw H k) s=some (o,L1)/\(Q3 L->Q3 L1)
 |[],os,L,h=>by
  simp only[bm,YO,YR]at h;obtain⟨rfl,rfl⟩:=h;exact⟨rfl,fun i v h=>by simp at h⟩
 |(k,s)::l,os,L,h=>by
  simp only[bm]at h;split at h
  ·rename_i t L1 h1;split at h
   ·rename_i ts2 L2 h2;simp only[YO,YR]at h;obtain⟨rfl,rfl⟩:=h;obtain⟨k1,k2⟩:=KB l ts2 L2 h2;refine⟨by simp[k1],fun i u x=> ?_⟩;cases i with
    |zero=>
     simp only[Lu,YO]at x;subst x;exact⟨k,s,L1,rfl,h1,fun h=>(X5 h).1⟩
    |succ i=>
     obtain⟨k',s',L',a,b,c⟩:=k2 i u (by simpa using x);exact⟨k',s',L',by simpa using a,b,fun h=>c (X5 h).2⟩
   ·cases h
  ·cases h
theorem TR.merge{μ' μ1:Mu}{T':Tm}{A:Array Value}{len:Nat}{live:List (Nat×Value)}(h:TR μ' T' A)(hlen:T'.len=len)(hl:len<=16000)(hlive:∀p∈live,∀v',VR μ' (XT T' p.1) v'->VR μ1 p.2 v')
 {d:Nat->Value} (hd:∀t,Xe (d t)/\∀μ v',VR μ (XT T' t) v'->VR μ (d t) v'):TR μ1 (OC len live d) A:=by
 refine⟨hlen ▸ h.1,fun t=> ?_⟩;rw[Mp hl];have ht:=h.2 t;split
 ·rcases Ar live t (d t)with e|⟨v,hv,e⟩
  ·rw[e];exact(hd t).1 μ' μ1 _ ((hd t).2 μ' _ ht)
  ·rw[e];exact hlive _ hv _ ht
 ·rename_i Xp;have:A.getD t undef=undef:=by
   have:A.size<=t:=by rw[<-h.1,hlen];omega
   simp[this]
  rw[this];exact VR.undef
theorem GoE.landM{c0 c:CF}{H:Qt}{n:Nat}(hF:∀g,F g=true->Q6 P g=true)(hJ:∀w,B.has w->J w)(Zm:P.follows .mixedOrders=true)(h:GoE P B c0 Zb 1 c H n []){fuel:Nat}{sc:QI}{f:FuncId}{len:Nat}{todo:List Item}{slots:List Nat}{keeps:List (Nat×KS)}{fz:List Fz}{vs:List Value}{os:List Obj}{L:List Prop}
 (e:CE.landM (Qq P F J B fuel 1 c H n sc 0 [] []) slots keeps fz=some ⟨f,len,todo,[],.run,none,vs,os,L⟩) (hL:Q3 L) (hlen:LR len 16000=true) (hplain:todo.all P8=true):
 ∃d:Nat->Value,(∀t,Xe (d t))/\GoE P B c0 Zb 1 (Q9 f len (slots.zip vs) d todo) (Q8 os) (2+os.length) []:=by
 unfold CE.landM at e;split at e
 ·rename_i c' H' n' W' L' hs;have e:=e;cases hq:(W'.isEmpty && distinct (keeps.map (·.1)) && (keeps.all fun k=>LR 1 k.1) && (fz.all fun x=>LR 1 x.k && GR (Qw H' x.k) && (keeps.all fun k=> !(Lf k.1 x.k))))with
  |false=>rw[hq]at e;cases e
  |true=>
   rw[hq]at e;simp only[cond_true]at e;split at e
   ·rename_i vs0 L1 os0 L2 hvs hos;simp only[YO,Nd.mk.injEq]at e;obtain⟨e1,e2,e3,e4,e5,e6,rfl,rfl,rfl⟩:=e;obtain⟨hL1,hL23⟩:=X5 hL;obtain⟨hL2,hL3⟩:=X5 hL23;simp only[YB]at hq;obtain⟨⟨⟨hW,hdist⟩,hge⟩,hfz⟩:=hq;have hWe:W'=[]:=by simpa using hW
    subst hWe;obtain⟨R,W2,SZ,hiff⟩:=W9 hF hJ Zm fuel 1 c H n sc 0 [] [] _ h.under hs hL3;have hg:=(h.step SZ).lists (W1:=[]) (fun i hi=>by
     have:=hiff i hi;simp only[List.not_mem_nil,false_or]at this;simp[<-this])
    have hd:∀t,∃d,Xe d/\∀μ v',VR μ (XT c'.tmps t) v'->VR μ d v':=fun t=>Ja _
    have hlenos:=(KB keeps os0 L2 hos).1;refine⟨fun t=>Classical.choose (hd t),fun t=>(Classical.choose_spec (hd t)).1,hC _,by omega,fun Z μ w fr cs QE hB hf XF=> ?_⟩;obtain⟨fr',w',μ',hp,hfr',a,b,Zh⟩:=hg.sem Z μ w fr cs QE hB hf XF;let ρ:Nat->Nat:=fun i=>if i=0 then 0 else((keeps.map (·.1))[i-2]?).getD i
    have hρ:∀i k,2<=i->(keeps.map (·.1))[i-2]? =some k->ρ i=k:=fun i k hi hk=>by
     show(if i=0 then 0 else((keeps.map (·.1))[i-2]?).getD i)=k;rw[if_neg (by omega),hk];rfl
    have get:∀i,1<i->i<2+os0.length->∃k,(keeps.map (·.1))[i-2]? =some k/\ρ i=k/\1<=k:=by
     intro i h1 h2;have Xp:i-2<keeps.length:=by omega
     refine⟨(keeps[i-2]).1,by simp[Xp],hρ i _ (by omega) (by simp[Xp]), ?_⟩;exact YL (List.all_eq_true.1 hge _ (List.getElem_mem Xp))
    let im1:c7:=⟨0,0,0,false,Y7 μ' H' w' (Pb H' n'++fz.map (·.k))⟩
    let μ1:=j4 1 (2+os0.length) ρ μ μ' (Y7 μ' H' w' (Pb H' n'++fz.map (·.k)))
    have hco:yb H' 1 (posOf (keeps.map (·.1)) 2) fz μ' μ1 w' n' (fz.map (·.k)) im1:=by
     refine⟨⟨B.B,_,hp.ok,fun i hi=> ?_⟩,hg.under,fun k j hj=> ?_, ?_,rfl,fun x hx=>List.mem_map.2 ⟨x,hx,rfl⟩⟩
     ·rcases LK i 1 with h|h
      ·exact .inl h
      ·exact .inr ⟨h,hi⟩
     ·obtain⟨h1,h2⟩:=TD _ _ _ _ hj;have Xp:j-2<keeps.length:=by
       have:=(List.getElem?_eq_some_iff.1 h2).1;simpa using this
      show j4 1 (2+os0.length) ρ μ μ' _ j=μ' k;unfold j4;rw[if_neg (by omega),if_pos ⟨by omega,by omega⟩,hρ j k h1 h2]
     ·show j4 1 (2+os0.length) ρ μ μ' _ 1=some im1;unfold j4;rw[if_pos rfl]
    have hkeeps:AY 1 n' (2+os0.length) [] μ μ' Zb H' (Q8 os0) w' ρ (fz.map (·.k)):=by
     refine⟨by omega,fun i hi=> ?_,fun i h1 h2=> ?_,fun i j h1 h2 h3 h4 h5=> ?_,hC _,fun i hi _=> ?_, ?_,fun i o1 hi hc ho=> ?_,fun k hk=> ?_⟩
     ·have:i=0:=by omega
      subst this;rfl
     ·obtain⟨k,hk,hk2,hk3⟩:=get i h1 h2;refine⟨by omega, ?_⟩;rw[hk2];have Xp:i-2<os0.length:=by omega
      obtain⟨k',s,L',ha,hb,hc⟩:=(KB keeps os0 L2 hos).2 (i-2) os0[i-2] (by simp[Xp]);have:k'=k:=by
       rw[LF,ha]at hk;simpa using hk
      subst this;obtain⟨⟨x,hx⟩,_⟩:=Te hco hb (hc hL2);exact hg.under.lt hx
     ·obtain⟨k,hk,hk2,_⟩:=get i h1 h2;obtain⟨k',hk',hk2',_⟩:=get j h3 h4;rw[hk2,hk2']at h5;subst h5;have:=Pw hdist _ _ _ hk hk';omega
     ·have:i=0:=by omega
      subst this;rfl
     ·rfl
     ·have h1i:1<i:=hc.elim id fun h=>by simp at h
      rw[qh,if_neg (by omega),if_neg (by omega)]at ho;obtain⟨k,s,L',ha,hb,hc'⟩:=(KB keeps os0 L2 hos).2 (i-2) o1 ho;obtain⟨_,hnr,hli⟩:=Te hco hb (hc' hL2);refine⟨hnr,fun hl1=> ?_⟩;obtain⟨x,hx,hl,ZU⟩:=hli hl1;refine⟨x, ?_,hl,fun im _ h=>ZU im h⟩;rw[hρ i k (by omega) (by rw[LF,ha];rfl)];exact hx
     ·obtain⟨x,hx,rfl⟩:=List.mem_map.1 hk;have:=List.all_eq_true.1 hfz x hx;simp only[YB]at this;obtain⟨⟨q1,q2⟩,q3⟩:=this;have hown:∃o,Qw H' x.k=some o/\live o:=by
       unfold GR at q2;split at q2
       ·rename_i ho;exact⟨_,ho,trivial⟩
       ·cases q2
      obtain⟨o,ho,hl⟩:=hown;refine⟨YL q1,hg.under.lt ho,⟨o,ho,hl⟩,fun i h1 h2 hr=> ?_⟩;obtain⟨k,hk,hk2,_⟩:=get i h1 h2;rw[hk2]at hr;rw[LF]at hk;cases hy:keeps[i-2]? with
      |none=>rw[hy]at hk;cases hk
      |some y=>
       rw[hy]at hk;simp only[LL,YO]at hk;have:=List.all_eq_true.1 q3 y (Lp hy);rw[hk,hr]at this;simp at this
    have Zv:=hp.merge QE hf hkeeps;have hpans:c'.mode.pans=false:=by rw[e5];rfl
    refine⟨fr',w',_,Zv,⟨by rw[hfr'.fn,e1];rfl, ?_,fun _=>(e3 ▸ hfr'.todo hpans).plain hplain, ?_, ?_,hfr'.kind, ?_⟩,a,b,Zh⟩
    ·refine hfr'.tmps.merge e2 (YL hlen) (fun p hp v' hv=> ?_) fun t=>Classical.choose_spec (hd t)
     obtain⟨i,hi⟩:=List.getElem?_of_mem hp;rw[List.getElem?_zip_eq_some]at hi;obtain⟨hi1,hi2⟩:=hi;obtain⟨u,L',ha,hb,hc⟩:=(sk _ _ _ hvs).2 i p.2 hi2;rw[LF,hi1]at ha;simp only[LL,YO]at ha;subst ha;exact Yd hco 3 _ _ _ _ hb (hc hL1) hv
    ·have:=hfr'.defers;rw[e4]at this;exact .of_empty this.empty
    ·have:=hfr'.mode;rw[e5]at this;generalize fr'.mode=ds at this;cases this;exact .run
    ·have:=hfr'.round;rw[e6]at this;generalize fr'.roundOf=x at this;cases x with
     |none=>trivial
     |some x=>cases this
   ·cases e
 ·cases e
def Xq(s:Option ST)(fz:List Fz):Option (Value×List Prop):=match s with
 |some ⟨.fin (.ret v) H _,W,L⟩=>bif W.isEmpty then match VO H fz 3 v with
  |some (t,_,L2)=>some (t,L2++L)
  |none=>none
   else none
 |_=>none
def EndsT(P:Program)(B:Lo)(c0:CF)(out:Value):Prop:=
 ∀(μ:Mu) (w:World) (fr:Frame) (cs:List Frame) (im:c7),Ok B (fun i=>i<1) μ (Qw Zb) w->B.has w->(∀i,1<=i->μ i=none)->μ 0=some im->FrR Bot.no μ c0 fr->
  ∃v' w',Below w.heap.size w w'/\TRv (cm im.fm w w') out v'/\EndsAs P fr cs w (.ret v') w'
theorem GoE.endsT{c0 c:CF}{H:Qt}{n:Nat}(hF:∀g,F g=true->Q6 P g=true)(hJ:∀w,B.has w->J w)(Zm:P.follows .mixedOrders=true)(h:GoE P B c0 Zb 1 c H n []){fuel:Nat}{sc:QI}{fz:List Fz}{out:Value}{L:List Prop}
 (e:Xq (Qq P F J B fuel 1 c H n sc 0 [] []) fz=some (out,L)) (hL:Q3 L):EndsT P B c0 out:=by
 unfold Xq at e;split at e
 ·rename_i v H' n' W' L' hs;cases hW:W'.isEmpty with
  |false=>rw[hW]at e;cases e
  |true=>
   rw[hW]at e;simp only[cond_true]at e;split at e
   ·rename_i t R2 L2 Zh;simp only[YO,YR]at e;obtain⟨rfl,rfl⟩:=e;obtain⟨hL2,hL1⟩:=X5 hL;have hWe:W'=[]:=by simpa using hW
    subst hWe;obtain⟨R,W2,hfj,hiff⟩:=W9 hF hJ Zm fuel 1 c H n sc 0 [] [] _ h.under hs hL1;intro μ w fr cs im QE hB hf QK XF;obtain⟨Zg,w',μ',hp,ho,he⟩:=h.fj hfj μ w fr cs QE hB hf XF;have hnoW:∀i,i∈[]++W2->¬i<1:=fun i hi Xp=>by
     have:=(hiff i Xp).2 (.inr (by simpa using hi));simp at this
    have hbel:Below w.heap.size w w':=⟨hp.os,hp.tape,hp.output,hp.grow,fun b hb=>hp.frame b hb fun i hi hl=>absurd hl (hnoW i hi)⟩
    cases ho with
    |ret VY=>
     rename_i v';refine⟨v',w',hbel, ?_,he⟩;have hu':Under H' n':=h.under.shape hfj.shape;have hle:=hp.le
     -- of what is looked at, all is there
     have Y6:∀r,(Qw H' r).isSome->r<1\/1<=r/\r<n':=fun r hr=>by
      have:r<n':=by
       cases hg:Qw H' r with
       |none=>rw[hg]at hr;cases hr
       |some o=>exact hu'.lt hg
      omega
     have hok2:Ok B.B (fun _=>True) μ' (Qw H') w':=
      ⟨fun i o _ ho=>hp.ok.rel i o (Y6 i (by rw[ho];rfl)) ho,fun i o im _ ho=>hp.ok.low i o im (Y6 i (by rw[ho];rfl)) ho,
       fun i j oi oj a b _ _ TS Wc Wb=>hp.ok.inj i j oi oj a b (Y6 i (by rw[Wc];rfl)) (Y6 j (by rw[Wb];rfl)) TS Wc Wb,
       fun i o _ ho=>hp.ok.P1 i o (Y6 i (by rw[ho];rfl)) ho,fun i j oi oj a b x _ _ Wc Wb=>hp.ok.sep i j oi oj a b x (Y6 i (by rw[Wc];rfl)) (Y6 j (by rw[Wb];rfl)) Wc Wb⟩
     refine(Ph hok2 3 v v' t R2 L2 Zh hL2 (fun _ _=>trivial) VY).mono fun b x hx=> ?_
     have hw:=Vo hx;unfold Y7 at hx;split at hx
     ·rename_i hc;obtain⟨i,_,o,im2,hio,WS,Yb⟩:=hc;have hi:=Y6 i (by rw[hio];rfl);have old0:∀i,i<1->i=0:=fun i h=>by omega
      have keep0:Qw H' 0=some X8:=by
       rw[hp.keep 0 (by omega) fun e=>hnoW 0 e (by omega)];rfl
      have mu0:μ' 0=some im:=by rw[hp.ext 0 (by omega)];exact QK
      have below:b<w.heap.size->im.fm b=some x->cm im.fm w w' b=some x:=fun h1 h2=>by unfold cm;rw[if_pos h1];exact h2
      have above:w.heap.size<=b->cm im.fm w w' b=some x:=fun h1=>by unfold cm;rw[if_neg (by omega)];exact hw
      have from0:im.fm b=some x->cm im.fm w w' b=some x:=fun h=>by
       refine below ?_ h;exact PI QE (i:=0) (o:=X8) (show 0<1 by omega) rfl trivial QK h
      rcases Yb with ⟨WJ,JU⟩|⟨hl,hb⟩
      ·cases hfx:im2.fm b with
       |none=>exact absurd hfx JU
       |some y=>
        obtain⟨im3,him3,hf3⟩:=hp.ok.P1 i o hi hio WJ;rw[WS]at him3;cases him3;have:=hf3 b y hfx;rw[hw]at this;cases this;rcases hi with hi|hi
        ·rw[old0 i hi,mu0]at WS;cases WS;exact from0 hfx
        ·rcases hp.rf i im2 o (.inl hi) hio WJ WS b x hfx with c|⟨k,UT,ko,hk,_,hko,_,hkm,hkb⟩|⟨k,hk,hkn,_⟩
         ·exact above c
         ·rw[old0 k hk,QK]at hkm;cases hkm;exact from0 hkb
         ·exact absurd hkn (hnoW k hk)
      ·rcases hi with hi|hi
       ·rw[old0 i hi,keep0]at hio;cases hio;exact hl.elim
       ·rcases(hp.fresh i im2 o hi.1 hi.2 hio hl WS).2 with c|⟨k,hk,hkn,_⟩
        ·exact above (by omega)
        ·exact absurd hkn (hnoW k hk)
     ·cases hx
   ·cases e
 ·cases e
theorem Xi{g:FuncId}{ts:List Value}{out:Value}{c0:CF}(Zh:∀w w':World,(∀b,b<w.heap.size->w'.heap[b]? =w.heap[b]?)->J w->J w')(hc:ZY P g (ts.map (Q7 0 4)).toArray=some c0)(QE:(ts.all (rF 4))=true)
 (h:∀B:Lo,(∀w,B.has w->J w)->EndsT P B c0 out):Qr P J g ts.toArray out:=by
 intro fm w args' hJ hfm hargs cs;let B:Lo:=⟨w.heap.size,fun w'=> ∀b,b<w.heap.size->w'.heap[b]? =w.heap[b]?,fun _ _ h hi b hb=>(h b hb).trans (hi b hb)⟩
 have hB:B.has w:=⟨LI _,fun _ _=>rfl⟩
 let im:c7:=⟨0,0,0,false,fm⟩
 let μ:Mu:=fun i=>if i=0 then some im else none
 have hOk:Ok B.B (fun i=>i<1) μ (Qw Zb) w:=by
  have only:∀i o,Qw Zb i=some o->i=0/\o=X8:=by
   intro i o h;simp only[Zb,QV,Qw]at h;split at h
   ·rename_i e;exact⟨e,by simpa using h.symm⟩
   ·cases h
  refine⟨fun i o _ ho hl=> ?_,fun i o im _ ho hl=> ?_,fun i j oi oj a b _ _ _ ho _ hl=> ?_,fun i o _ ho _=> ?_,fun i j oi oj a b x _ _ _ ho _ hl=> ?_⟩
  ·rw[(only i o ho).2]at hl;exact hl.elim
  ·rw[(only i o ho).2]at hl;exact hl.elim
  ·rw[(only i oi ho).2]at hl;exact hl.elim
  ·exact⟨im,by rw[(only i o ho).1];rfl,hfm⟩
  ·rw[(only j oj ho).2]at hl;exact hl.elim
 have hv:VRs μ (ts.map (Q7 0 4)).toArray args':=by
  refine⟨by simpa using hargs.1,fun i v v' hv ZQ=> ?_⟩;simp only[List.getElem?_toArray,LF]at hv;cases ht:ts[i]? with
  |none=>rw[ht]at hv;cases hv
  |some t=>
   rw[ht]at hv;simp only[LL,YO]at hv;subst hv;exact SF (im:=im) rfl 4 t v' (List.all_eq_true.1 QE t (Lp ht)) (hargs.2 i t v' (by simpa using ht) ZQ)
 obtain⟨v',w',hb,ht,he⟩:=h B (fun w' h=>Zh w w' h.inv hJ) μ w (Frame.enter P g args' .normal) cs im hOk hB (fun i hi=>by show(if i=0 then _ else _)=_;rw[if_neg (by omega)]) rfl (UL hc hv);obtain⟨frE,h1,h2,h3⟩:=he.1 rfl;exact⟨.returned v',w',frE,⟨v',rfl,hb,ht⟩,h1,h2,h3⟩
theorem GoE.start{c0:CF}:GoE P B c0 Zb 1 c0 Zb 1 []:=GoE.refl (fun i hi=>by simp only[Zb,QV,Qw];rw[if_neg (by omega)])
end
end Go.CE

namespace Go.CE
open Go Go.RowKit

def Qe{α:Type}(e:α->List Value)(xs:List α):Array Value:=(xs.flatMap e).toArray
def Q0(n:Int):List Value:=[.int .i64 n]
abbrev Zk(xs:List Int):Value:=QH xs.length (Qe Q0 xs)
section
variable {α:Type} {e:α->List Value} {z:Nat} {xs:List α}
theorem iQ(h:∀x,(e x).length=z):∀xs:List α,(xs.flatMap e).length=xs.length*z
 |[]=>by simp
 |x::xs=>by simp[h,iQ h xs,Nat.add_mul,Nat.add_comm]
theorem QT(h:∀x,(e x).length=z):(Qe e xs).size=xs.length*z:=by simp[Qe,iQ h]
theorem flat_get(h:∀x,(e x).length=z):∀(xs:List α) (k j:Nat) (x:α),j<z->xs[k]? =some x->(xs.flatMap e)[k*z+j]? =(e x)[j]?
 |[],k,j,x,hj,hk=>by simp at hk
 |y::xs,0,j,x,hj,hk=>by
  simp only[Lu,YO]at hk;subst hk;simp only[LU,Nat.zero_mul,LD];rw[Lx (by rw[h];exact hj)]
 |y::xs,k+1,j,x,hj,hk=>by
  simp only[LU];rw[Lm (by rw[h,Nat.add_mul];omega),h,show(k+1)*z+j-z=k*z+j by rw[Nat.add_mul];omega];exact flat_get h xs k j x hj (by simpa using hk)
theorem dP[Inhabited α](h:∀x,(e x).length=z){k j:Nat}(hk:k<xs.length)(hj:j<z):(Qe e xs)[k*z+j]? =(e (xs.getD k La))[j]? :=by
 have hx:xs[k]? =some (xs.getD k La):=by simp[hk]
 simp only[Qe,List.getElem?_toArray];exact flat_get h xs k j _ hj hx
theorem Bk[Inhabited α](h:∀x,(e x).length=z){k j:Nat}{v:Value}(hk:k<xs.length)(hv:(e (xs.getD k La))[j]? =some v):(Qe e xs)[k*z+j]? =some v:=by
 have hj:j<z:=by rw[<-h (xs.getD k La)];exact(List.getElem?_eq_some_iff.1 hv).1
 rw[dP h hk hj,hv]
theorem Qu[Inhabited α](h:∀x,(e x).length=z){k:Nat}(hk:k<xs.length):(Qe e xs).extract (k*z) (k*z+z)=(e (xs.getD k La)).toArray:=by
 have ZW:=QT (xs:=xs) h;have hle:k*z+z<=xs.length*z:=by
  have:=Nat.mul_le_mul_right z (show k+1<=xs.length by omega);rw[Nat.add_mul,Nat.one_mul]at this;exact this
 refine Array.ext (by simp[ZW,h];omega) fun i h1 h2=> ?_
 have hi:i<z:=by simpa[h]using h2
 have a:=dP (xs:=xs) h hk hi;rw[Array.getElem_extract];have b:(Qe e xs)[k*z+i]? =some ((Qe e xs)[k*z+i]'(by rw[ZW];omega)):=by simp
 have c:(e (xs.getD k La))[i]? =some ((e (xs.getD k La)).toArray[i]'h2):=by simp
 rw[b,c]at a;exact Option.some.inj a
theorem Xv{x:α}:Qe e xs++(e x).toArray=Qe e (xs++[x]):=by simp[Qe]
theorem R8(h:∀x,∀v∈e x,simple v=true):∀v∈Qe e xs,simple v=true:=fun v hv=>by
 simp only[Qe,List.mem_toArray,List.mem_flatMap]at hv;obtain⟨x,_,hx⟩:=hv;exact h x v hx
theorem Xg{rs:List Nat}(h:∀x,∀v∈e x,simple v=true):X4 rs (Qe e xs) (Qe e xs):=cz (Array.all_eq_true'.2 (R8 h))
theorem xK{x:α}(h:∀x,(e x).length=z):∀(xs:List α) (k i:Nat),k<xs.length->((xs.set k x).flatMap e)[i]? =if k*z<=i/\i<k*z+z then(e x)[i-k*z]? else(xs.flatMap e)[i]?
 |[],k,i,hk=>by simp at hk
 |y::xs,0,i,hk=>by
  simp only[List.set_cons_zero,LU,Nat.zero_mul,LD,Nat.zero_le,true_and,Nat.sub_zero];by_cases hi:i<z
  ·rw[if_pos hi,Lx (by rw[h];exact hi)]
  ·rw[if_neg hi,Lm (by rw[h];omega),Lm (by rw[h];omega),h,h]
 |y::xs,k+1,i,hk=>by
  simp only[List.set_cons_succ,LU];by_cases hi:i<z
  ·rw[Lx (by rw[h];exact hi),if_neg (by rw[Nat.add_mul];omega),Lx (by rw[h];exact hi)]
  ·rw[Lm (by rw[h];omega),Lm (by rw[h];omega),h,xK h xs k (i-z) (by simpa using hk)];by_cases hc:k*z<=i-z/\i-z<k*z+z
   ·rw[if_pos hc,if_pos (by rw[Nat.add_mul];omega),show i-z-k*z=i-(k+1)*z by rw[Nat.add_mul];omega]
   ·rw[if_neg hc,if_neg (by rw[Nat.add_mul];omega)]
theorem ib{x:α}(h:∀x,(e x).length=z){k:Nat}(hk:k<xs.length):k*z+z<=(Qe e xs).size/\splice (Qe e xs) (k*z) (e x).toArray=Qe e (xs.set k x):=by
 have ZW:=QT (xs:=xs) h;have hle:k*z+z<=xs.length*z:=by
  have:=Nat.mul_le_mul_right z (show k+1<=xs.length by omega);rw[Nat.add_mul,Nat.one_mul]at this;exact this
 refine⟨by rw[ZW];exact hle,Array.ext_getElem? fun i=> ?_⟩;have a:(Qe e (xs.set k x))[i]? =((xs.set k x).flatMap e)[i]? :=by simp[Qe]
 have b:(Qe e xs)[i]? =(xs.flatMap e)[i]? :=by simp[Qe]
 rw[a,xK h xs k i hk,<-b];rw[K0 (by rw[ZW];simp[h];exact hle)];simp[h]
end
theorem TRv.len'{fm:Nat->Option Obj}{n:Nat}{cs:Array Value}{v':Value}(h:TRv fm (QH n cs) v'):n<=maxLen:=by
 rcases h.slice_inv with ⟨_,_,_,_,_,_,_,h1,h2,_⟩|⟨rfl,_⟩
 ·omega
 ·exact Nat.zero_le _
theorem zX{a b:Int}(h:a≠b):(!Rx a b)=true:=by rw[cu h];rfl
theorem m9{a b:Int}(h:a=b):(!Rx a b)=false:=by rw[bl h];rfl
theorem Xm{m:Nat}{rs:List Nat}{cs:Array Value}(h:cs.all simple=true):Qv m rs cs cs:=c6 fun v hv=>Array.all_eq_true'.1 h v hv
theorem qI{α:Type}{e:α->List Value}{z:Nat}{xs:List α}(h:∀x,(e x).length=z){k:Nat}(hk:k<xs.length):k*z+z<=(Qe e xs).size:=by
 rw[QT h];have:=Nat.mul_le_mul_right z (show k+1<=xs.length by omega);rw[Nat.add_mul,Nat.one_mul]at this;exact this
theorem Bj{α:Type}{e:α->List Value}{z:Nat}{xs:List α}(h:∀x,(e x).length=z){k:Nat}(hk:k<xs.length){x:α}{cs:Array Value}(hc:cs=(e x).toArray):k*z+z<=(Qe e xs).size/\splice (Qe e xs) (k*z) cs=Qe e (xs.set k x):=by
 rw[hc];exact ib h hk
theorem EndsT.cast{P:Program}{B:Lo}{c0:CF}{a b:Value}(h:EndsT P B c0 a)(e:a=b):EndsT P B c0 b:=e ▸ h
theorem TRvs.len{fm:Nat->Option Obj}{ts args:Array Value}(h:TRvs fm ts args){i n:Nat}{cs:Array Value}(hi:ts[i]? =some (QH n cs)):n<=maxLen:=by
 have Xp:i<args.size:=h.1 ▸ (Array.getElem?_eq_some_iff.1 hi).1;exact TRv.len' (h.2 i _ args[i] hi (by simp[Xp]))
theorem TRvs.len2{fm:Nat->Option Obj}{ts args:Array Value}(h:TRvs fm ts args){i j n:Nat}{xs cs:Array Value}(hi:ts[i]? =some (.agg xs))(hj:xs[j]? =some (QH n cs)):n<=maxLen:=by
 have Xp:i<args.size:=h.1 ▸ (Array.getElem?_eq_some_iff.1 hi).1;have ht:=h.2 i _ args[i] hi (by simp[Xp]);generalize args[i]=v at ht;cases ht with
 |simple h=>cases h
 |agg h1 h2=>
  rename_i ys;have Xp:j<ys.size:=h1 ▸ (Array.getElem?_eq_some_iff.1 hj).1;exact TRv.len' (h2 j _ ys[j] hj (by simp[Xp]))
theorem TRvs.ln{fm:Nat->Option Obj}{ts args:Array Value}(h:TRvs fm ts args){i n:Nat}{cs:Array Value}(hi:ts[i]? =some (QH n cs)):n<=9223372036854775807:=by
 have:=h.len hi;unfold maxLen at this;omega
theorem TRvs.ln2{fm:Nat->Option Obj}{ts args:Array Value}(h:TRvs fm ts args){i j n:Nat}{xs cs:Array Value}(hi:ts[i]? =some (.agg xs))(hj:xs[j]? =some (QH n cs)):n<=9223372036854775807:=by
 have:=h.len2 hi hj;unfold maxLen at this;omega
section
variable {α:Type} [Inhabited α] {f:α->Bool} {xs:List α} {i:Int}
theorem drop_cons(h0:0<=i)(hi:i<xs.length):xs.drop i.toNat=xs.getD i.toNat La::xs.drop (i+1).toNat:=by
 have Xp:i.toNat<xs.length:=by omega
 rw[List.drop_eq_getElem_cons Xp,show(i+1).toNat=i.toNat+1 by omega];simp[Xp]
theorem xN(h0:0<=i)(hi:i<xs.length):(xs.drop i.toNat).all f=(f (xs.getD i.toNat La) && (xs.drop (i+1).toNat).all f):=by rw[drop_cons h0 hi];rfl
omit [Inhabited α]in
theorem H7(hi:xs.length<=i):xs.drop i.toNat=[]:=List.drop_eq_nil_of_le (by omega)
end
def UZ(a b:Int):List Int:=(Ll (b-a).toNat).map fun(k:Nat)=>a+(k:Int)
theorem En{a b:Int}(h:a<b):UZ a b=a::UZ (a+1) b:=by
 unfold UZ;obtain⟨m,hm⟩:∃m:Nat,(b-a).toNat=m+1:=⟨(b-a).toNat-1,by omega⟩
 rw[hm,show(b-(a+1)).toNat=m by omega,List.range_succ_eq_map];simp only[List.map_cons,List.map_map,Int.ofNat_zero,Int.add_zero,Int.cast_ofNat_Int];congr 1;apply List.map_congr_left;intro k _;simp only[Function.comp_apply,Nat.succ_eq_add_one];omega
theorem Bc{a b:Int}(h:b<=a):UZ a b=[]:=by
 unfold UZ;rw[show(b-a).toNat=0 by omega];rfl
theorem UQ{P:Program}{J:World->Prop}{g:FuncId}{ts:List Value}{out:Value}{c0:CF}(facts:Prop)(XV:∀fm args',TRvs fm ts.toArray args'->facts)(Zh:∀w w':World,(∀b,b<w.heap.size->w'.heap[b]? =w.heap[b]?)->J w->J w')(hc:ZY P g (ts.map (Q7 0 4)).toArray=some c0)(QE:(ts.all (rF 4))=true)
 (h:facts->∀B:Lo,(∀w,B.has w->J w)->EndsT P B c0 out):Qr P J g ts.toArray out:=fun fm w args' hJ hfm hargs=>Xi Zh hc QE (h (XV fm args' hargs)) fm w args' hJ hfm hargs
def sH(rs:List Nat):List Value->List Value->Prop
 |[],[]=>True
 |v::l,v1::l1=>o9 rs v v1/\sH rs l l1
 |_,_=>False
theorem dy{rs:List Nat}:∀{l l1:List Value},sH rs l l1->l.length=l1.length/\∀(i:Nat) v v1,l[i]? =some v->l1[i]? =some v1->o9 rs v v1
 |[],[],_=>⟨rfl,fun i v v1 h=>by simp at h⟩
 |v::l,v1::l1,h=>⟨by simp[(dy h.2).1],fun i u u1 h1 h2=>by
   cases i with
   |zero=>simp at h1 h2;subst h1;subst h2;exact h.1
   |succ i=>exact(dy h.2).2 i u u1 (by simpa using h1) (by simpa using h2)⟩
theorem AE{rs:List Nat}{l l1:List Value}(h:sH rs l l1):X4 rs l.toArray l1.toArray:=by
 obtain⟨h1,h2⟩:=dy h
 first
 |exact⟨by simp[h1],fun i v v1 a b=>h2 i v v1 (by simpa using a) (by simpa using b)⟩
def OZ(rs:List Nat)(v:Value):Option Value:=bif simple v then some v else match v with
 | .func (.via r ⟨[]⟩ 0 true) ⟨[t]⟩ ⟨[]⟩=>bif rs.contains r && WI t then some t else none
 |_=>none
def Oo(rs:List Nat):List Value->Option (List Value)
 |[]=>some []
 |v::l=>match OZ rs v,Oo rs l with
  |some t,some ts=>some (t::ts)
  |_,_=>none
theorem Nk{rs:List Nat}{v t:Value}(h:OZ rs v=some t):o9 rs v t:=by
 unfold OZ at h;cases hs:simple v with
 |true=>
  rw[hs]at h;simp only[cond_true,YO]at h;exact .inl ⟨hs,h.symm⟩
 |false=>
  rw[hs]at h;simp only[cond_false]at h;split at h
  ·rename_i r t0;cases hq:(rs.contains r && WI t0)with
   |false=>rw[hq]at h;cases h
   |true=>
    rw[hq]at h;simp only[cond_true,YO]at h;subst h;simp only[YB,List.contains_iff_mem]at hq;exact .inr ⟨r,hq.1,rfl,hq.2⟩
  ·cases h
theorem Eo{rs:List Nat}:∀{l l1:List Value},Oo rs l=some l1->sH rs l l1
 |[],l1,h=>by simp only[Oo,YO]at h;subst h;exact trivial
 |v::l,l1,h=>by
  simp only[Oo]at h;split at h
  ·rename_i t ts h1 h2;simp only[YO]at h;subst h;exact⟨Nk h1,Eo h2⟩
  ·cases h
theorem DX{rs:List Nat}{l l1:List Value}(h:Oo rs l=some l1):X4 rs l.toArray l1.toArray:=AE (Eo h)
end Go.CE

namespace Go.CE
open Go Go.RowKit

theorem Post.widen{B n n':Nat}{S:Nat->Prop}{W W':List Nat}{μ μ':Mu}{H H':Qt}{w w':World}(QE:Ok B S μ (Qw H) w)(h:Post B S n n' W μ μ' H H' w w')(hW:∀i,i<n->i∈W->i∈W')(hw:∀i,i<n->i∈W'->S i/\∃o,Qw H i=some o/\live o/\∀im,μ i=some im->im.rw=true):Post B S n n' W' μ μ' H H' w w':=
 ⟨h.ok,h.le,h.ext,fun i hi hw'=>h.keep i hi fun e=>hw' (hW i hi e),h.grow,fun b hb hx=>h.frame b hb fun i hi hl=>hx i (hW i hl hi) hl,fun i hi hl=>by
  obtain⟨hs,o,hg,hl',hr⟩:=hw i hl hi;obtain⟨im,QK,_⟩:=QE.rel i _ hs hg hl';exact⟨hs,⟨o,hg,hl'⟩,im,QK,hr im QK⟩,fun i im o h1 h2 ho hl hm=>by
  obtain⟨hr,hf⟩:=h.fresh i im o h1 h2 ho hl hm;exact⟨hr,hf.imp id fun⟨k,a,b,d⟩=>⟨k,hW k b a,b,d⟩⟩,fun i im o hi ho hr hm b x hx=>by
  have res:(n<=i/\i<n'\/i∈W/\i<n)->w.heap.size<=b\/(∃k UT ko,S k/\k<n/\Qw H k=some ko/\Wa ko/\μ k=some UT/\UT.fm b=some x)\/∃k,k∈W'/\k<n/\(∃Z9,μ k=some Z9/\Z9.Zt=b)/\∀o,Qw H' k=some o->¬live o:=fun hc=>by
   rcases h.rf i im o hc ho hr hm b x hx with e|e|⟨k,p,q,r⟩
   ·exact .inl e
   ·exact .inr (.inl e)
   ·exact .inr (.inr ⟨k,hW k q p,q,r⟩)
  rcases hi with hi|⟨hi,Xp⟩
  ·exact res (.inl hi)
  ·by_cases Rw:i∈W
   ·exact res (.inr ⟨Rw,Xp⟩)
   ·obtain⟨_,o',hg,hl,_⟩:=hw i Xp hi;rw[h.keep i Xp Rw,hg]at ho;cases ho;exact absurd hl (by cases o <;> first|exact id|exact hr.elim),h.os,h.tape,h.output⟩
def Writable(H0:Qt)(a:Nat)(Wf:List Nat):Prop:=∀i,i<a->i∈Wf->(∃cs t,Qw H0 i=some (.cells cs t (0,0)))\/(∃r,Qw H0 i=some (.loop r))\/(∃es RZ,Qw H0 i=some (.map es RZ))\/∃ds,Qw H0 i=some (.deferred ds)
def MG(o:Option Obj):Bool:=match o with
 |some (.cells _ _ (0,0))|some (.loop _)|some (.map _ _)|some (.deferred _)=>true
 |_=>false
theorem Q4{H0:Qt}{a:Nat}{Wf:List Nat}(h:(Wf.all fun i=>MG (Qw H0 i))=true):Writable H0 a Wf:=fun i _ hi=>by
 have:=List.all_eq_true.1 h i hi;unfold MG at this;split at this
 ·rename_i cs t hg;exact .inl ⟨cs,t,hg⟩
 ·rename_i r hg;exact .inr (.inl ⟨r,hg⟩)
 ·rename_i es RZ hg;exact .inr (.inr (.inl ⟨es,RZ,hg⟩))
 ·rename_i ds hg;exact .inr (.inr (.inr ⟨ds,hg⟩))
 ·cases this
theorem Writable.rw{B:Nat}{μ:Mu}{H0:Qt}{a:Nat}{Wf:List Nat}{w:World}(h:Writable H0 a Wf)(QE:Ok B (fun i=>i<a) μ (Qw H0) w){i:Nat}(hi:i<a)(hw:i∈Wf):i<a/\∃o,Qw H0 i=some o/\live o/\∀im,μ i=some im->im.rw=true:=by
 rcases h i hi hw with ⟨cs,t,hg⟩|⟨r,hg⟩|⟨es,RZ,hg⟩|⟨ds,hg⟩
 ·refine⟨hi,_,hg,trivial,fun im QK=> ?_⟩;obtain⟨Z9,QS,ZU⟩:=QE.rel i _ hi hg trivial;rw[QK]at QS;cases QS;rcases ZU with ⟨_,h,_⟩|⟨h,_⟩
  ·exact h
  ·exact absurd rfl h
 all_goals
  refine⟨hi,_,hg,trivial,fun im QK=> ?_⟩;obtain⟨Z9,QS,ZU⟩:=QE.rel i _ hi hg trivial;rw[QK]at QS;cases QS;exact ZU.1
def XR(ro:Option Nat)(f:FuncId)(len:Nat)(live:List (Nat×Value))(d:Nat->Value)(todo:List Item):CF:=⟨f,OC len live d,todo,[],.run,ro⟩
def XC(Hb:Qt)(a:Nat)(ws:Qt)(os:List Obj):Qt:=ws++((a,X8)::(X0 (a+1) os++Hb))
def lJ(a:Nat)(olds:List Nat)(k:Nat):Option Nat:=bif Lr k a then some k else posOf olds (a+1) k
def A8(H:Qt)(m:Nat)(pos:Nat->Option Nat)(fz:List Fz):List (Nat×KS)->Option (Qt×List Prop)
 |[]=>some ([],[])
 |(k,s)::l=>match Ol H m pos fz (Qw H k) s with
  |some (o,L)=>match A8 H m pos fz l with
   |some (os,L2)=>some ((k,o)::os,L++L2)
   |none=>none
  |none=>none
theorem oo{H:Qt}{m:Nat}{pos:Nat->Option Nat}{fz:List Fz}:∀(l:List (Nat×KS)) (ws:Qt) (L:List Prop),A8 H m pos fz l=some (ws,L)->∀i,(Qw ws i=none<->i ∉ l.map (·.1))/\∀o,Qw ws i=some o->∃s L1,Ol H m pos fz (Qw H i) s=some (o,L1)/\(Q3 L->Q3 L1)
 |[],ws,L,h,i=>by
  simp only[A8,YO,YR]at h;obtain⟨rfl,rfl⟩:=h;simp[Qw]
 |(k,s)::l,ws,L,h,i=>by
  simp only[A8]at h;split at h
  ·rename_i t L1 h1;split at h
   ·rename_i ts2 L2 h2;simp only[YO,YR]at h;obtain⟨rfl,rfl⟩:=h;obtain⟨k1,k2⟩:=oo l ts2 L2 h2 i;rw[QV];by_cases e:i=k
    ·subst e;simp only[if_true,List.map_cons,List.mem_cons,true_or,not_true_eq_false,iff_false];exact⟨by simp,fun o ho=>by cases ho;exact⟨s,L1,h1,fun h=>(X5 h).1⟩⟩
    ·rw[if_neg e];refine⟨by rw[k1];simp[e],fun o ho=> ?_⟩;obtain⟨s',L',a,b⟩:=k2 o ho;exact⟨s',L',a,fun h=>b (X5 h).2⟩
   ·cases h
  ·cases h
structure Nf where
 fn:FuncId
 len:Nat
 todo:List Item
 defers:List Nat
 mode:CM
 roundOf:Option Nat
 vals:List Value
 ws:Qt
 objs:List Obj
 L:List Prop
def dL(a:Nat)(H:Qt)(W:List Nat)(wks keeps:List (Nat×KS))(fz:List Fz):Bool:=
 (W.all fun i=>(wks.map (·.1)).contains i) && (wks.all fun k=>Lr k.1 a) && distinct (keeps.map (·.1)) && (keeps.all fun k=>LR a k.1) && (fz.all fun x=>LR a x.k && GR (Qw H x.k) && (keeps.all fun k=> !(Lf k.1 x.k)))
def landA(a:Nat)(s:Option ST)(slots:List Nat)(wks keeps:List (Nat×KS))(fz:List Fz):Option Nf:=match s with
 |some ⟨.at c H n,W,L⟩=>bif dL a H W wks keeps fz then
  match sm (xQ H a (lJ a (keeps.map (·.1))) fz 4) (slots.map (XT c.tmps)),A8 H a (lJ a (keeps.map (·.1))) fz wks,bm H a (lJ a (keeps.map (·.1))) fz keeps with
  |some (vs,L1),some (ws,L3),some (os,L2)=>some ⟨c.fn,c.tmps.len,c.todo,c.defers,c.mode,c.roundOf,vs,ws,os,L1++(L3++(L2++L))⟩
  |_,_,_=>none
   else none
 |_=>none
section
variable {P:Program} {F:FuncId->Bool} {J:World->Prop} {B:Lo} {c0 c:CF} {Hb H:Qt} {a n:Nat} {W Wf:List Nat}
theorem GoE.widen(h:GoE P B c0 Hb a c H n W)(hW:∀i,i<a->i∈W->i∈Wf)(hw:Writable Hb a Wf):GoE P B c0 Hb a c H n Wf:=
 ⟨h.under,h.le,fun Z μ w fr cs QE hB hf XF=>by
  obtain⟨fr',w',μ',hp,r⟩:=h.sem Z μ w fr cs QE hB hf XF;exact⟨fr',w',μ',hp.widen QE hW fun i hi hiW=>hw.rw QE hi hiW,r⟩⟩
theorem YY{ws:Qt}{os:List Obj}(i:Nat):Qw (XC Hb a ws os) i=match Qw ws i with
 |some o=>some o
 |none=>if i=a then some X8 else if a<i/\i<a+1+os.length then os[i-(a+1)]? else Qw Hb i:=by
 unfold XC;rw[ZI];cases Qw ws i with
 |some o=>rfl
 |none=>
  simp only;rw[QV];by_cases e:i=a
  ·rw[if_pos e,if_pos e]
  ·rw[if_neg e,if_neg e,ZI,Vm];by_cases h1:a+1<=i
   ·rw[if_pos h1];by_cases h2:i<a+1+os.length
    ·rw[if_pos ⟨by omega,h2⟩];have:i-(a+1)<os.length:=by omega
     simp[this]
    ·rw[if_neg (by omega),LG (by omega)]
   ·rw[if_neg h1,if_neg (by omega)]
theorem hO{ws:Qt}{os:List Obj}(hu:Under Hb a)(hws:∀i o,Qw ws i=some o->i<a):Under (XC Hb a ws os) (a+1+os.length):=fun i hi=>by
 rw[YY];cases hg:Qw ws i with
 |some o=>have:=hws i o hg;omega
 |none=>simp only;rw[if_neg (by omega),if_neg (by omega)];exact hu i (by omega)
theorem mC{n':Nat}{H':Qt}{μ μ':Mu}{w w':World}{W':List Nat}{wks keeps:List (Nat×KS)}{fz:List Fz}{ws:Qt}{os:List Obj}{L2 L3:List Prop}(hu:Under Hb a)(hw:Writable Hb a (wks.map (·.1)))(hu':Under H' n')(hq:dL a H' W' wks keeps fz=true)
 (QE:Ok B.B (fun i=>i<a) μ (Qw Hb) w) (hf:∀i,a<=i->μ i=none) (hp:Post B.B (fun i=>i<a) a n' (wks.map (·.1)) μ μ' Hb H' w w')
 (hws:A8 H' a (lJ a (keeps.map (·.1))) fz wks=some (ws,L3)) (hos:bm H' a (lJ a (keeps.map (·.1))) fz keeps=some (os,L2)) (hL3:Q3 L3) (hL2:Q3 L2):
 ∃μ1 im1,yb H' a (lJ a (keeps.map (·.1))) fz μ' μ1 w' n' (fz.map (·.k)) im1/\Post B.B (fun i=>i<a) a (a+1+os.length) (wks.map (·.1)) μ μ1 Hb (XC Hb a ws os) w w'/\(∀i,a+1+os.length<=i->μ1 i=none)/\(∀i o,Qw ws i=some o->i<a):=by
 unfold dL at hq;simp only[YB]at hq;obtain⟨⟨⟨⟨hW,hwlt⟩,hdist⟩,hge⟩,hfz⟩:=hq;have wlt:∀i,i∈wks.map (·.1)->i<a:=fun i hi=>by
  obtain⟨k,hk,rfl⟩:=List.mem_map.1 hi;exact YL (List.all_eq_true.1 hwlt k hk)
 have wsget:=oo wks ws L3 hws;have wslt:∀i o,Qw ws i=some o->i<a:=fun i o ho=>by
  refine wlt i (Decidable.of_not_not fun e=> ?_);have:=(wsget i).1.2 e;rw[this]at ho;cases ho
 have hlenos:=(KB keeps os L2 hos).1;let ρ:Nat->Nat:=fun i=>if i<a then i else((keeps.map (·.1))[i-(a+1)]?).getD i
 have hρ:∀i k,a+1<=i->(keeps.map (·.1))[i-(a+1)]? =some k->ρ i=k:=fun i k hi hk=>by
  show(if i<a then i else((keeps.map (·.1))[i-(a+1)]?).getD i)=k;rw[if_neg (by omega),hk];rfl
 have hρlow:∀i,i<a->ρ i=i:=fun i hi=>by
  show(if i<a then i else((keeps.map (·.1))[i-(a+1)]?).getD i)=i;rw[if_pos hi]
 have get:∀i,a<i->i<a+1+os.length->∃k,(keeps.map (·.1))[i-(a+1)]? =some k/\ρ i=k/\a<=k:=by
  intro i h1 h2;have Xp:i-(a+1)<keeps.length:=by omega
  refine⟨(keeps[i-(a+1)]).1,by simp[Xp],hρ i _ (by omega) (by simp[Xp]), ?_⟩;exact YL (List.all_eq_true.1 hge _ (List.getElem_mem Xp))
 let im1:c7:=⟨0,0,0,false,Y7 μ' H' w' (Pb H' n'++fz.map (·.k))⟩
 let μ1:=j4 a (a+1+os.length) ρ μ μ' (Y7 μ' H' w' (Pb H' n'++fz.map (·.k)))
 have hco:yb H' a (lJ a (keeps.map (·.1))) fz μ' μ1 w' n' (fz.map (·.k)) im1:=by
  refine⟨⟨B.B,_,hp.ok,fun i hi=> ?_⟩,hu',fun k j hj=> ?_, ?_,rfl,fun x hx=>List.mem_map.2 ⟨x,hx,rfl⟩⟩
  ·rcases LK i a with h|h
   ·exact .inl h
   ·exact .inr ⟨h,hi⟩
  ·unfold lJ at hj;cases hb:Lr k a with
   |true=>
    rw[hb]at hj;simp only[cond_true,YO]at hj;subst hj;have Xp:k<a:=YL hb;show j4 a (a+1+os.length) ρ μ μ' _ k=μ' k;unfold j4;rw[if_neg (by omega),if_neg (by omega),hp.ext k (by omega)]
   |false=>
    rw[hb]at hj;obtain⟨h1,h2⟩:=TD _ _ _ _ hj;have Xp:j-(a+1)<keeps.length:=by
     have:=(List.getElem?_eq_some_iff.1 h2).1;simpa using this
    show j4 a (a+1+os.length) ρ μ μ' _ j=μ' k;unfold j4;rw[if_neg (by omega),if_pos ⟨by omega,by omega⟩,hρ j k h1 h2]
  ·show j4 a (a+1+os.length) ρ μ μ' _ a=some im1;unfold j4;rw[if_pos rfl]
 have hkeeps:AY a n' (a+1+os.length) (wks.map (·.1)) μ μ' Hb H' (XC Hb a ws os) w' ρ (fz.map (·.k)):=by
  refine⟨by omega,hρlow,fun i h1 h2=> ?_,fun i j h1 h2 h3 h4 h5=> ?_,hO hu wslt,fun i hi hn=> ?_, ?_,fun i o1 hi hc ho=> ?_,fun k hk=> ?_⟩
  ·obtain⟨k,hk,hk2,hk3⟩:=get i h1 h2;refine⟨by omega, ?_⟩;rw[hk2];have Xp:i-(a+1)<os.length:=by omega
   obtain⟨k',s,L',ha,hb,hc⟩:=(KB keeps os L2 hos).2 (i-(a+1)) os[i-(a+1)] (by simp[Xp]);have:k'=k:=by
    rw[LF,ha]at hk;simpa using hk
   subst this;obtain⟨⟨x,hx⟩,_⟩:=Te hco hb (hc hL2);exact hu'.lt hx
  ·obtain⟨k,hk,hk2,_⟩:=get i h1 h2;obtain⟨k',hk',hk2',_⟩:=get j h3 h4;rw[hk2,hk2']at h5;subst h5;have:=Pw hdist _ _ _ hk hk';omega
  ·rw[YY,(wsget i).1.2 hn];simp only;rw[if_neg (by omega),if_neg (by omega)]
  ·rw[YY];cases hg:Qw ws a with
   |some o=>have:=wslt a o hg;omega
   |none=>simp
  ·rcases hc with h1i|⟨Rw,Xp⟩
   ·rw[YY]at ho;have hn:Qw ws i=none:=by
     cases hg:Qw ws i with
     |none=>rfl
     |some o=>have:=wslt i o hg;omega
    rw[hn]at ho;simp only at ho;rw[if_neg (by omega),if_pos ⟨h1i,hi⟩]at ho;obtain⟨k,s,L',ha,hb,hc'⟩:=(KB keeps os L2 hos).2 (i-(a+1)) o1 ho;obtain⟨_,hnr,hli⟩:=Te hco hb (hc' hL2);refine⟨hnr,fun hl1=> ?_⟩;obtain⟨x,hx,hl,ZU⟩:=hli hl1;refine⟨x, ?_,hl,fun im _ h=>ZU im h⟩;rw[hρ i k (by omega) (by rw[LF,ha];rfl)];exact hx
   ·cases hg:Qw ws i with
    |none=>exact absurd Rw ((wsget i).1.1 hg)
    |some o=>
     rw[YY,hg]at ho;simp only[YO]at ho;subst ho;obtain⟨s,L1,h1,h2⟩:=(wsget i).2 o hg;obtain⟨_,hnr,hli⟩:=Te hco h1 (h2 hL3);refine⟨hnr,fun hl1=> ?_⟩;obtain⟨x,hx,hl,ZU⟩:=hli hl1;exact⟨x,by rw[hρlow i Xp];exact hx,hl,fun im _ h=>ZU im h⟩
  ·obtain⟨x,hx,rfl⟩:=List.mem_map.1 hk;have:=List.all_eq_true.1 hfz x hx;simp only[YB]at this;obtain⟨⟨q1,q2⟩,q3⟩:=this;have hown:∃o,Qw H' x.k=some o/\live o:=by
    unfold GR at q2;split at q2
    ·rename_i ho;exact⟨_,ho,trivial⟩
    ·cases q2
   obtain⟨o,ho,hl⟩:=hown;refine⟨YL q1,hu'.lt ho,⟨o,ho,hl⟩,fun i h1 h2 hr=> ?_⟩;obtain⟨k,hk,hk2,_⟩:=get i h1 h2;rw[hk2]at hr;rw[LF]at hk;cases hy:keeps[i-(a+1)]? with
   |none=>rw[hy]at hk;cases hk
   |some y=>
    rw[hy]at hk;simp only[LL,YO]at hk;have:=List.all_eq_true.1 q3 y (Lp hy);rw[hk,hr]at this;simp at this
 refine⟨μ1,im1,hco,hp.merge QE hf hkeeps,fun i hi=> ?_,wslt⟩;show j4 a (a+1+os.length) ρ μ μ' _ i=none;unfold j4;rw[if_neg (by omega),if_neg (by omega)];exact hf i (by omega)
theorem GoE.landA(hF:∀g,F g=true->Q6 P g=true)(hJ:∀w,B.has w->J w)(Zm:P.follows .mixedOrders=true){wks:List (Nat×KS)}(hu:Under Hb a)(hw:Writable Hb a (wks.map (·.1)))(h:GoE P B c0 Hb a c H n (wks.map (·.1))){fuel:Nat}{sc:QI}{f:FuncId}{len:Nat}{todo:List Item}{ro:Option Nat}{slots:List Nat}{keeps:List (Nat×KS)}{fz:List Fz}{vs:List Value}{ws:Qt}{os:List Obj}{L:List Prop}
 (e:CE.landA a (Qq P F J B fuel a c H n sc 0 [] []) slots wks keeps fz=some ⟨f,len,todo,[],.run,ro,vs,ws,os,L⟩) (hL:Q3 L) (hlen:LR len 16000=true) (hplain:todo.all P8=true) (Pq:∀l,ro=some l->l<a):
 ∃d:Nat->Value,(∀t,Xe (d t))/\GoE P B c0 Hb a (XR ro f len (slots.zip vs) d todo) (XC Hb a ws os) (a+1+os.length) (wks.map (·.1)):=by
 unfold CE.landA at e;split at e
 ·rename_i c' H' n' W' L' hs;cases hq:dL a H' W' wks keeps fz with
  |false=>rw[hq]at e;cases e
  |true=>
   rw[hq]at e;simp only[cond_true]at e;split at e
   ·rename_i vs0 L1 ws0 L3 os0 L2 hvs hws hos;simp only[YO,Nf.mk.injEq]at e;obtain⟨e1,e2,e3,e4,e5,e6,rfl,rfl,rfl,rfl⟩:=e;obtain⟨hL1,hLr⟩:=X5 hL;obtain⟨hL3,hLr⟩:=X5 hLr;obtain⟨hL2,hL4⟩:=X5 hLr;obtain⟨R,W2,SZ,hiff⟩:=W9 hF hJ Zm fuel a c H n sc 0 [] [] _ h.under hs hL4;have hg:=(h.step SZ).widen (Wf:=wks.map (·.1)) (fun i hi hm=>by
     rcases List.mem_append.1 hm with hm|hm
     ·exact hm
     ·have hi':i∈W':=(hiff i hi).2 (.inr hm);unfold dL at hq;simp only[YB]at hq;simpa using List.all_eq_true.1 hq.1.1.1.1 i hi') hw
    have hd:∀t,∃d,Xe d/\∀μ v',VR μ (XT c'.tmps t) v'->VR μ d v':=fun t=>Ja _
    have wslt:∀i o,Qw ws0 i=some o->i<a:=fun i o ho=>by
     have hq':=hq;unfold dL at hq';simp only[YB]at hq';have Rw:i∈wks.map (·.1):=Decidable.of_not_not fun e=>by
      have:=(oo wks ws0 L3 hws i).1.2 e;rw[this]at ho;cases ho
     obtain⟨k,hk,rfl⟩:=List.mem_map.1 Rw;exact YL (List.all_eq_true.1 hq'.1.1.1.2 k hk)
    refine⟨fun t=>Classical.choose (hd t),fun t=>(Classical.choose_spec (hd t)).1,hO hu wslt,by omega,fun Z μ w fr cs QE hB hf XF=> ?_⟩;obtain⟨fr',w',μ',hp,hfr',ha,hb,Zh⟩:=hg.sem Z μ w fr cs QE hB hf XF;obtain⟨μ1,im1,hco,Zv,UK,_⟩:=mC hu hw hg.under hq QE hf hp hws hos hL3 hL2;have hpans:c'.mode.pans=false:=by rw[e5];rfl
    refine⟨fr',w',μ1,Zv,⟨by rw[hfr'.fn,e1];rfl, ?_,fun _=>(e3 ▸ hfr'.todo hpans).plain hplain, ?_, ?_,hfr'.kind, ?_⟩,ha,hb,Zh⟩
    ·refine hfr'.tmps.merge e2 (YL hlen) (fun p hp v' hv=> ?_) fun t=>Classical.choose_spec (hd t)
     obtain⟨i,hi⟩:=List.getElem?_of_mem hp;rw[List.getElem?_zip_eq_some]at hi;obtain⟨hi1,hi2⟩:=hi;obtain⟨u,L',ha,hb,hc⟩:=(sk _ _ _ hvs).2 i p.2 hi2;rw[LF,hi1]at ha;simp only[LL,YO]at ha;subst ha;exact Yd hco 4 _ _ _ _ hb (hc hL1) hv
    ·have:=hfr'.defers;rw[e4]at this;exact .of_empty this.empty
    ·have:=hfr'.mode;rw[e5]at this;generalize fr'.mode=ds at this;cases this;exact .run
    ·have:=hfr'.round;rw[e6]at this;show RoR μ1 ro fr'.roundOf;generalize fr'.roundOf=x at this;cases ro with
     |none=>
      cases x with
      |none=>trivial
      |some x=>cases this
     |some l=>
      cases x with
      |none=>cases this
      |some x=>
       obtain⟨im,h1,h2⟩:=this;have hl:=Pq l rfl;refine⟨im, ?_,h2⟩;rw[Zv.ext l (by omega)];rw[hp.ext l (by omega)]at h1;exact h1
   ·cases e
 ·cases e
def Wv(a:Nat)(v:Value):Bool:=simple v || match v with
 | .func (.via r ⟨[]⟩ 0 true) ⟨[_]⟩ ⟨[]⟩=>Lr r a
 | .pointer (some ⟨k,_,none⟩)=>Lr k a
 | .slice (some ⟨k,_,none⟩) _ _=>Lr k a
 | .map (some r)=>Lr r a
 | .func (.yield l) ⟨[]⟩ ⟨[]⟩=>Lr l a
 | .chan none=>true
 |_=>false
def TM(a:Nat):Nat->Value->Bool
 |0,v=>Wv a v
 |f+1,v=>match v with
  | .agg xs=>xs.all (TM a f)
  | .tuple xs=>xs.all (TM a f)
  | .iface _ x=>TM a f x
  | .func (.func _) xs ys=>xs.all (TM a f) && ys.all (TM a f)
  |v=>Wv a v
section
variable {μ μ0:Mu} (hμ:∀b,b<a->μ0 b=μ b)
include hμ
theorem rX{v v':Value}(h:Wv a v=true)(hv:VR μ v v'):VR μ0 v v':=by
 unfold Wv at h;cases hs:simple v with
 |true=>rw[simple_eq hs hv];exact ZO hs
 |false=>
  rw[hs]at h;simp only[Bool.false_or]at h;have lt:∀{k},Lr k a=true->μ0 k=μ k:=fun h=>hμ _ (YL h)
  split at h
  ·cases hv with
   |top h1 h2 h3=>exact .top h1 (by rw[lt h];exact h2) h3
  ·cases hv with
   |ptr har=>
    obtain⟨im,h1,h2,h3⟩:=har;exact .ptr ⟨im,by rw[lt h];exact h1,h2,h3⟩
  ·cases hv with
   |slice har x y z=>
    obtain⟨im,h1,h2,h3⟩:=har;exact .slice ⟨im,by rw[lt h];exact h1,h2,h3⟩ x y fun hz Z9 QS=>z hz Z9 (by rw[<-lt h];exact QS)
  ·cases hv with
   |map hr=>exact .map (by rw[lt h];exact hr)
  ·cases hv with
   |yield hr=>exact .yield (by rw[lt h];exact hr)
  ·cases hv with
   |Yz x y z=>exact .Yz x y z
  ·cases h
theorem jM:∀(f:Nat) (v v':Value),TM a f v=true->VR μ v v'->VR μ0 v v'
 |0,v,v',h,hv=>rX hμ h hv
 |f+1,v,v',h,hv=>by
  have arr:∀{xs xs':Array Value},xs.all (TM a f)=true->(∀(i:Nat) v v',xs[i]? =some v->xs'[i]? =some v'->VR μ v v')->∀(i:Nat) v v',xs[i]? =some v->xs'[i]? =some v'->VR μ0 v v':=
   fun ha hx i v v' h1 h2=>jM f v v' (Array.all_eq_true'.1 ha v (LN h1)) (hx i v v' h1 h2)
  cases v with
  |agg xs=>cases hv with|agg h1 h2=>exact .agg h1 (arr h h2)
  |tuple xs=>cases hv with|tuple h1 h2=>exact .tuple h1 (arr h h2)
  |iface t x=>cases hv with|iface hv=>exact .iface (jM f x _ h hv)
  |func fn xs ys=>
   cases fn with
   |func g=>
    have h:(xs.all (TM a f) && ys.all (TM a f))=true:=h;simp only[YB]at h;cases hv with
    |func h1 h2 h3 h4=>exact .func h1 h2 (arr h.1 h3) (arr h.2 h4)
   |_=>exact rX hμ (by exact h) hv
  |_=>exact rX hμ (by exact h) hv
end
theorem DI{μ μ0:Mu}(hμ:∀b,b<a->μ0 b=μ b){T:Tm}{A:Array Value}(hl:∀t,TM a 4 (XT T t)=true\/Xe (XT T t))(h:TR μ T A):TR μ0 T A:=⟨h.1,fun t=>(hl t).elim (fun h1=>jM hμ 4 _ _ h1 (h.2 t)) fun h1=>h1 _ _ _ (h.2 t)⟩
theorem FrR.low{μ μ0:Mu}{fr:Frame}(hμ:∀b,b<a->μ0 b=μ b)(hs:∀t,TM a 4 (XT c.tmps t)=true\/Xe (XT c.tmps t))(hp:c.todo.all P8=true)(hd:c.defers=[])(hm:c.mode=.run)(hr:∀l,c.roundOf=some l->l<a)(h:FrR Bot.no μ c fr):FrR Bot.no μ0 c fr:=by
 have hpans:c.mode.pans=false:=by rw[hm];rfl
 refine⟨h.fn,DI hμ hs h.tmps,fun _=>(h.todo hpans).plain hp, ?_, ?_,h.kind, ?_⟩
 ·have:=h.defers;rw[hd]at this ⊢;exact .of_empty this.empty
 ·have:=h.mode;rw[hm]at this ⊢;generalize fr.mode=ds at this ⊢;cases this;exact .run
 ·have:=h.round;generalize fr.roundOf=x at this ⊢;cases Pq:c.roundOf with
  |none=>
   rw[Pq]at this;cases x with
   |none=>trivial
   |some x=>cases this
  |some l=>
   rw[Pq]at this;cases x with
   |none=>cases this
   |some x=>
    obtain⟨im,h1,h2⟩:=this;exact⟨im,by rw[hμ l (hr l Pq)];exact h1,h2⟩
def LV(a:Nat)(v:Value):Prop:=TM a 4 v=true\/Xe v
theorem LV.vr{μ μ0:Mu}{v v':Value}(hμ:∀b,b<a->μ0 b=μ b)(h:LV a v)(hv:VR μ v v'):VR μ0 v v':=h.elim (fun h=>jM hμ 4 _ _ h hv) fun h=>h _ _ _ hv
def AX(a:Nat):Obj->Prop
 | .cells cs _ _=> ∀(i:Nat) v,cs[i]? =some v->LV a v
 | .map es _=> ∀(i:Nat) e,es[i]? =some e->LV a e.val
 | .loop l=> ∀(i:Nat) v,l.tmps[i]? =some v->LV a v
 |_=>True
theorem OR.low{μ μ0:Mu}{w:World}{im:c7}{o:Obj}(hμ:∀b,b<a->μ0 b=μ b)(hl:AX a o)(h:OR μ w im o):OR μ0 w im o:=by
 cases o with
 |cells cs t fz=>
  rcases h with ⟨h1,h2,h3,arr,h4,h5,h6,h7⟩|⟨h1,h2⟩
  ·exact .inl ⟨h1,h2,h3,arr,h4,h5,h6,fun i v hv=>by
    obtain⟨v',a1,b1⟩:=h7 i v hv;exact⟨v',a1,(hl i v hv).vr hμ b1⟩⟩
  ·exact .inr ⟨h1,fun i v hv=>by
    obtain⟨v',a1,b1⟩:=h2 i v hv;exact⟨v',a1,(hl i v hv).vr hμ b1⟩⟩
 |map es RZ=>
  obtain⟨h1,KA,h2,h3,h4⟩:=h;exact⟨h1,KA,h2,h3,fun i e e' he he'=>by
   obtain⟨x,y,z,u⟩:=h4 i e e' he he';exact⟨x,y,z,(hl i e he).vr hμ u⟩⟩
 |loop l=>
  obtain⟨h1,tm,df,h2,h3⟩:=h;exact⟨h1,tm,df,h2,h3.1,fun i v v' hv ZQ=>(hl i v hv).vr hμ (h3.2 i v v' hv ZQ)⟩
 |deferred ds=>exact h
 |pending x y=>trivial
 |_=>exact h
def MW(a:Nat):Obj->Bool
 | .cells cs _ _=>cs.toList.all (TM a 4)
 | .map es _=>es.toList.all fun e=>TM a 4 e.val
 | .loop l=>l.tmps.toList.all (TM a 4)
 |_=>true
theorem Hf{a:Nat}{o:Obj}(h:MW a o=true):AX a o:=by
 cases o with
 |cells cs t fz=>exact fun i v hv=>.inl (List.all_eq_true.1 h v (Array.mem_toList_iff.2 (LN hv)))
 |map es RZ=>exact fun i e he=>.inl (List.all_eq_true.1 h e (Array.mem_toList_iff.2 (LN he)))
 |loop l=>exact fun i v hv=>.inl (List.all_eq_true.1 h v (Array.mem_toList_iff.2 (LN hv)))
 |_=>exact trivial
theorem jO:∀{H:Qt} {i:Nat} {o:Obj},Qw H i=some o->(i,o)∈H
 |[],_,_,h=>by cases h
 |(k,x)::l,i,o,h=>by
  rw[QV]at h;split at h
  ·rename_i e;cases h;subst e;exact List.mem_cons_self
  ·exact Lt _ (jO h)
theorem QA{H:Qt}{n:Nat}(h:(H.all fun p=>Lr p.1 n)=true):Under H n:=fun i hi=>by
 cases hg:Qw H i with
 |none=>rfl
 |some o=>have:=YL (List.all_eq_true.1 h _ (jO hg));simp at this;omega
end
end Go.CE

namespace Go.CE
open Go Go.RowKit

def Z4(n:Int):Qh:=.Xs (.val (.int .i64 n))
def ZC:Qh:=.Xs (.val (.bool true))
def Wi:Qh:=.Xs (.val (.bool false))
def HG(f:Value->Option (Value×List Prop)):OO->Option (OO×List Prop)
 | .ret v=>match f v with
   |some (v1,L)=>some (.ret v1,L)
   |none=>none
 | .We v=>match f v with
   |some (v1,L)=>some (.We v1,L)
   |none=>none
def finK(a:Nat)(s:Option ST)(wks keeps:List (Nat×KS))(fz:List Fz):Option (OO×Qt×List Obj×List Prop):=match s with
 |some ⟨.fin out H _,W,L⟩=>bif dL a H W wks keeps fz then
  match HG (xQ H a (lJ a (keeps.map (·.1))) fz 4) out,A8 H a (lJ a (keeps.map (·.1))) fz wks,bm H a (lJ a (keeps.map (·.1))) fz keeps with
  |some (v1,L1),some (ws,L3),some (os,L2)=>some (v1,ws,os,L1++(L3++(L2++L)))
  |_,_,_=>none
   else none
 |_=>none
def FinK(P:Program)(B:Lo)(c0:CF)(Hb:Qt)(a:Nat)(out:OO)(ws:Qt)(os:List Obj)(Wf:List Nat):Prop:=
 ∀(μ:Mu) (w:World) (fr:Frame) (cs:List Frame),Ok B (fun i=>i<a) μ (Qw Hb) w->B.has w->(∀i,a<=i->μ i=none)->FrR Bot.no μ c0 fr->
  ∃Zg w' μ',Post B (fun i=>i<a) a (a+1+os.length) Wf μ μ' Hb (XC Hb a ws os) w w'/\OR2 μ' out Zg/\(∀i,a+1+os.length<=i->μ' i=none)/\EndsAs P fr cs w Zg w'
section
variable {P:Program} {F:FuncId->Bool} {J:World->Prop} {B:Lo} {c0 c:CF} {Hb H:Qt} {a n:Nat} {W Wf:List Nat}
theorem GoE.finK(hF:∀g,F g=true->Q6 P g=true)(hJ:∀w,B.has w->J w)(Zm:P.follows .mixedOrders=true){wks keeps:List (Nat×KS)}(hu:Under Hb a)(hw:Writable Hb a (wks.map (·.1)))(h:GoE P B c0 Hb a c H n (wks.map (·.1))){fuel:Nat}{sc:QI}{fz:List Fz}{out:OO}{ws:Qt}{os:List Obj}{L:List Prop}
 (e:CE.finK a (Qq P F J B fuel a c H n sc 0 [] []) wks keeps fz=some (out,ws,os,L)) (hL:Q3 L):FinK P B c0 Hb a out ws os (wks.map (·.1)):=by
 unfold CE.finK at e;split at e
 ·rename_i out0 H' n' W' L' hs;cases hq:dL a H' W' wks keeps fz with
  |false=>rw[hq]at e;cases e
  |true=>
   rw[hq]at e;simp only[cond_true]at e;split at e
   ·rename_i v1 L1 ws0 L3 os0 L2 hv1 hws hos;simp only[YO,YR]at e;obtain⟨rfl,rfl,rfl,rfl⟩:=e;obtain⟨hL1,hLr⟩:=X5 hL;obtain⟨hL3,hLr⟩:=X5 hLr;obtain⟨hL2,hL4⟩:=X5 hLr;obtain⟨R,W2,hfj,hiff⟩:=W9 hF hJ Zm fuel a c H n sc 0 [] [] _ h.under hs hL4;intro μ w fr cs QE hB hf XF;obtain⟨Zg,w',μ',hp,ho,he⟩:=h.fj hfj μ w fr cs QE hB hf XF;have hp:=hp.widen (W':=wks.map (·.1)) QE (fun i hi hm=>by
     rcases List.mem_append.1 hm with hm|hm
     ·exact hm
     ·have hi':i∈W':=(hiff i hi).2 (.inr hm);have hq':=hq;unfold dL at hq';simp only[YB]at hq';simpa using List.all_eq_true.1 hq'.1.1.1.1 i hi') (fun i hi hiW=>hw.rw QE hi hiW)
    obtain⟨μ1,im1,hco,Zv,UK,_⟩:=mC hu hw (h.under.shape hfj.shape) hq QE hf hp hws hos hL3 hL2;cases ho with
    |ret VY=>
     unfold HG at hv1;split at hv1
     ·rename_i v0 e0;cases e0;split at hv1
      ·rename_i v2 L2' hv2;simp only[YO,YR]at hv1;obtain⟨rfl,rfl⟩:=hv1;exact⟨_,w',μ1,Zv,.ret (Yd hco 4 _ _ _ _ hv2 hL1 VY),UK,he⟩
      ·cases hv1
     ·rename_i e0;cases e0
    |We VY=>
     unfold HG at hv1;split at hv1
     ·rename_i e0;cases e0
     ·rename_i v0 e0;cases e0;split at hv1
      ·rename_i v2 L2' hv2;simp only[YO,YR]at hv1;obtain⟨rfl,rfl⟩:=hv1;exact⟨_,w',μ1,Zv,.We (Yd hco 4 _ _ _ _ hv2 hL1 VY),UK,he⟩
      ·cases hv1
   ·cases e
 ·cases e
theorem FinK.cast{out out1:OO}{ws ws1:Qt}{os os1:List Obj}(h:FinK P B c0 Hb a out ws os Wf)(e1:out=out1)(e2:ws=ws1)(e3:os=os1):FinK P B c0 Hb a out1 ws1 os1 Wf:=e1 ▸ e2 ▸ e3 ▸ h
theorem FinK.fj{out:OO}{ws:Qt}{os:List Obj}(h:FinK P B c0 Hb a out ws os Wf)(hub:Under Hb a)(hws:∀i o,Qw ws i=some o->i<a/\i∈Wf)(hWf:∀i∈Wf,i<a)(hs:∀t,TM a 4 (XT c0.tmps t)=true\/Xe (XT c0.tmps t))(hp:c0.todo.all P8=true)(hd:c0.defers=[])(hm:c0.mode=.run)(hr:∀l,c0.roundOf=some l->l<a)(hob:∀i o,Qw Hb i=some o->AX a o):
 FJ P B c0 Hb a out ((ws++((a,X8)::X0 (a+1) os))++Hb) (a+1+os.length) (Ll a) Wf:=by
 have hG:(ws++((a,X8)::X0 (a+1) os))++Hb=XC Hb a ws os:=by unfold XC;simp
 rw[hG];refine⟨⟨by omega,fun i hi hw=> ?_,fun i hi=> ?_,fun i hi=>List.mem_range.2 (hWf i hi),fun i hi=>by have:=hWf i hi;omega⟩,fun S μ w fr cs QE hB hS hf XF hR=> ?_⟩
 ·rw[YY];cases hg:Qw ws i with
  |some o=>exact absurd (hws i o hg).2 hw
  |none=>simp only;rw[if_neg (by omega),if_neg (by omega)]
 ·rw[YY];cases hg:Qw ws i with
  |some o=>have:=(hws i o hg).1;omega
  |none=>simp only;rw[if_neg (by omega),if_neg (by omega)]
 ·have hSeq:S=fun i=>i<a:=funext fun i=>propext ⟨hS i,fun hi=>hR i (List.mem_range.2 hi) hi⟩
  subst hSeq;let μc:Mu:=fun i=>if i<a then μ i else none
  have hμc:∀b,b<a->μc b=μ b:=fun b hb=>by show(if b<a then μ b else none)=μ b;rw[if_pos hb]
  have hextc:Ext μc μ:=fun k im hk=>by
   have hk:(if k<a then μ k else none)=some im:=hk;split at hk
   ·exact hk
   ·cases hk
  have hokc:Ok B.B (fun i=>i<a) μc (Qw Hb) w:=by
   refine⟨fun i o hi hg hl=> ?_,fun i o im hi hg hl QK=> ?_,fun i j oi oj x y hi hj JU hg1 hg2 l1 l2 m1 m2 r1 r2=> ?_,fun i o hi hg hr=> ?_,fun i j oi oj x y z hi hj hg1 hg2 r1 l2 m1 m2 Ry=> ?_⟩
   ·obtain⟨im,QK,ZU⟩:=QE.rel i o hi hg hl;exact⟨im,(hμc i hi).trans QK,OR.low hμc (hob i o hg) ZU⟩
   ·exact QE.low i o im hi hg hl ((hμc i hi).symm.trans QK)
   ·exact QE.inj i j oi oj x y hi hj JU hg1 hg2 l1 l2 ((hμc i hi).symm.trans m1) ((hμc j hj).symm.trans m2) r1 r2
   ·obtain⟨im,QK,hx⟩:=QE.P1 i o hi hg hr;exact⟨im,(hμc i hi).trans QK,hx⟩
   ·exact QE.sep i j oi oj x y z hi hj hg1 hg2 r1 l2 ((hμc i hi).symm.trans m1) ((hμc j hj).symm.trans m2) Ry
  obtain⟨Zg,w',μ',Zv,hv,UK,he⟩:=h μc w fr cs hokc hB (fun i hi=>by show(if i<a then μ i else none)=none;rw[if_neg (by omega)]) (XF.low hμc hs hp hd hm hr);let μ2:Mu:=fun i=>if i<a+1+os.length then μ' i else μ i
  have hμ2:∀i,i<a+1+os.length->μ2 i=μ' i:=fun i hi=>by show(if i<a+1+os.length then μ' i else μ i)=μ' i;rw[if_pos hi]
  have ext2:Ext μ' μ2:=fun k im hk=>by
   rcases LK k (a+1+os.length)with h1|h1
   ·rw[hμ2 k h1];exact hk
   ·rw[UK k h1]at hk;cases hk
  have Slt:∀i,(i<a\/a<=i/\i<a+1+os.length)->i<a+1+os.length:=fun i h=>by omega
  refine⟨_,w',μ2,⟨?_,by omega,fun i hi=> ?_,fun i hi hw=> ?_,Zv.grow,fun b hb hx=>Zv.frame b hb fun i hiW hi im QK=>hx i hiW hi im ((hμc i hi).symm.trans QK),fun i hiW hi=> ?_,fun i im o h1 h2 ho hl QK=> ?_,fun i im o hc ho hr QK b x hx=> ?_,Zv.os,Zv.tape,Zv.output⟩,OR2.mono ext2 hv,he⟩
  ·have ok:=Zv.ok;refine⟨fun i o hi hg hl=> ?_,fun i o im hi hg hl QK=> ?_,fun i j oi oj x y hi hj JU hg1 hg2 l1 l2 m1 m2 r1 r2=> ?_,fun i o hi hg hr=> ?_,fun i j oi oj x y z hi hj hg1 hg2 r1 l2 m1 m2 Ry=> ?_⟩
   ·obtain⟨im,QK,ZU⟩:=ok.rel i o hi hg hl;exact⟨im,(hμ2 i (Slt i hi)).trans QK,ZU.keep ext2 rfl⟩
   ·exact ok.low i o im hi hg hl ((hμ2 i (Slt i hi)).symm.trans QK)
   ·exact ok.inj i j oi oj x y hi hj JU hg1 hg2 l1 l2 ((hμ2 i (Slt i hi)).symm.trans m1) ((hμ2 j (Slt j hj)).symm.trans m2) r1 r2
   ·obtain⟨im,QK,hx⟩:=ok.P1 i o hi hg hr;exact⟨im,(hμ2 i (Slt i hi)).trans QK,hx⟩
   ·exact ok.sep i j oi oj x y z hi hj hg1 hg2 r1 l2 ((hμ2 i (Slt i hi)).symm.trans m1) ((hμ2 j (Slt j hj)).symm.trans m2) Ry
  ·rcases LK i a with h1|h1
   ·rw[hμ2 i (by omega),Zv.ext i (by omega),hμc i h1]
   ·show(if i<a+1+os.length then μ' i else μ i)=μ i;rw[if_neg (by omega)]
  ·exact Zv.keep i hi hw
  ·obtain⟨p,q,im,s,t⟩:=Zv.wr i hiW hi;exact⟨p,q,im,(hμc i hi).symm.trans s,t⟩
  ·obtain⟨p,q⟩:=Zv.fresh i im o h1 h2 ho hl ((hμ2 i h2).symm.trans QK);exact⟨p,q.imp id fun⟨k,x,y,⟨Z9,m,m2⟩,z⟩=>⟨k,x,y,⟨Z9,(hμc k y).symm.trans m,m2⟩,z⟩⟩
  ·have Xp:i<a+1+os.length:=by omega
   rcases Zv.rf i im o hc ho hr ((hμ2 i Xp).symm.trans QK) b x hx with e|⟨k,UT,ko,p,q,r,s,t,u⟩|⟨k,p,q,⟨Z9,m,m2⟩,z⟩
   ·exact .inl e
   ·exact .inr (.inl ⟨k,UT,ko,p,q,r,s,(hμc k q).symm.trans t,u⟩)
   ·exact .inr (.inr ⟨k,p,q,⟨Z9,(hμc k q).symm.trans m,m2⟩,z⟩)
def OH(a:Nat)(l:List Value)(todo:List Item)(ro:Option Nat)(Hb ws:Qt)(Wf ex:List Nat):Bool:=
 l.all (TM a 4) && (todo.all P8 && ((match ro with|some l=>Lr l a|none=>true) && ((Hb.all fun p=>Lr p.1 a) && ((Hb.all fun p=>ex.contains p.1 || MW a p.2) && ((ws.all fun p=>Lr p.1 a && Wf.contains p.1) && ((Wf.all fun k=>Lr k a) && LR l.length 16000))))))
def MF(a:Nat):Qt->List Nat->Prop
 |[],_=>True
 |(k,o)::H,ex=>(bif ex.contains k then AX a o else True)/\MF a H ex
theorem x6{a:Nat}{ex:List Nat}:∀{H:Qt} {k:Nat} {o:Obj},MF a H ex->ex.contains k=true->Qw H k=some o->AX a o
 |[],_,_,_,_,h=>by cases h
 |(j,x)::H,k,o,hx,hk,h=>by
  rw[QV]at h;split at h
  ·rename_i e;cases h;subst e;have:=hx.1;rw[hk]at this;exact this
  ·exact x6 hx.2 hk h
theorem VG{a:Nat}:∀H:Qt,MF a H []
 |[]=>trivial
 |(_,_)::H=>⟨trivial,VG H⟩
theorem td{a:Nat}{v:Value}(h:simple v=true):Wv a v=true:=by unfold Wv;rw[h];rfl
theorem kH{a:Nat}{v:Value}(h:simple v=true):TM a 4 v=true:=by
 have hs:=td (a:=a) h;cases v with
 |agg xs=>cases h
 |tuple xs=>cases h
 |iface t x=>cases h
 |func fn xs ys=>
  cases fn with
  |func f=>
   simp only[simple,YB,beq_iff_eq,Array.size_eq_zero_iff]at h;obtain⟨rfl,rfl⟩:=h;simp[TM]
  |_=>exact hs
 |_=>exact hs
theorem Ro{α:Type}{a:Nat}{e:α->List Value}{xs:List α}{t:TypeId}{fl:Nat×Nat}(h:∀x,∀v∈e x,simple v=true):AX a (.cells (Qe e xs) t fl):=fun i v hv=>.inl (kH (R8 h v (LN hv)))
theorem FinK.fjB{fn:FuncId}{len:Nat}{l:List Value}{todo:List Item}{ro:Option Nat}{out:OO}{ws:Qt}{os:List Obj}{ex:List Nat}(h:FinK P B ⟨fn,ofList len l,todo,[],.run,ro⟩ Hb a out ws os Wf)(e:OH a l todo ro Hb ws Wf ex=true)(hx:MF a Hb ex):
 FJ P B ⟨fn,ofList len l,todo,[],.run,ro⟩ Hb a out ((ws++((a,X8)::X0 (a+1) os))++Hb) (a+1+os.length) (Ll a) Wf:=by
 simp only[OH,YB]at e;obtain⟨e1,e2,e3,e4,e5,e6,e7,e8⟩:=e;have e8:=YL e8;refine h.fj (QA e4) (fun i o ho=> ?_) (fun i hi=>YL (List.all_eq_true.1 e7 i hi)) (fun t=> ?_) e2 rfl rfl (fun k hk=> ?_) (fun i o ho=> ?_)
 ·have:=List.all_eq_true.1 e6 _ (jO ho);simp only[YB]at this;exact⟨YL this.1,by simpa using this.2⟩
 ·simp only[XT,ofList];rw[jI _ _ _ _ (by omega)];split
  ·rename_i ht;have ht:t<l.length:=by omega
   refine .inl (List.all_eq_true.1 e1 _ ?_);rw[Nat.sub_zero,Ly,L4 ht];exact List.getElem_mem ht
  ·rw[Tri.get_lf];exact .inr (SX (by simp[Go.undef,af]))
 ·have hk:ro=some k:=hk;subst hk;exact YL e3
 ·have:=List.all_eq_true.1 e5 _ (jO ho);simp only[Bool.or_eq_true]at this;rcases this with h1|h1
  ·exact x6 hx h1 ho
  ·exact Hf h1
end
end Go.CE

namespace Go.CE
open Go Go.RowKit Go.ChangeShapes Go.WideShapes

inductive Sh where
 |int|bool|str|unit
 |pair (a b:Sh)
 |struct (f:Sh)
 |slice (e:Sh)
def Sh.sz:Sh->Nat
 | .unit=>0
 | .pair a b=>a.sz+b.sz
 | .struct f=>f.sz
 |_=>1
def Sh.ok:Sh->List Value->Prop
 | .int,cs=> ∃z:Int,(-9223372036854775808<=z/\z<=9223372036854775807)/\cs=[.int .i64 z]
 | .bool,cs=> ∃b,cs=[.bool b]
 | .str,cs=> ∃s:ByteArray,s.size<=maxLen/\cs=[.string s]
 | .unit,cs=>cs=[]
 | .pair a b,cs=> ∃x y,cs=x++y/\a.ok x/\b.ok y
 | .struct f,cs=>f.ok cs
 | .slice e,cs=> ∃(n:Nat) (r:Nat->List Value),(∀k,e.ok (r k)\/n<=k)/\(∀k,(r k).length=e.sz)/\cs=[QH n (Qe r (Ll n))]
theorem Sh.ok_sz:∀(s:Sh) (cs:List Value),s.ok cs->cs.length=s.sz
 | .int,cs,⟨z,_,h⟩=>by rw[h];rfl
 | .bool,cs,⟨z,h⟩=>by rw[h];rfl
 | .str,cs,⟨z,_,h⟩=>by rw[h];rfl
 | .unit,cs,h=>by rw[show cs=[]from h];rfl
 | .pair a b,cs,⟨x,y,h,hx,hy⟩=>by rw[h,Lh,Sh.ok_sz a x hx,Sh.ok_sz b y hy];rfl
 | .struct f,cs,h=>Sh.ok_sz f cs h
 | .slice e,cs,⟨n,r,_,_,h⟩=>by rw[h];rfl
def Sh.chk(P:Program):Sh->Option (List Field×Nat)->TypeId->Bool
 | .int,none,t=>match P.underlying t with|some (.int .i64)=>true|_=>false
 | .bool,none,t=>match P.underlying t with|some .bool=>true|_=>false
 | .str,none,t=>match P.underlying t with|some .string=>true|_=>false
 | .struct f,none,t=>match P.underlying t with|some (.struct fs)=>f.chk P (some (fs.toList,0)) t|_=>false
 | .slice e,none,t=>match P.underlying t with|some (.slice u)=>Lr 0 e.sz && e.chk P none u|_=>false
 | .unit,some ([],off),t=>Lf off (P.cellsOf t)
 | .pair a b,some (f::fs,off),t=>Lf f.offset off && (a.chk P none f.type && (Lf (P.cellsOf f.type) a.sz && b.chk P (some (fs,off+P.cellsOf f.type)) t))
 |_,_,_=>false
def TRl(fm:Nat->Option Obj)(ts cs:List Value):Prop:=ts.length=cs.length/\∀(i:Nat) v v',ts[i]? =some v->cs[i]? =some v'->TRv fm v v'
theorem TRl.nil{fm:Nat->Option Obj}:TRl fm [] []:=⟨rfl,fun i v v' h=>by simp at h⟩
theorem TRl.one{fm:Nat->Option Obj}{t v:Value}(h:TRv fm t v):TRl fm [t] [v]:=⟨rfl,fun i a b ha hb=>by
 cases i with
 |zero=>simp at ha hb;subst ha hb;exact h
 |succ i=>simp at ha⟩
theorem TRl.append{fm:Nat->Option Obj}{a b c d:List Value}(h:TRl fm a b)(k:TRl fm c d):TRl fm (a++c) (b++d):=⟨by simp[h.1,k.1],fun i v v' x y=>by
 rcases LK i a.length with hi|hi
 ·rw[Lx hi]at x;rw[Lx (by rw[<-h.1];exact hi)]at y;exact h.2 i v v' x y
 ·rw[Lm hi]at x;rw[Lm (by rw[<-h.1];exact hi)]at y;exact k.2 _ v v' x (by rw[h.1];exact y)⟩
def allM(w:World)(b:Nat):Option Obj:=w.heap[b]?
section
variable {P:Program} {H:Type} {enc:TypeId×Value->H} {w:World} {held:Bool}
theorem AU{a:Addr}{v:Value}(h:w.cell? a=some v):∃b o arr t fl,a=⟨b,o,none⟩/\w.heap[b]? =some (.cells arr t fl)/\arr[o]? =some v:=by
 obtain⟨b,o,s⟩:=a;unfold World.cell? at h;split at h
 ·rename_i c t fl hb;cases s with
  |some _=>simp at h
  |none=>exact⟨b,o,c,t,fl,rfl,hb,by simpa using h⟩
 ·cases h
theorem pH{b o j:Nat}:(⟨b,o,none⟩:Addr).add j=⟨b,o+j,none⟩:=by
 unfold Addr.add;split <;> simp_all
theorem oU{e:Nat->List Value}{z n:Nat}(h:∀k,(e k).length=z){i:Nat}{v:Value}(hv:(Qe e (Ll n))[i]? =some v):∃k j,k<n/\j<z/\i=k*z+j/\(e k)[j]? =some v:=by
 have Xp:i<n*z:=by
  have:=(Array.getElem?_eq_some_iff.1 hv).1;rw[QT h]at this;simpa using this
 have hz:0<z:=by
  rcases Nat.eq_zero_or_pos z with rfl|h
  ·omega
  ·exact h
 have hk:i / z<n:=Nat.div_lt_of_lt_mul (by rwa[Nat.mul_comm]at Xp);have hj:i % z<z:=Nat.mod_lt _ hz;have hi:i=i / z*z+i % z:=by
  have:=Nat.div_add_mod i z;rw[Nat.mul_comm]at this;omega
 refine⟨i / z,i % z,hk,hj,hi, ?_⟩;have:=dP (e:=e) (xs:=Ll n) h (k:=i / z) (j:=i % z) (by simpa using hk) hj;rw[<-hi,hv]at this;rw[this];simp[Le,hk]
theorem Ii:∀(s:Sh) (fuel:Nat) (t:TypeId) (cs:List Value) (x:DataW H×List MemPlace),s.chk P none t=true->DataW.trod enc P w 0 (fun _=>true) held fuel t cs=some x->∃ts,s.ok ts/\TRl (allM w) ts cs:=by
 intro s
 -- for fields, too
 have key:(∀(fuel:Nat) (t:TypeId) (cs:List Value) (x:DataW H×List MemPlace),s.chk P none t=true->DataW.trod enc P w 0 (fun _=>true) held fuel t cs=some x->∃ts,s.ok ts/\TRl (allM w) ts cs)/\
  (∀(fl:List Field) (off:Nat) (t:TypeId) (cs:List Value),s.chk P (some (fl,off)) t=true->cs.length=P.cellsOf t->(∀f∈fl,∃fuel x,DataW.trod enc P w 0 (fun _=>true) held fuel f.type ((cs.drop f.offset).take (P.cellsOf f.type))=some x)->∃ts,s.ok ts/\TRl (allM w) ts (cs.drop off)):=by
  induction s with
  |int=>
   refine⟨fun fuel t cs x hc h=> ?_,fun fl off t cs hc=>by simp[Sh.chk]at hc⟩;simp only[Sh.chk]at hc;split at hc
   ·rename_i ht;obtain⟨n,rfl,_,hw⟩:=DataW.trod_int ht h;simp only[Lit.wf,YB,decide_eq_true_eq]at hw;exact⟨_,⟨n,⟨hw.1,hw.2⟩,rfl⟩,TRl.one (.simple rfl)⟩
   ·cases hc
  |bool=>
   refine⟨fun fuel t cs x hc h=> ?_,fun fl off t cs hc=>by simp[Sh.chk]at hc⟩;simp only[Sh.chk]at hc;split at hc
   ·rename_i ht;obtain⟨b,rfl,_⟩:=DataW.trod_bool ht h;exact⟨_,⟨b,rfl⟩,TRl.one (.simple rfl)⟩
   ·cases hc
  |str=>
   refine⟨fun fuel t cs x hc h=> ?_,fun fl off t cs hc=>by simp[Sh.chk]at hc⟩;simp only[Sh.chk]at hc;split at hc
   ·rename_i ht;obtain⟨b,rfl,_,hl⟩:=DataW.trod_string ht h;exact⟨_,⟨b,hl,rfl⟩,TRl.one (.simple rfl)⟩
   ·cases hc
  |unit=>
   refine⟨fun fuel t cs x hc h=>by simp[Sh.chk]at hc,fun fl off t cs hc hl hf=> ?_⟩;cases fl with
   |nil=>
    simp only[Sh.chk]at hc;have:=YE hc;refine⟨[],rfl, ?_⟩;rw[List.drop_eq_nil_of_le (by omega)];exact TRl.nil
   |cons f fl=>simp[Sh.chk]at hc
  |pair a b iha ihb=>
   refine⟨fun fuel t cs x hc h=>by simp[Sh.chk]at hc,fun fl off t cs hc hl hf=> ?_⟩;cases fl with
   |nil=>simp[Sh.chk]at hc
   |cons f fl=>
    simp only[Sh.chk,YB]at hc;obtain⟨h1,h2,h3,h4⟩:=hc;have h1:=YE h1;have h3:=YE h3;subst h1;obtain⟨fuel,x,hx⟩:=hf f (by simp);obtain⟨ta,oa,ra⟩:=iha.1 fuel f.type _ x h2 hx;obtain⟨tb,ob,rb⟩:=ihb.2 fl _ t cs h4 hl (fun g hg=>hf g (by simp[hg]));refine⟨ta++tb,⟨ta,tb,rfl,oa,ob⟩, ?_⟩;have:cs.drop f.offset=(cs.drop f.offset).take (P.cellsOf f.type)++cs.drop (f.offset+P.cellsOf f.type):=by
     rw[<-List.drop_drop,List.take_append_drop]
    rw[this];exact ra.append rb
  |struct f ih=>
   refine⟨fun fuel t cs x hc h=> ?_,fun fl off t cs hc=>by simp[Sh.chk]at hc⟩;simp only[Sh.chk]at hc;split at hc
   ·rename_i fs ht;obtain⟨xs,n,_,_,hl,hlen,hg⟩:=DataW.trod_struct ht h;obtain⟨ts,h1,h2⟩:=ih.2 fs.toList 0 t cs hc hl fun g hg'=>by
     obtain⟨i,hi⟩:=List.getElem?_of_mem hg';have hi':fs[i]? =some g:=by simpa using hi
     have:=hg i g hi';have Xp:i<xs.length:=by
      have:=(Array.getElem?_eq_some_iff.1 hi').1;omega
     rw[L4 Xp]at this;exact⟨n,_,this⟩
    exact⟨ts,h1,by simpa using h2⟩
   ·cases hc
  |slice e ih=>
   refine⟨fun fuel t cs x hc h=> ?_,fun fl off t cs hc=>by simp[Sh.chk]at hc⟩;simp only[Sh.chk]at hc;split at hc
   ·rename_i u ht;simp only[YB]at hc;obtain⟨hz,hc⟩:=hc;have hz:0<e.sz:=YL hz;rcases Deep.open_slice ht h with ⟨rfl,_⟩|⟨a,len,cap,m,n',D,Pl,rfl,_,hl,hm,hmm,_,hi⟩
    ·exact⟨_,⟨0,fun _=>Lz e.sz undef,fun k=>.inr (Nat.zero_le _),fun k=>by simp,rfl⟩,TRl.one .nil⟩
    ·simp only[if_true]at hmm;subst hmm;have each:∀k,∃r:List Value,(k<len->e.ok r/\(∀j,j<P.cellsOf u->w.cell? (a.add (k*P.cellsOf u+j))=none->False)/\∀(j:Nat) v v',r[j]? =some v->w.cell? (a.add (k*P.cellsOf u+j))=some v'->TRv (allM w) v v')/\r.length=e.sz/\(k<len->e.sz=P.cellsOf u):=by
      intro k;by_cases hk:k<len
      ·obtain⟨cs',hc',ht'⟩:=hi k (by omega);obtain⟨ts,ho,hr⟩:=ih.1 n' u cs' _ hc ht';obtain⟨_,hln,hat⟩:=World.cells?_some hc';have ZW:e.sz=P.cellsOf u:=by rw[<-Sh.ok_sz e ts ho,hr.1,hln]
       refine⟨ts,fun _=>⟨ho,fun j hj hnone=> ?_,fun j v v' hv ZQ=> ?_⟩,Sh.ok_sz e ts ho,fun _=>ZW⟩
       ·have:=hat j hj;rw[Deep.add_add,hnone,L4 (by omega)]at this;cases this
       ·have hj:j<ts.length:=(List.getElem?_eq_some_iff.1 hv).1;have:=hat j (by rw[hr.1,hln]at hj;exact hj);rw[Deep.add_add,ZQ]at this;exact hr.2 j v v' hv this.symm
      ·exact⟨Lz e.sz undef,fun h=>absurd h hk,by simp,fun h=>absurd h hk⟩
     refine⟨_,⟨len,fun k=>Classical.choose (each k),fun k=> ?_,fun k=>(Classical.choose_spec (each k)).2.1,rfl⟩,TRl.one ?_⟩
     ·by_cases hk:k<len
      ·exact .inl ((Classical.choose_spec (each k)).1 hk).1
      ·exact .inr (by omega)
     ·generalize hr:(fun k=>Classical.choose (each k))=r;have hr1:∀k,k<len->e.ok (r k)/\(∀j,j<P.cellsOf u->w.cell? (a.add (k*P.cellsOf u+j))=none->False)/\∀(j:Nat) v v',(r k)[j]? =some v->w.cell? (a.add (k*P.cellsOf u+j))=some v'->TRv (allM w) v v':=fun k hk=>by rw[<-hr];exact(Classical.choose_spec (each k)).1 hk
      have hr2:∀k,(r k).length=e.sz:=fun k=>by rw[<-hr];exact(Classical.choose_spec (each k)).2.1
      have hr3:∀k,k<len->e.sz=P.cellsOf u:=fun k hk=>(Classical.choose_spec (each k)).2.2 hk
      rcases Nat.eq_zero_or_pos len with rfl|hpos
      ·have:Qe r (Ll 0)=#[]:=rfl;rw[this];exact .empty hm
      ·have ZW:=hr3 0 hpos;have hex:∃v,w.cell? a=some v:=by
        have:=(hr1 0 hpos).2.1 0 (by omega);have ea:a.add (0*P.cellsOf u+0)=a:=by simp[Addr.add]
        rw[ea]at this;cases hq:w.cell? a with
        |none=>exact absurd hq this
        |some v=>exact⟨v,rfl⟩
       obtain⟨v0,hv0⟩:=hex;obtain⟨b,o,arr,ty,fl,rfl,hb,_⟩:=AU hv0;have cellE:∀i,w.cell? ⟨b,o+i,none⟩=arr[o+i]? :=fun i=>by simp[World.cell?,hb]
       refine TRv.slice (o:=o) hl hm hb (fun i hi'=> ?_) fun i v v' hv ZQ=> ?_
       ·obtain⟨k,j,hk,hj,rfl,_⟩:=oU hr2 (i:=i) (v:=(Qe r (Ll len))[i]) (Array.getElem?_eq_getElem hi');have:=(hr1 k hk).2.1 j (by omega);rw[pH,<-ZW,cellE]at this;rcases LK (o+(k*e.sz+j)) arr.size with h1|h1
        ·exact h1
        ·exact absurd (Array.getElem?_eq_none h1) this
       ·obtain⟨k,j,hk,hj,rfl,hkj⟩:=oU hr2 hv;refine(hr1 k hk).2.2 j v v' hkj ?_;rw[pH,<-ZW,cellE];exact ZQ
   ·cases hc
 exact key.1
def Sh.arg:Sh->Value->Prop
 | .struct f,v=> ∃cs,v=.agg cs.toArray/\f.ok cs
 |s,v=>s.ok [v]
def sI:List Sh->List Value->Prop
 |[],l=>l=[]
 |s::ss,l=> ∃t ts,l=t::ts/\s.arg t/\sI ss ts
theorem Ep{s:Sh}{t:TypeId}{v:Value}{d:DataW H}{ps:List MemPlace}{r:Reach}{b0:Nat}(hc:s.chk P none t=true)(hv:Value.okWide P w r b0 t v)(h:DataW.Trod enc P w 0 (fun _=>true) held t v d ps):∃tr,s.arg tr/\TRv (allM w) tr v:=by
 obtain⟨fuel,hf⟩:=h;obtain⟨ts,ho,hr⟩:=Ii s fuel t _ _ hc hf;have one:v.cells=#[v]->s.ok ts->(∀f,s≠.struct f)->∃tr,s.arg tr/\TRv (allM w) tr v:=fun hv1 ho hs=>by
  rw[hv1]at hr;match ts,hr,ho with
  |[tr],hr,ho=>
   refine⟨tr, ?_,hr.2 0 tr v rfl rfl⟩;cases s <;> first|exact ho|exact absurd rfl (hs _)
  |[],hr,_=>have:=hr.1;simp at this
  |_::_::_,hr,_=>have:=hr.1;simp at this
 cases s with
 |int=>
  simp only[Sh.chk]at hc;split at hc
  ·rename_i ht;obtain⟨n,rfl⟩:=okWide_int ht hv;exact one rfl ho fun f h=>by cases h
  ·cases hc
 |bool=>
  simp only[Sh.chk]at hc;split at hc
  ·rename_i ht;obtain⟨n,rfl⟩:=okWide_bool ht hv;exact one rfl ho fun f h=>by cases h
  ·cases hc
 |str=>
  simp only[Sh.chk]at hc;split at hc
  ·rename_i ht;obtain⟨n,rfl⟩:=okWide_string ht hv;exact one rfl ho fun f h=>by cases h
  ·cases hc
 |unit=>simp[Sh.chk]at hc
 |pair a b=>simp[Sh.chk]at hc
 |struct f=>
  simp only[Sh.chk]at hc;split at hc
  ·rename_i fs ht;obtain⟨cs,rfl,_⟩:=okWide_struct ht hv;refine⟨.agg ts.toArray,⟨ts,rfl,ho⟩,.agg ?_ fun i v v' h1 h2=> ?_⟩
   ·have:=hr.1;simpa[Value.cells]using this
   ·exact hr.2 i v v' (by simpa using h1) (by simpa[Value.cells]using h2)
  ·cases hc
 |slice e=>
  simp only[Sh.chk]at hc;split at hc
  ·rename_i u ht;obtain⟨a,l,c,rfl⟩:=okWide_slice ht hv;exact one rfl ho fun f h=>by cases h
  ·cases hc
def dw(P:Program):List Sh->List TypeId->Bool
 |[],[]=>true
 |s::ss,t::ts=>s.chk P none t && dw P ss ts
 |_,_=>false
theorem trodAll_cons{t:TypeId}{ts:List TypeId}{vs:List Value}{ds:List (DataW H)}{ps:List MemPlace}{base:Nat}{spare:Nat->Bool}(h:DataW.TrodAll enc P w base spare held (t::ts) vs ds ps):
 ∃v vs' d ds' p q,vs=v::vs'/\ds=d::ds'/\DataW.Trod enc P w base spare held t v d p/\DataW.TrodAll enc P w base spare held ts vs' ds' q/\ps=p++q:=by
 cases vs with
 |nil=>cases ds <;> simp[DataW.TrodAll]at h
 |cons v vs=>
  cases ds with
  |nil=>simp[DataW.TrodAll]at h
  |cons d ds=>
   simp only[DataW.TrodAll]at h;obtain⟨p,q,h1,h2,h3⟩:=h;exact⟨v,vs,d,ds,p,q,rfl,rfl,h1,h2,h3⟩
theorem trodAll_nil{vs:List Value}{ds:List (DataW H)}{ps:List MemPlace}{base:Nat}{spare:Nat->Bool}(h:DataW.TrodAll enc P w base spare held [] vs ds ps):vs=[]/\ds=[]/\ps=[]:=by
 cases vs <;> cases ds <;> simp[DataW.TrodAll]at h
 exact⟨rfl,rfl,h⟩
theorem MI:∀(ss:List Sh) (ts:List TypeId) (vs:List Value) (ds:List (DataW H)) (ps:List MemPlace) (r:Reach) (b0:Nat),dw P ss ts=true->DataW.TrodAll enc P w 0 (fun _=>true) held ts vs ds ps->
 (∀(j:Nat) t v,ts[j]? =some t->vs[j]? =some v->Value.okWide P w r b0 t v)->∃trs,sI ss trs/\TRl (allM w) trs vs
 |[],[],vs,ds,ps,r,b0,_,h,_=>by
  obtain⟨rfl,_,_⟩:=trodAll_nil h;exact⟨[],rfl,TRl.nil⟩
 |s::ss,t::ts,vs,ds,ps,r,b0,hc,h,hv=>by
  simp only[dw,YB]at hc;obtain⟨v,vs',d,ds',p,q,rfl,rfl,h1,h2,rfl⟩:=trodAll_cons h;obtain⟨tr,ha,hr⟩:=Ep hc.1 (hv 0 t v rfl rfl) h1;obtain⟨trs,ha2,hr2⟩:=MI ss ts vs' ds' q r b0 hc.2 h2 fun j t v h1 h2=>hv (j+1) t v (by simpa using h1) (by simpa using h2)
  exact⟨tr::trs,⟨tr,trs,rfl,ha,ha2⟩,(TRl.one hr).append hr2⟩
 |[],_::_,_,_,_,_,_,hc,_,_=>by simp[dw]at hc
 |_::_,[],_,_,_,_,_,hc,_,_=>by simp[dw]at hc
theorem Hg{J:World->Prop}{f:FuncId}{ss:List Sh}{ts:List TypeId}{args:Array Value}{ds:List (DataW H)}{ps:List MemPlace}{r:Reach}{b0:Nat}(hJ:J w)(hc:dw P ss ts=true)(h:DataW.TrodAll enc P w 0 (fun _=>true) held ts args.toList ds ps)
 (hv:∀(j:Nat) t v,ts[j]? =some t->args[j]? =some v->Value.okWide P w r b0 t v) (walk:∀trs,sI ss trs->Qr P J f trs.toArray (.bool true)):Calls P f args w fun e w'=>e=.returned (.bool true)/\Below w.heap.size w w':=by
 obtain⟨trs,ha,hr⟩:=MI ss ts args.toList ds ps r b0 hc h fun j t v h1 h2=>hv j t v h1 (by simpa using h2)
 refine(walk trs ha (allM w) w args hJ (fun b x h=>h) ⟨by simpa using hr.1,fun i v v' h1 h2=>hr.2 i v v' (by simpa using h1) (by simpa using h2)⟩).mono fun e w' ⟨v',he,hb,ht⟩=>⟨?_,hb⟩
 rw[he,TRv.simple_eq rfl ht]
theorem cq(hl:laidOutB P=true){W W':World}(hb:Below W.heap.size W W'):∀(ts:List TypeId) (vs:List Value) (ds:List (DataW H)) (ps:List MemPlace),(ts.all fun t=>P.readableRec t && decide (t<P.types.size))=true->DataW.TrodAll enc P W 0 (fun _=>true) true ts vs ds ps->(∀x∈ps,x.block<W.heap.size)->
 DataW.TrodAll enc P W' 0 (fun b=>decide (b<W.heap.size)) true ts vs ds ps
 |[],vs,ds,ps,_,h,_=>by
  obtain⟨rfl,rfl,rfl⟩:=trodAll_nil h;exact rfl
 |t::ts,vs,ds,ps,ha,h,Xp=>by
  simp only[List.all_cons,YB,decide_eq_true_eq]at ha;obtain⟨v,vs',d,ds',p,q,rfl,rfl,h1,h2,rfl⟩:=trodAll_cons h;exact⟨p,q,Below.trod hl ha.1.1 ha.1.2 h1 hb fun x hx=>Xp x (Ln _ hx),cq hl hb ts vs' ds' q ha.2 h2 fun x hx=>Xp x (Lw _ hx),rfl⟩
theorem Iq{α:Type}{s:Sh}{e:α->List Value}(dec:∀cs,s.ok cs->∃x,cs=e x){n:Nat}{r:Nat->List Value}(h:∀k,s.ok (r k)\/n<=k):∃xs:List α,xs.length=n/\Qe r (Ll n)=Qe e xs:=by
 induction n with
 |zero=>exact⟨[],rfl,rfl⟩
 |succ n ih=>
  obtain⟨xs,hl,hx⟩:=ih fun k=>(h k).imp id fun h=>by omega
  obtain⟨x,hxe⟩:=dec (r n) ((h n).resolve_right (by omega));refine⟨xs++[x],by simp[hl], ?_⟩;unfold Qe at hx ⊢;rw[List.range_succ,List.flatMap_append,List.flatMap_append];have:(Ll n).flatMap r=xs.flatMap e:=by simpa using hx
  rw[this];simp[hxe]
theorem tf{α:Type}{s:Sh}{e:α->List Value}(dec:∀cs,s.ok cs->∃x,cs=e x){cs:List Value}(h:Sh.ok (.slice s) cs):∃xs:List α,cs=[QH xs.length (Qe e xs)]:=by
 obtain⟨n,r,h1,_,rfl⟩:=h;obtain⟨xs,rfl,hx⟩:=Iq dec h1;exact⟨xs,by rw[hx]⟩
theorem No{cs:List Value}(h:Sh.ok .int cs):∃z:Int,cs=Q0 z:=by
 obtain⟨z,_,rfl⟩:=h;exact⟨z,rfl⟩
def Sh.zero:Sh->List Value
 | .int=>[.int .i64 0]
 | .bool=>[.bool false]
 | .str=>[.string ⟨#[]⟩]
 | .unit=>[]
 | .pair a b=>a.zero++b.zero
 | .struct f=>f.zero
 | .slice _=>[.slice none 0 0]
def Sh.zeroA:Sh->Value
 | .struct f=>.agg f.zero.toArray
 |s=>s.zero.headD undef
def shS(l:List Sh):Sh:=.struct (l.foldr .pair .unit)
end
end Go.CE

namespace Go.CE
open Go Go.RowKit

def OA(T:Tm):Tm:=ofList T.len ((Ll T.len).map (XT T))
structure SpD where
 c:CF
 H:Qt
 n:Nat
 g:FuncId
 args:Array Value
 R:List Nat
 W:List Nat
noncomputable def Qap(P:Program)(F:FuncId->Bool)(c1:CF)(H:Qt)(n:Nat):Option SpD:=
 match c1.mode,c1.todo,c1.defers,c1.roundOf with
 | .run,.code (.region _ ops false)::todo,[],none=>match sZ P F X1 0 ops c1 H n with
   |some s=>match s.o.op,s.post with
    | .defer c,[]=>match c.callee with
      | .value x=>match Zd s.T x with
        |some (.func (.func g) xs ys)=>bif c.args.isEmpty && F g && LR s.T.len 16000 then some ⟨⟨c1.fn,OA (VB s.T s.o.dst undef),todo,[],.run,none⟩,s.H,s.n,g,xs++ys,Y5 s.Qz,Ub s.Qz⟩else none
        |_=>none
      |_=>none
    |_,_=>none
   |none=>none
 |_,_,_,_=>none
section
variable {P:Program} {F:FuncId->Bool} {J:World->Prop} {B:Lo} {c0 c:CF} {Hb H:Qt} {a n:Nat} {W Wf:List Nat}
end
def VE(n:Int):Nat:=2 ^ n.toNat
def cK(a n:Int):Nat:=a.toNat >>> n.toNat
def sC(a b:Int):Nat:=a.toNat &&& b.toNat
theorem TC{n:Int}(h1:n<=62):VE n<=4611686018427387904:=by unfold VE;exact Nat.le_trans (Nat.pow_le_pow_right (by decide) (show n.toNat<=62 by omega)) (by decide)
theorem Ip{a n:Int}:cK a n<=a.toNat:=by unfold cK;rw[Nat.shiftRight_eq_div_pow];exact Nat.div_le_self _ _
theorem HQ{n:Int}(h1:n<=62):(2:Nat) ^ n.toNat<=2 ^ 62:=Nat.pow_le_pow_right (by decide) (by omega)
theorem HR{P:Program}{t:TypeId}{yk:IntKind}{n:Int}(h0:0<=n)(h1:n<=62):oB P .shl t (.int .i64 1) (.int yk n) (.int .i64 ((VE n:Nat):Int)):=fun x y w=>by
 unfold VE;have e:min n.toNat (IntKind.bits IntKind.i64)=n.toNat:=Nat.min_eq_left (by show n.toNat<=64;omega);have hp:=HQ h1;have e2:(2:Int) ^ n.toNat=((2 ^ n.toNat:Nat):Int):=by rw[Int.natCast_pow];rfl
 have e3:IntKind.wrap IntKind.i64 (1*2 ^ min n.toNat (IntKind.bits IntKind.i64))=((2 ^ n.toNat:Nat):Int):=by
  rw[e,Int.one_mul,e2];generalize 2 ^ n.toNat=z at *;exact Jf (by omega) (by omega)
 have hn:¬n<0:=by omega
 simp only[eqGuard,binOp,Op.shift,hn,if_false,e3];simp
theorem MB{P:Program}{t:TypeId}{yk:IntKind}{a n:Int}(ha:0<=a)(h0:0<=n)(h1:n<=62):oB P .shr t (.int .i64 a) (.int yk n) (.int .i64 ((cK a n:Nat):Int)):=fun x y w=>by
 unfold cK;obtain⟨b,rfl⟩:∃b:Nat,a=b:=⟨a.toNat,by omega⟩
 have e:min n.toNat (IntKind.bits IntKind.i64)=n.toNat:=Nat.min_eq_left (by show n.toNat<=64;omega);have e3:Int.fdiv (b:Int) (2 ^ min n.toNat (IntKind.bits IntKind.i64))=((((b:Int)).toNat >>> n.toNat:Nat):Int):=by
  rw[e,Int.fdiv_eq_ediv_of_nonneg _ (Int.le_of_lt (Int.pow_pos (by decide))),Int.toNat_natCast,Nat.shiftRight_eq_div_pow,Int.natCast_ediv,Int.natCast_pow];rfl
 have hn:¬n<0:=by omega
 simp only[eqGuard,binOp,Op.shift,hn,if_false,e3];simp
theorem qb{a:Int}(ha:0<=a):BitVec.ofInt (IntKind.bits IntKind.i64) a=BitVec.ofNat 64 a.toNat:=by
 obtain⟨b,rfl⟩:∃b:Nat,a=b:=⟨a.toNat,by omega⟩
 rw[Int.toNat_natCast];exact BitVec.ofInt_natCast 64 b
theorem MC{P:Program}{t:TypeId}{a b:Int}(ha:0<=a)(ha2:a<=9223372036854775807)(hb:0<=b)(hb2:b<=9223372036854775807):oB P .and t (.int .i64 a) (.int .i64 b) (.int .i64 ((sC a b:Nat):Int)):=fun x y w=>by
 unfold sC;have e:IntKind.wrap IntKind.i64 ((BitVec.toNat (BitVec.ofInt (IntKind.bits IntKind.i64) a &&& BitVec.ofInt (IntKind.bits IntKind.i64) b):Nat):Int)=((a.toNat &&& b.toNat:Nat):Int):=by
  rw[qb ha,qb hb];have e3:BitVec.toNat (BitVec.ofNat 64 a.toNat &&& BitVec.ofNat 64 b.toNat)=a.toNat &&& b.toNat:=by
   rw[BitVec.toNat_and,BitVec.toNat_ofNat,BitVec.toNat_ofNat,Nat.mod_eq_of_lt (a:=a.toNat) (by omega),Nat.mod_eq_of_lt (a:=b.toNat) (by omega)]
  show IntKind.wrap IntKind.i64 ((BitVec.toNat (BitVec.ofNat 64 a.toNat &&& BitVec.ofNat 64 b.toNat):Nat):Int)=_;rw[e3];have:=Nat.and_le_left (n:=a.toNat) (m:=b.toNat);exact Jf (by omega) (by omega)
 simp only[eqGuard,binOp,Op.intBits,ne_eq,not_true_eq_false,if_false,e];simp
def pushE{α:Type}(m:Nat)(e:α->List Value)(x:α):List Value:=(e x).map (ZV m)
def ya{α:Type}(e:α->List Value):Prop:=∀x,∀v∈e x,simple v=true\/WI v=true
section
variable {α:Type} {e:α->List Value} {m r j z:Nat} {rs:List (Nat×Nat)} {Y1:List (Nat×Array Value)} {ow:List (Nat×Nat)} {xs:List α} {rsT:List Nat}
theorem Xb(h:∀x,(e x).all (fun v=>simple v || WI v)=true):ya e:=fun x v hv=>by
 have:=List.all_eq_true.1 (h x) v hv;simpa using this
theorem RH(v:Value)(h:simple v=true\/WI v=true):(simple v=true/\ZV m v=v)\/(WI v=true/\ZV m v=Q2 m v):=by
 unfold ZV;cases hs:simple v with
 |true=>exact .inl ⟨rfl,rfl⟩
 |false=>rw[hs]at h;exact .inr ⟨by simpa using h,rfl⟩
theorem AT(he:ya e)(hm:(r,j)∈rs)(x:α):AllX m rs Y1 ow (pushE r e x) (pushE j e x):=by
 have key:∀l:List Value,(∀v∈l,simple v=true\/WI v=true)->AllX m rs Y1 ow (l.map (ZV r)) (l.map (ZV j)):=by
  intro l;induction l with
  |nil=>intro _;trivial
  |cons v l ih=>
   intro h;refine⟨?_,ih fun u hu=>h u (Lt _ hu)⟩;show ja m rs Y1 ow (ZV r v) (ZV j v);rcases RH (m:=r) v (h v (by simp))with ⟨a,b⟩|⟨a,b⟩ <;> rcases RH (m:=j) v (h v (by simp))with ⟨c,d⟩|⟨c,d⟩
   ·rw[b,d];exact .simple a
   ·rw[b];unfold ZV;rw[a];exact .simple a
   ·rw[d];unfold ZV;rw[c];exact .simple c
   ·rw[b,d];exact .P1 hm a
 exact key _ (he x)
theorem AB{e1 e2:α->List Value}(h:∀x,AllX m rs Y1 ow (e1 x) (e2 x)):QX m rs Y1 ow (Qe e1 xs) (Qe e2 xs):=by
 unfold QX Qe;simp only;induction xs with
 |nil=>trivial
 |cons x xs ih=>simp only[LU];exact(h x).append ih
theorem QM(he:ya e)(hm:(r,j)∈rs):QX m rs Y1 ow (Qe (pushE r e) xs) (Qe (pushE j e) xs):=AB (AT he hm)
theorem Ye{cs:Array Value}{vs:List Value}{x:α}(h:QX m rs Y1 ow cs (Qe e xs))(hx:AllX m rs Y1 ow vs (e x)):QX m rs Y1 ow (cs++vs.toArray) (Qe e (xs++[x])):=by
 unfold QX at h ⊢;rw[<-Xv];simp only[Array.toList_append];exact AllX.append h hx
theorem KD{vs:List Value}{x:α}(hx:AllX m rs Y1 ow vs (e x)):QX m rs Y1 ow vs.toArray (Qe e [x]):=by
 unfold QX Qe;simpa using hx
theorem AD{vs:List Value}{x:α}(h:AllX m rs Y1 ow vs (e x)):∀k:Nat,QX m rs Y1 ow (Qe (fun(_:α)=>vs) (Lz k x)) (Qe e (Lz k x))
 |0=>trivial
 |k+1=>by
  unfold QX Qe;simp only[List.replicate_succ,LU];exact h.append (AD h k)
theorem ZE(he:ya e)(hm:m∈rsT):X4 rsT (Qe (pushE m e) xs) (Qe e xs):=by
 have key:∀l:List Value,(∀v∈l,simple v=true\/WI v=true)->∀(i:Nat) v v1,(l.map (ZV m))[i]? =some v->l[i]? =some v1->o9 rsT v v1:=by
  intro l h i v v1 h1 h2;rw[LF,h2]at h1;simp only[LL,YO]at h1;subst h1;rcases RH (m:=m) v1 (h v1 (Lp h2))with ⟨a,b⟩|⟨a,b⟩
  ·exact .inl ⟨by rw[b];exact a,b.symm⟩
  ·exact .inr ⟨m,hm,b,a⟩
 have e0:Qe (pushE m e) xs=((xs.flatMap e).map (ZV m)).toArray:=by
  unfold Qe pushE;rw[List.map_flatMap]
 refine⟨by rw[e0];simp[Qe],fun i v v1 h1 h2=> ?_⟩;rw[e0]at h1;refine key (xs.flatMap e) (fun v hv=> ?_) i v v1 (by simpa using h1) (by simpa[Qe]using h2);obtain⟨x,_,hx⟩:=List.mem_flatMap.1 hv;exact he x v hx
theorem NL{a:Nat}{t:TypeId}{fl:Nat×Nat}(he:ya e)(hm:m<a):AX a (.cells (Qe (pushE m e) xs) t fl):=fun i v hv=>by
 have:v∈Qe (pushE m e) xs:=LN hv;simp only[Qe,List.mem_toArray,List.mem_flatMap,pushE,List.mem_map]at this;obtain⟨x,_,u,hu,rfl⟩:=this;rcases RH (m:=m) u (he x u hu)with ⟨h1,h2⟩|⟨h1,h2⟩
 ·rw[h2];exact .inl (kH h1)
 ·rw[h2];refine .inl ?_;show Wv a (Q2 m u)=true;have:Lr m a=true:=LH hm;unfold Wv;rw[show simple (Q2 m u)=false from rfl,Bool.false_or];exact this
end
def KE(zs:List Value)(_:Unit):List Value:=zs
theorem DD{zc:Array Value}{z n:Nat}(hz:zc.size=z)(h0:0<z):madeCells zc (n*z)=Qe (KE zc.toList) (Lz n ()):=by
 have hl:∀x,(KE zc.toList x).length=z:=fun x=>by simp[KE,hz]
 refine Array.ext_getElem? fun i=> ?_
 by_cases hi:i<n*z
 ·have hk:i / z<n:=(Nat.div_lt_iff_lt_mul h0).2 hi;have hj:i % z<z:=Nat.mod_lt _ h0;have e:i / z*z+i % z=i:=by rw[Nat.mul_comm];exact Nat.div_add_mod i z
  have:=dP (e:=KE zc.toList) (xs:=Lz n ()) hl (k:=i / z) (j:=i % z) (by simpa using hk) hj;rw[e]at this;rw[this];have hj':i % z<zc.size:=by rw[hz];exact hj
  simp only[madeCells,Array.getElem?_map,Array.getElem?_range,hi,if_true,LL,hz,KE];simp[hj']
 ·have a:(madeCells zc (n*z)).size=n*z:=size_madeCells _ _;have b:(Qe (KE zc.toList) (Lz n ())).size=n*z:=by rw[QT hl];simp
  rw[Array.getElem?_eq_none (by omega),Array.getElem?_eq_none (by omega)]
def OD(P:Program)(t e z bytes:Nat)(zs:List Value):Bool:=match R5 P t with
 |some (.slice e')=>Lf e' e && match inf P e with
  |some i=>match i.zero with
   |some zv=>Lf i.size z && (Lf i.bytes bytes && (Lr 0 z && (Lf zv.cells.size z && (H5 (DT 2) zv.cells.toList zs && zs.all simple))))
   |none=>false
  |none=>false
 |_=>false
theorem gX{P:Program}{t e z bytes:Nat}{zs:List Value}(h:OD P t e z bytes zs=true){l:Int}{k k':IntKind}(h0:0<=l)(hb:bytes*l<=281474976710656)(hn:l<=9223372036854775807):
 Tg P t (.int k l) (.int k' l)=some (e,Qe (KE zs) (Lz l.toNat ()),l.toNat,z):=by
 unfold OD at h;split at h
 ·rename_i e' hu;split at h
  ·rename_i i hi;split at h
   ·rename_i zv hz;simp only[YB]at h;obtain⟨h1,h2,h3,h4,h5,h6,h7⟩:=h;have h1:=YE h1;have h2:=YE h2;have h3:=YE h3;have h4:0<z:=YL h4;have h5:=YE h5;have h6:=Yc (UU 2) _ _ h6;subst h1 h2 h3;have e1:=DD (n:=l.toNat) h5 h4;rw[h6]at e1;have Y6:(madeCells zv.cells (l.toNat*i.size)).all simple=true:=by
     rw[e1,Array.all_eq_true'];intro v hv;simp only[Qe,List.mem_toArray,List.mem_flatMap,KE]at hv;obtain⟨_,_,hv⟩:=hv;exact List.all_eq_true.1 h7 v hv
    simp only[Tg,hu,hi,hz,decide_eq_true h0,decide_eq_true hb,decide_eq_true hn,decide_eq_true (LS l),Y6,Bool.and_self,cond_true];rw[e1]
   ·simp at h
  ·simp at h
 ·cases h
section
variable {α:Type} {e:α->List Value} {m z:Nat} {rs:List (Nat×Nat)} {Y1:List (Nat×Array Value)} {ow:List (Nat×Nat)} {xs:List α}
theorem UM{zs:List Value}{x:α}(h:AllX m rs Y1 ow zs (e x)):∀k:Nat,QX m rs Y1 ow (Qe (KE zs) (Lz k ())) (Qe e (Lz k x))
 |0=>trivial
 |k+1=>by
  unfold QX Qe;simp only[List.replicate_succ,LU];exact AllX.append h (UM h k)
theorem AllX.take{l k:List Value}:∀(n:Nat) {l k:List Value},AllX m rs Y1 ow l k->AllX m rs Y1 ow (l.take n) (k.take n)
 |0,_,_,_=>trivial
 |_+1,[],[],_=>trivial
 |n+1,_::_,_::_,h=>⟨h.1,AllX.take (l:=[]) (k:=[]) n h.2⟩
 |_+1,[],_::_,h=>h.elim
 |_+1,_::_,[],h=>h.elim
theorem AllX.drop{l k:List Value}:∀(n:Nat) {l k:List Value},AllX m rs Y1 ow l k->AllX m rs Y1 ow (l.drop n) (k.drop n)
 |0,_,_,h=>h
 |_+1,[],[],_=>trivial
 |n+1,_::_,_::_,h=>AllX.drop (l:=[]) (k:=[]) n h.2
 |_+1,[],_::_,h=>h.elim
 |_+1,_::_,[],h=>h.elim
theorem AA{cs:Array Value}{vs:List Value}{x:α}{k:Nat}(hz:∀y,(e y).length=z)(h:QX m rs Y1 ow cs (Qe e xs))(hk:k<xs.length)(hx:AllX m rs Y1 ow vs (e x)):QX m rs Y1 ow (splice cs (k*z) vs.toArray) (Qe e (xs.set k x)):=by
 have hlen:=(AllX.get hx).1;rw[hz x]at hlen;rw[<-(ib hz hk).2];unfold QX at h ⊢;unfold splice;simp only[hz x,<-hlen];exact AllX.append (AllX.append (AllX.take (l:=[]) (k:=[]) _ h) hx) (AllX.drop (l:=[]) (k:=[]) _ h)
theorem iR{cs cs1:Array Value}{vs us:List Value}{off:Nat}(h:QX m rs Y1 ow cs cs1)(hx:AllX m rs Y1 ow vs us):QX m rs Y1 ow (splice cs off vs.toArray) (splice cs1 off us.toArray):=by
 have hlen:=(AllX.get hx).1;have hl2:=(AllX.get h).1;have e:∀(cs:Array Value) (l:List Value),(splice cs off l.toArray).toList=cs.toList.take off++l++cs.toList.drop (off+l.length):=by
  intro cs l;unfold splice;simp
 unfold QX at h ⊢;rw[e,e,hlen];exact AllX.append (AllX.append (AllX.take (l:=[]) (k:=[]) _ h) hx) (AllX.drop (l:=[]) (k:=[]) _ h)
theorem BY{cs:Array Value}{off:Nat}{v:Value}(h:off<cs.size):(splice cs off #[v])[off]? =some v:=by
 have hl:(cs.toList.take off).length=off:=by simp;omega
 unfold splice;rw[List.getElem?_toArray,LY,Lm (by omega),hl];simp
theorem BX{cs:Array Value}{off:Nat}{u v:Value}(h:off<cs.size):off+1<=(splice cs off #[u]).size/\splice (splice cs off #[u]) off #[v]=splice cs off #[v]:=by
 have hl:(cs.toList.take off).length=off:=by simp;omega
 constructor
 ·unfold splice;simp;omega
 ·unfold splice;congr 1;have e1:(cs.toList.take off++[u]++cs.toList.drop (off+1)).take off=cs.toList.take off:=by
   rw[LY,List.take_append_of_le_length (by omega),List.take_of_length_le (by omega)]
  have e2:(cs.toList.take off++[u]++cs.toList.drop (off+1)).drop (off+1)=cs.toList.drop (off+1):=by
   rw[List.drop_append_of_le_length (by simp;omega),List.drop_eq_nil_of_le (by simp;omega),List.nil_append]
  show((cs.toList.take off++[u]++cs.toList.drop (off+1)).take off++[v]++(cs.toList.take off++[u]++cs.toList.drop (off+1)).drop (off+1))=_;rw[e1,e2];rfl
theorem xS{cs:Array Value}{vs:List Value}{x:α}{k:Nat}(hz:∀y,(e y).length=z)(h:QX m rs Y1 ow cs (Qe e xs))(hk:k<xs.length)(hx:AllX m rs Y1 ow vs (e x)):QX m rs Y1 ow (splice cs (0+k*z) vs.toArray) (Qe e (xs.set k x)):=by
 rw[LD];exact AA hz h hk hx
theorem WC(h:∀x,(e x).length=z){k z':Nat}(hk:k<xs.length){x:α}{cs:Array Value}(hc:cs=(e x).toArray)(hz:z'=z):0+k*z+z'<=(Qe e xs).size/\splice (Qe e xs) (0+k*z) cs=Qe e (xs.set k x):=by
 subst hz;rw[LD];exact Bj h hk hc
theorem kL(h:∀x,(e x).length=z){k z':Nat}(hk:k<xs.length)(hz:z'=z):0+k*z+z'<=(Qe e xs).size:=by
 subst hz;rw[LD];exact qI h hk
theorem VH[Inhabited α](h:∀x,(e x).length=z){k z':Nat}(hk:k<xs.length){cs:Array Value}(hc:cs=(e (xs.getD k La)).toArray)(hz:z'=z):0+k*z+z'<=(Qe e xs).size/\(Qe e xs).extract (0+k*z) (0+k*z+z')=cs:=by
 subst hz hc;rw[LD];exact⟨qI h hk,Qu h hk⟩
end
end Go.CE

noncomputable abbrev Go.CE.YP:Go.Program:=Go.Proofs.Try.prog
namespace Go.Proofs.Ytncjjangllkokaa
open Go Go.CE Go.RowKit
abbrev pA(b o:Nat):Value:=.pointer (some ⟨b,o,none⟩)
def J0:World->Prop:=fun _=>True
theorem Za:∀w w':World,(∀b,b<w.heap.size->w'.heap[b]? =w.heap[b]?)->J0 w->J0 w':=fun _ _ _ _=>trivial
theorem Qf:YP.follows .mixedOrders=true:=by decide+kernel
theorem okF:∀g,Q6 YP g=true->Q6 YP g=true:=fun _ h=>h
end Go.Proofs.Ytncjjangllkokaa

namespace Go.CE
open Go Go.RowKit

section
variable {P:Program} {F:FuncId->Bool} {T:Tm} {o:Oper} {H:Qt} {n:Nat}
end
section
variable {P:Program} {F:FuncId->Bool} {T:Tm} {o:Oper} {H:Qt} {n:Nat}
theorem fK{c:Call}{s x:Operand}{sv:Value}{t e:TypeId}{b off m s2 z by':Nat}{cs cs':Array Value}{te:TypeId}{f:Nat×Nat}(ho:o.op=.call c)(hc:c.callee=.builtin .append)(ha:c.args.toList=[s,x])(hat:c.argTypes.toList=[t,t])
 (hs:Zd T s=some sv) (hbn:YW sv=true) (hx:Zd T x=some (.slice (some ⟨b,off,none⟩) m s2)) (hu:R5 P t=some (.slice e)) (hi:(inf P e).map (fun i=>(i.zero.map (·.cells.size),i.size,i.bytes))=some (some (z+1),z+1,by')) (hb:Qw H b=some (.cells cs te f)) (hn:b<n)
 (hq:0<m/\m<=maxLen/\m*by'<=140737488355328/\off+m*(z+1)<=cs.size/\ones (cs.extract off (off+m*(z+1)))=true/\cs.extract off (off+m*(z+1))=cs'):
 dn P F X1 (fun _ _ _=>none) T o H n=some ⟨.ret (.slice (some ⟨n,0,none⟩) m (z+1)),(n,.cells cs' e (0,0))::H,n+1,[b],[]⟩:=by
 obtain⟨h1,h2,h3,h4,h5,rfl⟩:=hq;cases hinf:inf P e with
 |none=>rw[hinf]at hi;cases hi
 |some i=>
  rw[hinf]at hi;simp only[LL,YO,YR]at hi;obtain⟨i1,i2,i3⟩:=hi;cases hz:i.zero with
  |none=>rw[hz]at i1;cases i1
  |some zv=>
   rw[hz]at i1;simp only[LL,YO]at i1;have eb:bare sv=.slice none 0 0:=by
    unfold YW at hbn;split at hbn
    ·rfl
    ·rfl
    ·cases hbn
   have e4:xY P t t H n sv (.slice (some ⟨b,off,none⟩) m s2)=some ⟨.val (.slice (some ⟨n,0,none⟩) m (z+1)),(n,.cells (cs.extract off (off+m*(z+1))) e (0,0))::H,n+1,[b],[]⟩:=by
    have q1:Lf zv.cells.size (z+1)=true:=by rw[i1];simp
    have q2:LR m maxLen=true:=LH h2;have q3:LR (m*i.bytes) 140737488355328=true:=LH (by rw[i3];exact h3);have q4:Lr 0 m=true:=LH h1;have q5:LR (off+m*(z+1)) cs.size=true:=LH h4;simp only[xY,eb,show Lf t t=true by simp,cond_true,VZ,hu,hinf,hz,i2,Sp,m8,hb,q5,h5,q1,q2,q3,q4,LD,Bool.and_self,ah,Option.toList,Array.empty_append]
   have e5:Ss P F (Zd T) o H n=some ⟨.val (.slice (some ⟨n,0,none⟩) m (z+1)),(n,.cells (cs.extract off (off+m*(z+1))) e (0,0))::H,n+1,[b],[]⟩:=by
    unfold Ss sL;simp only[ho,hc,ha,hat,hs,hx,e4,List.all_cons,List.all_nil,show Lr b n=true from LH hn,Bool.and_self,cond_true]
   unfold dn;simp only[ho,e5]
end
theorem BZ{α:Type}{e:α->List Value}(h:∀x,(e x).all (·.oneCell')=true)(zs:List α)(i j:Nat):ones ((Qe e zs).extract i j)=true:=by
 unfold ones;rw[Array.all_eq_true'];intro v hv;have ZQ:v∈(Qe e zs).toList:=by
  have:=Array.mem_def.1 hv;rw[Array.toList_extract,List.extract_eq_take_drop]at this;exact List.mem_of_mem_drop (List.mem_of_mem_take this)
 simp only[Qe,List.mem_flatMap]at ZQ;obtain⟨x,_,hx⟩:=ZQ;exact List.all_eq_true.1 (h x) v hx
theorem y1{v:Value}(h:simple v=true):v.oneCell'=true:=by
 cases v <;> first|rfl|(cases h;done)
theorem sS{α:Type}{e:α->List Value}{r:Nat}(hs:∀x,(e x).all simple=true)(xs:List α):(Qe e xs).map (ZV r)=Qe e xs/\((Qe e xs).all fun v=>simple v || WI v)=true/\ones (Qe e xs)=true:=by
 have h:∀v∈Qe e xs,simple v=true:=R8 fun x=>List.all_eq_true.1 (hs x)
 refine⟨?_,Array.all_eq_true'.2 fun v hv=>by rw[h v hv];rfl,Array.all_eq_true'.2 fun v hv=>y1 (h v hv)⟩;apply Array.ext (by simp);intro i h1 h2;have hv:=h _ (Array.getElem_mem h2);simp[ZV,hv]
theorem dQ{α:Type}{e:α->List Value}{z:Nat}(hz:∀x,(e x).length=z)(hs:∀x,(e x).all (·.oneCell')=true){xs:List α}{m:Nat}(hm:m=xs.length):0+m*z<=(Qe e xs).size/\ones ((Qe e xs).extract 0 (0+m*z))=true/\(Qe e xs).extract 0 (0+m*z)=Qe e xs:=by
 subst hm;refine⟨by rw[QT hz];omega,BZ hs _ _ _, ?_⟩;rw[LD,<-QT (e:=e) (xs:=xs) hz];simp
theorem Xl{α:Type}{e:α->List Value}{xs:List α}{x:α}{cs:Array Value}(h:cs=(e x).toArray):Qe e xs++cs=Qe e (xs++[x]):=by
 rw[h];exact Xv
def Ql(fs:List Int)(k:Nat):Int:=fs.getD k 0
def yv(k:Nat)(x:Int):Nat->List Int->List Int
 |_,[]=>[]
 |j,f::l=>(if k=j then x else f)::yv k x (j+1) l
theorem dE(k:Nat)(x:Int):∀(l:List Int) (j:Nat),(yv k x j l).length=l.length
 |[],_=>rfl
 |_::l,j=>by simp[yv,dE k x l (j+1)]
theorem sO(k:Nat)(x:Int):∀(l:List Int) (j i:Nat),i<l.length->(yv k x j l)[i]? =some (if k=j+i then x else l.getD i 0)
 |[],_,_,h=>by simp at h
 |f::l,j,0,_=>by simp[yv]
 |f::l,j,i+1,h=>by
  have:=sO k x l (j+1) i (by simpa using h);simp only[yv,List.getElem?_cons_succ,this,List.getD_cons_succ];rw[show j+1+i=j+(i+1)by omega]
theorem AS{cs:Array Value}{fs:List Int}{off i:Nat}(h:(cs.toList.drop off).take fs.length=fs.map (Value.int .i64))(hi:i<fs.length):cs[off+i]? =some (.int .i64 (fs.getD i 0)):=by
 have e:((cs.toList.drop off).take fs.length)[i]? =(fs.map (Value.int .i64))[i]? :=by rw[h]
 rw[L0 hi,List.getElem?_drop,LF,Lq]at e;rw[e];simp[Ly,hi]
theorem Z8{cs:Array Value}{fs:List Int}{off k:Nat}(h:(cs.toList.drop off).take fs.length=fs.map (Value.int .i64))(hk:k<fs.length):cs[off+k*1]? =some (.int .i64 (Ql fs k)):=by
 rw[Nat.mul_one];exact AS h hk
theorem HU{cs:Array Value}{fs:List Int}{off k:Nat}(h:(cs.toList.drop off).take fs.length=fs.map (Value.int .i64))(hk:k<fs.length):cs.extract (off+k*1) (off+k*1+1)=#[.int .i64 (Ql fs k)]:=by
 have e:=Z8 h hk;have hs:=(Array.getElem?_eq_some_iff.1 e).1;refine Array.ext_getElem? fun i=> ?_
 rw[LX];by_cases hi:i=0
 ·subst hi;rw[if_pos (by omega),Nat.add_zero,e];rfl
 ·rw[if_neg (by omega),Array.getElem?_eq_none (by simp;omega)]
theorem Ot{l:List Int}{k:Nat}(h:l.length<=4):Ql [l.getD 0 0,l.getD 1 0,l.getD 2 0,l.getD 3 0] k=l.getD k 0:=by
 match k with
 |0=>rfl
 |1=>rfl
 |2=>rfl
 |3=>rfl
 |k+4=>
  have e:l.getD (k+4) 0=0:=by rw[Ly,LG (by omega)];rfl
  rw[e];rfl
theorem sA{cs cs' vc:Array Value}{fs:List Int}{off k:Nat}{x:Int}(hv:vc=#[.int .i64 x])(h:(cs.toList.drop off).take fs.length=fs.map (Value.int .i64))(hk:k<fs.length)(hc:cs'.toList=cs.toList.take off++(yv k x 0 fs).map (Value.int .i64)++cs.toList.drop (off+fs.length)):
 off+k*1+1<=cs.size/\splice cs (off+k*1) vc=cs':=by
 subst hv;have ZW:off+fs.length<=cs.size:=by
  have e:=AS h (i:=fs.length-1) (by omega);have:=(Array.getElem?_eq_some_iff.1 e).1;omega
 rw[Nat.mul_one];refine⟨by omega,Array.ext_getElem? fun i=> ?_⟩;rw[K0 (by simp;omega),<-Lq (xs:=cs'),hc];have l1:(cs.toList.take off).length=off:=by simp;omega
 by_cases h1:i<off
 ·rw[if_neg (by simp;omega),LY,Lx (by omega),L0 h1,Lq]
 ·rw[LY,Lm (by omega),l1];by_cases h2:i-off<fs.length
  ·rw[Lx (by simp[dE];omega),LF,sO k x fs 0 (i-off) h2];by_cases h3:i=off+k
   ·subst h3;rw[if_pos (by simp),if_pos (by omega)];simp
   ·rw[if_neg (by simp;omega),if_neg (by omega)];have e:=AS h h2;rw[show off+(i-off)=i by omega]at e;rw[e];rfl
  ·rw[if_neg (by simp;omega),Lm (by simp[dE];omega),List.getElem?_drop,List.length_map,dE,Lq];congr 1;omega
theorem oh{xs:List Int}{cs cs':Array Value}{off k r m:Nat}{e:Int->List Value}(he:∀x,e x=[.int .i64 x])(hm:m=xs.length)(h0:0<m)(hk:m<=k)(h:(cs.toList.drop off).take k=Lz k (Value.int .i64 0))(hz:off+k<=cs.size)
 (hc:cs'.toList=cs.toList.take off++((Ll k).map fun j=>Value.int .i64 (xs.getD j La))++cs.toList.drop (off+k)):
 0<m/\off+LW m k*1<=cs.size/\LW m k*1<=(Qe e xs).size/\((Qe e xs).all fun v=>simple v || WI v)=true/\ones (((Qe e xs).extract 0 (LW m k*1)).map (ZV r))=true/\splice cs off (((Qe e xs).extract 0 (LW m k*1)).map (ZV r))=cs':=by
 subst hm;have hmin:LW xs.length k*1=xs.length:=by rw[Nat.mul_one];exact Nat.min_eq_left hk
 have hrow:Qe e xs=(xs.map (Value.int .i64)).toArray:=by
  have:xs.flatMap e=xs.map (Value.int .i64):=by
   have:e=fun x=>[Value.int .i64 x]:=funext he
   rw[this];have h9:∀l:List Int,l.flatMap (fun x=>[Value.int .i64 x])=l.map (Value.int .i64):=fun l=>by
    induction l with
    |nil=>rfl
    |cons x l ih=>rw[LU,ih];rfl
   exact h9 xs
  unfold Qe;rw[this]
 have ZW:(Qe e xs).size=xs.length:=by rw[hrow];simp
 have hext:((Qe e xs).extract 0 (LW xs.length k*1)).map (ZV r)=(xs.map (Value.int .i64)).toArray:=by
  rw[hmin,hrow];apply Array.ext_getElem?;intro i;rw[Array.getElem?_map,LX];by_cases hi:i<xs.length
  ·rw[if_pos (by simp;omega)];simp[hi,ZV,simple]
  ·rw[if_neg (by simp;omega)];simp[hi]
 rw[hext,hmin,ZW];refine⟨h0,by omega,LI _, ?_, ?_,Array.ext_getElem? fun i=> ?_⟩
 ·rw[hrow];simp[simple]
 ·simp[ones,Value.oneCell']
 ·rw[K0 (by simp;omega),<-Lq (xs:=cs'),hc];have l1:(cs.toList.take off).length=off:=by simp;omega
  by_cases h1:i<off
  ·rw[if_neg (by simp;omega),LY,Lx (by omega),L0 h1,Lq]
  ·rw[LY,Lm (by omega),l1];by_cases h2:i-off<k
   ·rw[Lx (by simp;omega),LF,List.getElem?_range h2];by_cases h3:i-off<xs.length
    ·rw[if_pos (by simp;omega)];simp[h3,Ly]
    ·rw[if_neg (by simp;omega)];have e2:((cs.toList.drop off).take k)[i-off]? =(Lz k (Value.int .i64 0))[i-off]? :=by rw[h]
     rw[L0 h2,List.getElem?_drop,show off+(i-off)=i by omega,Lq,List.getElem?_replicate,if_pos h2]at e2;rw[e2];simp[Ly,LG (show xs.length<=i-off by omega)]
   ·rw[if_neg (by simp;omega),Lm (by simp;omega),List.getElem?_drop,Lq];congr 1;simp;omega
theorem FinK.wri{P:Program}{J:World->Prop}{g:FuncId}{args:Array Value}{c0:CF}{Hb ws:Qt}{a:Nat}{Wf:List Nat}{bs outs news:List Obj}{out:OO}(hc:ZY P g args=some c0)(e1:Hb=jb bs)(e2:a=bs.length+1)(e3:ws=X0 1 outs)(e4:Wf=LM 1 bs.length)
 (h:∀B:Lo,(∀w,B.has w->J w)->FinK P B c0 Hb a out ws news Wf):WriC P J g args bs out outs news:=fun B hJ μ w args' cs QE hB hf hv=>by
 subst e1 e2 e3 e4;obtain⟨Zg,w',μ',hp,ho,_,he⟩:=h B hJ μ w _ cs QE hB hf (UL hc hv);rw[show bs.length+1+1+news.length=bs.length+2+news.length by omega]at hp;exact⟨Zg,w',μ',hp,ho,he⟩
theorem ZL{α:Type}{e:α->List Value}{xs:List α}{z:Nat}[Inhabited α](h:∀x,(e x).length=z){k j:Nat}{v:Value}(hk:k<xs.length)(hv:(e (xs.getD k La))[j]? =some v):(Qe e xs)[0+k*z+j]? =some v:=by
 rw[LD];exact Bk h hk hv
theorem Kc{α:Type}[Inhabited α]{e:α->List Value}{z:Nat}{xs:List α}(h:∀x,(e x).length=z){k j z':Nat}(hk:k<xs.length){x:α}{cs:Array Value}(hx:e x=(e (xs.getD k La)).take j++cs.toList++(e (xs.getD k La)).drop (j+z'))(hz:z'=cs.size)(hj:j+z'<=z):0+k*z+j+z'<=(Qe e xs).size/\splice (Qe e xs) (0+k*z+j) cs=Qe e (xs.set k x):=by
 have hle:=qI (e:=e) h hk;have Zh:=Bj (e:=e) h hk (x:=x) (cs:=(e x).toArray) rfl;have hX:(e x).length=z:=h _;have hE:(e (xs.getD k La)).length=z:=h _;have hr:∀q,q<z->(Qe e xs)[k*z+q]? =(e (xs.getD k La))[q]? :=fun q hq=>by
  have hq':q<(e (xs.getD k La)).length:=by omega
  rw[Bk (e:=e) h hk (L4 hq'),L4 hq']
 generalize e (xs.getD k La)=E at *;subst hz;have hc:cs.toList.length=cs.size:=Array.length_toList ..;have ht:(E.take j).length=j:=by rw[List.length_take];omega
 have key:∀q,(e x).toArray[q]? =(E.take j++(cs.toList++E.drop (j+cs.size)))[q]? :=fun q=>by rw[List.getElem?_toArray,hx,LY]
 have ec:∀q,cs[q]? =cs.toList[q]? :=fun q=>(Lq ..).symm
 refine⟨by omega, ?_⟩;rw[<-Zh.2];apply Array.ext_getElem?;intro i;have s2:(e x).toArray.size=z:=hX;rw[K0 (by omega),K0 (by omega),s2,key,ec];by_cases h1:0+k*z+j<=i/\i<0+k*z+j+cs.size
 ·rw[if_pos h1,if_pos (by omega),Lm (by omega),Lx (by omega)];congr 1;omega
 ·rw[if_neg h1];by_cases h2:k*z<=i/\i<k*z+z
  ·rw[if_pos h2];have h5:=hr (i-k*z) (by omega);rw[show k*z+(i-k*z)=i by omega]at h5;rw[h5];by_cases h3:i<k*z+j
   ·rw[Lx (by omega),L0 (by omega)]
   ·rw[Lm (by omega),Lm (by omega),List.getElem?_drop];congr 1;omega
  ·rw[if_neg h2]
theorem XI{α:Type}{e:α->List Value}{xs:List α}{m:Nat}{rs:List Nat}(h:∀x,(e x).all simple=true):Qv m rs (Qe e xs) (Qe e xs):=c6 (R8 fun x=>List.all_eq_true.1 (h x))
end Go.CE
