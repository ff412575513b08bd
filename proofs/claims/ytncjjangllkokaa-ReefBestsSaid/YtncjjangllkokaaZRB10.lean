/- TW 7: heads and ends of runs with trees; contracts. -/
import Derived.Test.YtncjjangllkokaaZRB09
import Derived.Deep.Slices
import Derived.Carry
import Derived.WideShapes
import Derived.ChangeShapes
import Derived.SevenTiedAt
set_option linter.all false
open List renaming getElem?_eq_none->LA,getElem?_cons_zero->Lq,getElem?_map->Lx,mem_of_getElem? ->Lk,getElem?_toArray->LU,flatMap_cons->LY,getElem?_append_left->Lz,getElem?_append_right->Lp,range->Le,mem_cons_of_mem->Lj,getD_eq_getElem?_getD->Li,getElem?_eq_getElem->L7,length_append->Ls,getD->Ln,replicate->Lu,mem_append_left->Lg,mem_append_right->Lt
open Nat renaming ble->LI,beq->Lf,lt_or_ge->LF,le_refl->Lw,zero_add->Lv,blt->Ll
open Option renaming map_some->LG
open Array renaming mem_of_getElem? ->LJ,getElem?_eq_none->L5
open Inhabited renaming default->La
namespace Go.CE
open Go Go.RowKit

def Zd:Qm:=[(0,QV)]
def Q9(objs:List Obj):Qm:=(0,QV)::(1,QV)::QL 2 objs
theorem re(objs:List Obj)(j:Nat):Qq (Q9 objs) j=if j=0 then some QV else if j=1 then some QV else objs[j-2]? :=by
 unfold Q9;rw[QU,QU,Vo];by_cases h0:j=0
 ·simp[h0]
 ·by_cases h1:j=1
  ·simp[h1]
  ·rw[if_neg h0,if_neg h1,if_pos (by omega),if_neg h0,if_neg h1]
theorem iz(objs:List Obj):Under (Q9 objs) (2+objs.length):=fun i hi=>by
 rw[re,if_neg (by omega),if_neg (by omega),LA (by omega)]
def TA(H:Qm)(m:Nat)(pos:Nat->Option Nat)(fz:List Fz):List (Nat×KS)->Option (List Obj×List Prop)
 |[]=>some ([],[])
 |(k,s)::l=>match coO H m pos fz (Qq H k) s with
  |some (o,L)=>match TA H m pos fz l with
   |some (os,L2)=>some (o::os,L++L2)
   |none=>none
  |none=>none
structure Qad where
 fn:FuncId
 len:Nat
 todo:List Item
 defers:List Nat
 mode:CM
 roundOf:Option Nat
 vals:List Value
 objs:List Obj
 L:List Prop
def HW:Option Obj->Bool
 |some (.cells _ _ (0,0))=>true
 |_=>false
def landM(s:Option ST)(K4:List Nat)(keeps:List (Nat×KS))(fz:List Fz):Option Qad:=match s with
 |some ⟨.at c H n,W,L⟩=>bif W.isEmpty && distinct (keeps.map (·.1)) && (keeps.all fun k=>LI 1 k.1) && (fz.all fun x=>LI 1 x.k && HW (Qq H x.k) && (keeps.all fun k=> !(Lf k.1 x.k)))then
  match rj (tC H 1 (posOf (keeps.map (·.1)) 2) fz 3) (K4.map (Xx c.tmps)),TA H 1 (posOf (keeps.map (·.1)) 2) fz keeps with
  |some (vs,L1),some (os,L2)=>some ⟨c.fn,c.tmps.len,c.todo,c.defers,c.mode,c.roundOf,vs,os,L1++(L2++L)⟩
  |_,_=>none
   else none
 |_=>none
section
variable {P:Program} {F:FuncId->Bool} {J:World->Prop} {B:Lo}
theorem kz{f:Value->Option (Value×List Prop)}:∀(l ts:List Value) (L:List Prop),rj f l=some (ts,L)->ts.length=l.length/\∀(i:Nat) v,ts[i]? =some v->∃u L1,l[i]? =some u/\f u=some (v,L1)/\(Qz L->Qz L1)
 |[],ts,L,h=>by
  simp only[rj,YO,YR]at h;obtain⟨rfl,rfl⟩:=h;exact⟨rfl,fun i v h=>by simp at h⟩
 |v::l,ts,L,h=>by
  simp only[rj]at h;split at h
  ·rename_i t L1 h1;split at h
   ·rename_i ts2 L2 h2;simp only[YO,YR]at h;obtain⟨rfl,rfl⟩:=h;obtain⟨k1,k2⟩:=kz l ts2 L2 h2;refine⟨by simp[k1],fun i u x=> ?_⟩;cases i with
    |zero=>
     simp only[Lq,YO]at x;subst x;exact⟨v,L1,rfl,h1,fun h=>(Xb h).1⟩
    |succ i=>
     obtain⟨u',L',a,b,c⟩:=k2 i u (by simpa using x);exact⟨u',L',by simpa using a,b,fun h=>c (Xb h).2⟩
   ·cases h
  ·cases h
theorem K1{H:Qm}{m:Nat}{pos:Nat->Option Nat}{fz:List Fz}:∀(l:List (Nat×KS)) (os:List Obj) (L:List Prop),TA H m pos fz l=some (os,L)->os.length=l.length/\∀(i:Nat) o,os[i]? =some o->∃k s L1,l[i]? =some (k,s)/\coO H m pos fz (Qq H k) s=some (o,L1)/\(Qz L->Qz L1)
 |[],os,L,h=>by
  simp only[TA,YO,YR]at h;obtain⟨rfl,rfl⟩:=h;exact⟨rfl,fun i v h=>by simp at h⟩
 |(k,s)::l,os,L,h=>by
  simp only[TA]at h;split at h
  ·rename_i t L1 h1;split at h
   ·rename_i ts2 L2 h2;simp only[YO,YR]at h;obtain⟨rfl,rfl⟩:=h;obtain⟨k1,k2⟩:=K1 l ts2 L2 h2;refine⟨by simp[k1],fun i u x=> ?_⟩;cases i with
    |zero=>
     simp only[Lq,YO]at x;subst x;exact⟨k,s,L1,rfl,h1,fun h=>(Xb h).1⟩
    |succ i=>
     obtain⟨k',s',L',a,b,c⟩:=k2 i u (by simpa using x);exact⟨k',s',L',by simpa using a,b,fun h=>c (Xb h).2⟩
   ·cases h
  ·cases h
theorem TR.merge{μ' μ1:Mu}{T':Tm}{A:Array Value}{len:Nat}{live:List (Nat×Value)}(h:TR μ' T' A)(hlen:T'.len=len)(hl:len<=16000)(hlive:∀p∈live,∀v',VR μ' (Xx T' p.1) v'->VR μ1 p.2 v')
 {d:Nat->Value} (hd:∀t,Xh (d t)/\∀μ v',VR μ (Xx T' t) v'->VR μ (d t) v'):TR μ1 (Ms len live d) A:=by
 refine⟨hlen ▸ h.1,fun t=> ?_⟩;rw[NQ hl];have ht:=h.2 t;split
 ·rcases Aj live t (d t)with e|⟨v,hv,e⟩
  ·rw[e];exact(hd t).1 μ' μ1 _ ((hd t).2 μ' _ ht)
  ·rw[e];exact hlive _ hv _ ht
 ·rename_i Xi;have:A.getD t undef=undef:=by
   have:A.size<=t:=by rw[<-h.1,hlen];omega
   simp[this]
  rw[this];exact VR.undef
theorem GoE.landM{c0 c:CF}{H:Qm}{n:Nat}(hF:∀g,F g=true->Q0 P g=true)(hJ:∀w,B.has w->J w)(XP:P.follows .mixedOrders=true)(h:GoE P B c0 Zd 1 c H n []){fuel:Nat}{sc:QA}{f:FuncId}{len:Nat}{todo:List Item}{K4:List Nat}{keeps:List (Nat×KS)}{fz:List Fz}{vs:List Value}{os:List Obj}{L:List Prop}
 (e:CE.landM (Qn P F J B fuel 1 c H n sc 0 [] []) K4 keeps fz=some ⟨f,len,todo,[],.run,none,vs,os,L⟩) (hL:Qz L) (hlen:LI len 16000=true) (T4:todo.all WJ=true):
 ∃d:Nat->Value,(∀t,Xh (d t))/\GoE P B c0 Zd 1 (QC f len (K4.zip vs) d todo) (Q9 os) (2+os.length) []:=by
 unfold CE.landM at e;split at e
 ·rename_i c' H' n' W' L' hs;have e:=e;cases hq:(W'.isEmpty && distinct (keeps.map (·.1)) && (keeps.all fun k=>LI 1 k.1) && (fz.all fun x=>LI 1 x.k && HW (Qq H' x.k) && (keeps.all fun k=> !(Lf k.1 x.k))))with
  |false=>rw[hq]at e;cases e
  |true=>
   rw[hq]at e;simp only[cond_true]at e;split at e
   ·rename_i vs0 L1 os0 L2 hvs hos;simp only[YO,Qad.mk.injEq]at e;obtain⟨e1,e2,e3,e4,e5,e6,rfl,rfl,rfl⟩:=e;obtain⟨hL1,hL23⟩:=Xb hL;obtain⟨hL2,hL3⟩:=Xb hL23;simp only[YB]at hq;obtain⟨⟨⟨hW,hdist⟩,PS⟩,hfz⟩:=hq;have hWe:W'=[]:=by simpa using hW
    subst hWe;obtain⟨R,W2,PH,hiff⟩:=Wa hF hJ XP fuel 1 c H n sc 0 [] [] _ h.under hs hL3;have hg:=(h.step PH).lists (W1:=[]) (fun i hi=>by
     have:=hiff i hi;simp only[List.not_mem_nil,false_or]at this;simp[<-this])
    have hd:∀t,∃d,Xh d/\∀μ v',VR μ (Xx c'.tmps t) v'->VR μ d v':=fun t=>KH _
    have hlenos:=(K1 keeps os0 L2 hos).1;refine⟨fun t=>Classical.choose (hd t),fun t=>(Classical.choose_spec (hd t)).1,iz _,by omega,fun Z μ w fr cs Q7 hB hf X8=> ?_⟩;obtain⟨fr',w',μ',hp,J5,a,b,XZ⟩:=hg.sem Z μ w fr cs Q7 hB hf X8;let ρ:Nat->Nat:=fun i=>if i=0 then 0 else((keeps.map (·.1))[i-2]?).getD i
    have hρ:∀i k,2<=i->(keeps.map (·.1))[i-2]? =some k->ρ i=k:=fun i k hi hk=>by
     show(if i=0 then 0 else((keeps.map (·.1))[i-2]?).getD i)=k;rw[if_neg (by omega),hk];rfl
    have get:∀i,1<i->i<2+os0.length->∃k,(keeps.map (·.1))[i-2]? =some k/\ρ i=k/\1<=k:=by
     intro i h1 h2;have Xi:i-2<keeps.length:=by omega
     refine⟨(keeps[i-2]).1,by simp[Xi],hρ i _ (by omega) (by simp[Xi]), ?_⟩;exact YL (List.all_eq_true.1 PS _ (List.getElem_mem Xi))
    let im1:c7:=⟨0,0,0,false,Yo μ' H' w' (J7 H' n'++fz.map (·.k))⟩
    let μ1:=jM 1 (2+os0.length) ρ μ μ' (Yo μ' H' w' (J7 H' n'++fz.map (·.k)))
    have hco:yM H' 1 (posOf (keeps.map (·.1)) 2) fz μ' μ1 w' n' (fz.map (·.k)) im1:=by
     refine⟨⟨B.B,_,hp.ok,fun i hi=> ?_⟩,hg.under,fun k j hj=> ?_, ?_,rfl,fun x hx=>List.mem_map.2 ⟨x,hx,rfl⟩⟩
     ·rcases LF i 1 with h|h
      ·exact .inl h
      ·exact .inr ⟨h,hi⟩
     ·obtain⟨h1,h2⟩:=Tn _ _ _ _ hj;have Xi:j-2<keeps.length:=by
       have:=(List.getElem?_eq_some_iff.1 h2).1;simpa using this
      show jM 1 (2+os0.length) ρ μ μ' _ j=μ' k;unfold jM;rw[if_neg (by omega),if_pos ⟨by omega,by omega⟩,hρ j k h1 h2]
     ·show jM 1 (2+os0.length) ρ μ μ' _ 1=some im1;unfold jM;rw[if_pos rfl]
    have hkeeps:AN 1 n' (2+os0.length) [] μ μ' Zd H' (Q9 os0) w' ρ (fz.map (·.k)):=by
     refine⟨by omega,fun i hi=> ?_,fun i h1 h2=> ?_,fun i j h1 h2 h3 h4 h5=> ?_,iz _,fun i hi _=> ?_, ?_,fun i o1 hi hc ho=> ?_,fun k hk=> ?_⟩
     ·have:i=0:=by omega
      subst this;rfl
     ·obtain⟨k,hk,hk2,hk3⟩:=get i h1 h2;refine⟨by omega, ?_⟩;rw[hk2];have Xi:i-2<os0.length:=by omega
      obtain⟨k',s,L',ha,hb,hc⟩:=(K1 keeps os0 L2 hos).2 (i-2) os0[i-2] (by simp[Xi]);have:k'=k:=by
       rw[Lx,ha]at hk;simpa using hk
      subst this;obtain⟨⟨x,hx⟩,_⟩:=SH hco hb (hc hL2);exact hg.under.lt hx
     ·obtain⟨k,hk,hk2,_⟩:=get i h1 h2;obtain⟨k',hk',hk2',_⟩:=get j h3 h4;rw[hk2,hk2']at h5;subst h5;have:=JI hdist _ _ _ hk hk';omega
     ·have:i=0:=by omega
      subst this;rfl
     ·rfl
     ·have h1i:1<i:=hc.elim id fun h=>by simp at h
      rw[re,if_neg (by omega),if_neg (by omega)]at ho;obtain⟨k,s,L',ha,hb,hc'⟩:=(K1 keeps os0 L2 hos).2 (i-2) o1 ho;obtain⟨_,hnr,T5⟩:=SH hco hb (hc' hL2);refine⟨hnr,fun hl1=> ?_⟩;obtain⟨x,hx,hl,ZQ⟩:=T5 hl1;refine⟨x, ?_,hl,fun im _ h=>ZQ im h⟩;rw[hρ i k (by omega) (by rw[Lx,ha];rfl)];exact hx
     ·obtain⟨x,hx,rfl⟩:=List.mem_map.1 hk;have:=List.all_eq_true.1 hfz x hx;simp only[YB]at this;obtain⟨⟨q1,q2⟩,q3⟩:=this;have hown:∃o,Qq H' x.k=some o/\live o:=by
       unfold HW at q2;split at q2
       ·rename_i ho;exact⟨_,ho,trivial⟩
       ·cases q2
      obtain⟨o,ho,hl⟩:=hown;refine⟨YL q1,hg.under.lt ho,⟨o,ho,hl⟩,fun i h1 h2 hr=> ?_⟩;obtain⟨k,hk,hk2,_⟩:=get i h1 h2;rw[hk2]at hr;rw[Lx]at hk;cases hy:keeps[i-2]? with
      |none=>rw[hy]at hk;cases hk
      |some y=>
       rw[hy]at hk;simp only[LG,YO]at hk;have:=List.all_eq_true.1 q3 y (Lk hy);rw[hk,hr]at this;simp at this
    have XE:=hp.merge Q7 hf hkeeps;have hpans:c'.mode.pans=false:=by rw[e5];rfl
    refine⟨fr',w',_,XE,⟨by rw[J5.fn,e1];rfl, ?_,fun _=>(e3 ▸ J5.todo hpans).plain T4, ?_, ?_,J5.kind, ?_⟩,a,b,XZ⟩
    ·refine J5.tmps.merge e2 (YL hlen) (fun p hp v' hv=> ?_) fun t=>Classical.choose_spec (hd t)
     obtain⟨i,hi⟩:=List.getElem?_of_mem hp;rw[List.getElem?_zip_eq_some]at hi;obtain⟨hi1,hi2⟩:=hi;obtain⟨u,L',ha,hb,hc⟩:=(kz _ _ _ hvs).2 i p.2 hi2;rw[Lx,hi1]at ha;simp only[LG,YO]at ha;subst ha;exact VX hco 3 _ _ _ _ hb (hc hL1) hv
    ·have:=J5.defers;rw[e4]at this;exact .of_empty this.empty
    ·have:=J5.mode;rw[e5]at this;generalize fr'.mode=ds at this;cases this;exact .run
    ·have:=J5.round;rw[e6]at this;generalize fr'.roundOf=x at this;cases x with
     |none=>trivial
     |some x=>cases this
   ·cases e
 ·cases e
def Xv(s:Option ST)(fz:List Fz):Option (Value×List Prop):=match s with
 |some ⟨.fin (.ret v) H _,W,L⟩=>bif W.isEmpty then match VY H fz 3 v with
  |some (t,_,L2)=>some (t,L2++L)
  |none=>none
   else none
 |_=>none
def EndsT(P:Program)(B:Lo)(c0:CF)(out:Value):Prop:=
 ∀(μ:Mu) (w:World) (fr:Frame) (cs:List Frame) (im:c7),Ok B (fun i=>i<1) μ (Qq Zd) w->B.has w->(∀i,1<=i->μ i=none)->μ 0=some im->FrR Bot.no μ c0 fr->
  ∃v' w',Below w.heap.size w w'/\TRv (RA im.fm w w') out v'/\EndsAs P fr cs w (.ret v') w'
theorem GoE.endsT{c0 c:CF}{H:Qm}{n:Nat}(hF:∀g,F g=true->Q0 P g=true)(hJ:∀w,B.has w->J w)(XP:P.follows .mixedOrders=true)(h:GoE P B c0 Zd 1 c H n []){fuel:Nat}{sc:QA}{fz:List Fz}{out:Value}{L:List Prop}
 (e:Xv (Qn P F J B fuel 1 c H n sc 0 [] []) fz=some (out,L)) (hL:Qz L):EndsT P B c0 out:=by
 unfold Xv at e;split at e
 ·rename_i v H' n' W' L' hs;cases hW:W'.isEmpty with
  |false=>rw[hW]at e;cases e
  |true=>
   rw[hW]at e;simp only[cond_true]at e;split at e
   ·rename_i t R2 L2 XZ;simp only[YO,YR]at e;obtain⟨rfl,rfl⟩:=e;obtain⟨hL2,hL1⟩:=Xb hL;have hWe:W'=[]:=by simpa using hW
    subst hWe;obtain⟨R,W2,hfj,hiff⟩:=Wa hF hJ XP fuel 1 c H n sc 0 [] [] _ h.under hs hL1;intro μ w fr cs im Q7 hB hf QD X8;obtain⟨XW,w',μ',hp,ho,he⟩:=h.fj hfj μ w fr cs Q7 hB hf X8;have hnoW:∀i,i∈[]++W2->¬i<1:=fun i hi Xi=>by
     have:=(hiff i Xi).2 (.inr (by simpa using hi));simp at this
    have T7:Below w.heap.size w w':=⟨hp.os,hp.tape,hp.output,hp.grow,fun b hb=>hp.frame b hb fun i hi hl=>absurd hl (hnoW i hi)⟩
    cases ho with
    |ret Vp=>
     rename_i v';refine⟨v',w',T7, ?_,he⟩;have hu':Under H' n':=h.under.shape hfj.shape;have hle:=hp.le
     -- of what is looked at, all is there
     have Uc:∀r,(Qq H' r).isSome->r<1\/1<=r/\r<n':=fun r hr=>by
      have:r<n':=by
       cases hg:Qq H' r with
       |none=>rw[hg]at hr;cases hr
       |some o=>exact hu'.lt hg
      omega
     have hok2:Ok B.B (fun _=>True) μ' (Qq H') w':=
      ⟨fun i o _ ho=>hp.ok.rel i o (Uc i (by rw[ho];rfl)) ho,fun i o im _ ho=>hp.ok.low i o im (Uc i (by rw[ho];rfl)) ho,
       fun i j oi oj a b _ _ Rm ZZ ZY=>hp.ok.inj i j oi oj a b (Uc i (by rw[ZZ];rfl)) (Uc j (by rw[ZY];rfl)) Rm ZZ ZY,
       fun i o _ ho=>hp.ok.Jv i o (Uc i (by rw[ho];rfl)) ho,fun i j oi oj a b x _ _ ZZ ZY=>hp.ok.sep i j oi oj a b x (Uc i (by rw[ZZ];rfl)) (Uc j (by rw[ZY];rfl)) ZZ ZY⟩
     refine(KO hok2 3 v v' t R2 L2 XZ hL2 (fun _ _=>trivial) Vp).mono fun b x hx=> ?_
     have hw:=WL hx;unfold Yo at hx;split at hx
     ·rename_i hc;obtain⟨i,_,o,im2,hio,Wz,UP⟩:=hc;have hi:=Uc i (by rw[hio];rfl);have old0:∀i,i<1->i=0:=fun i h=>by omega
      have keep0:Qq H' 0=some QV:=by
       rw[hp.keep 0 (by omega) fun e=>hnoW 0 e (by omega)];rfl
      have mu0:μ' 0=some im:=by rw[hp.ext 0 (by omega)];exact QD
      have below:b<w.heap.size->im.fm b=some x->RA im.fm w w' b=some x:=fun h1 h2=>by unfold RA;rw[if_pos h1];exact h2
      have above:w.heap.size<=b->RA im.fm w w' b=some x:=fun h1=>by unfold RA;rw[if_neg (by omega)];exact hw
      have from0:im.fm b=some x->RA im.fm w w' b=some x:=fun h=>by
       refine below ?_ h;exact Jx Q7 (i:=0) (o:=QV) (show 0<1 by omega) rfl trivial QD h
      rcases UP with ⟨WA,Kz⟩|⟨hl,hb⟩
      ·cases hfx:im2.fm b with
       |none=>exact absurd hfx Kz
       |some y=>
        obtain⟨im3,him3,hf3⟩:=hp.ok.Jv i o hi hio WA;rw[Wz]at him3;cases him3;have:=hf3 b y hfx;rw[hw]at this;cases this;rcases hi with hi|hi
        ·rw[old0 i hi,mu0]at Wz;cases Wz;exact from0 hfx
        ·rcases hp.rf i im2 o (.inl hi) hio WA Wz b x hfx with c|⟨k,Ui,ko,hk,_,hko,_,T6,hkb⟩|⟨k,hk,hkn,_⟩
         ·exact above c
         ·rw[old0 k hk,QD]at T6;cases T6;exact from0 hkb
         ·exact absurd hkn (hnoW k hk)
      ·rcases hi with hi|hi
       ·rw[old0 i hi,keep0]at hio;cases hio;exact hl.elim
       ·rcases(hp.fresh i im2 o hi.1 hi.2 hio hl Wz).2 with c|⟨k,hk,hkn,_⟩
        ·exact above (by omega)
        ·exact absurd hkn (hnoW k hk)
     ·cases hx
   ·cases e
 ·cases e
theorem Xd{g:FuncId}{ts:List Value}{out:Value}{c0:CF}(XZ:∀w w':World,(∀b,b<w.heap.size->w'.heap[b]? =w.heap[b]?)->J w->J w')(hc:Wi P g (ts.map (Q4 0 4)).toArray=some c0)(Q7:(ts.all (s8 4))=true)
 (h:∀B:Lo,(∀w,B.has w->J w)->EndsT P B c0 out):Qv P J g ts.toArray out:=by
 intro fm w args' hJ hfm hargs cs;let B:Lo:=⟨w.heap.size,fun w'=> ∀b,b<w.heap.size->w'.heap[b]? =w.heap[b]?,fun _ _ h hi b hb=>(h b hb).trans (hi b hb)⟩
 have hB:B.has w:=⟨Lw _,fun _ _=>rfl⟩
 let im:c7:=⟨0,0,0,false,fm⟩
 let μ:Mu:=fun i=>if i=0 then some im else none
 have hOk:Ok B.B (fun i=>i<1) μ (Qq Zd) w:=by
  have only:∀i o,Qq Zd i=some o->i=0/\o=QV:=by
   intro i o h;simp only[Zd,QU,Qq]at h;split at h
   ·rename_i e;exact⟨e,by simpa using h.symm⟩
   ·cases h
  refine⟨fun i o _ ho hl=> ?_,fun i o im _ ho hl=> ?_,fun i j oi oj a b _ _ _ ho _ hl=> ?_,fun i o _ ho _=> ?_,fun i j oi oj a b x _ _ _ ho _ hl=> ?_⟩
  ·rw[(only i o ho).2]at hl;exact hl.elim
  ·rw[(only i o ho).2]at hl;exact hl.elim
  ·rw[(only i oi ho).2]at hl;exact hl.elim
  ·exact⟨im,by rw[(only i o ho).1];rfl,hfm⟩
  ·rw[(only j oj ho).2]at hl;exact hl.elim
 have hv:VRs μ (ts.map (Q4 0 4)).toArray args':=by
  refine⟨by simpa using hargs.1,fun i v v' hv ZW=> ?_⟩;simp only[LU,Lx]at hv;cases ht:ts[i]? with
  |none=>rw[ht]at hv;cases hv
  |some t=>
   rw[ht]at hv;simp only[LG,YO]at hv;subst hv;exact Se (im:=im) rfl 4 t v' (List.all_eq_true.1 Q7 t (Lk ht)) (hargs.2 i t v' (by simpa using ht) ZW)
 obtain⟨v',w',hb,ht,he⟩:=h B (fun w' h=>XZ w w' h.inv hJ) μ w (Frame.enter P g args' .normal) cs im hOk hB (fun i hi=>by show(if i=0 then _ else _)=_;rw[if_neg (by omega)]) rfl (U8 hc hv);obtain⟨frE,h1,h2,h3⟩:=he.1 rfl;exact⟨.returned v',w',frE,⟨v',rfl,hb,ht⟩,h1,h2,h3⟩
theorem GoE.start{c0:CF}:GoE P B c0 Zd 1 c0 Zd 1 []:=GoE.refl (fun i hi=>by simp only[Zd,QU,Qq];rw[if_neg (by omega)])
end
end Go.CE

namespace Go.CE
open Go Go.RowKit

def Qe{α:Type}(e:α->List Value)(xs:List α):Array Value:=(xs.flatMap e).toArray
def Qy(n:Int):List Value:=[.int .i64 n]
abbrev X7(xs:List Int):Value:=Xo xs.length (Qe Qy xs)
section
variable {α:Type} {e:α->List Value} {z:Nat} {xs:List α}
theorem jj(h:∀x,(e x).length=z):∀xs:List α,(xs.flatMap e).length=xs.length*z
 |[]=>by simp
 |x::xs=>by simp[h,jj h xs,Nat.add_mul,Nat.add_comm]
theorem QZ(h:∀x,(e x).length=z):(Qe e xs).size=xs.length*z:=by simp[Qe,jj h]
theorem flat_get(h:∀x,(e x).length=z):∀(xs:List α) (k j:Nat) (x:α),j<z->xs[k]? =some x->(xs.flatMap e)[k*z+j]? =(e x)[j]?
 |[],k,j,x,hj,hk=>by simp at hk
 |y::xs,0,j,x,hj,hk=>by
  simp only[Lq,YO]at hk;subst hk;simp only[LY,Nat.zero_mul,Lv];rw[Lz (by rw[h];exact hj)]
 |y::xs,k+1,j,x,hj,hk=>by
  simp only[LY];rw[Lp (by rw[h,Nat.add_mul];omega),h,show(k+1)*z+j-z=k*z+j by rw[Nat.add_mul];omega];exact flat_get h xs k j x hj (by simpa using hk)
theorem dz[Inhabited α](h:∀x,(e x).length=z){k j:Nat}(hk:k<xs.length)(hj:j<z):(Qe e xs)[k*z+j]? =(e (xs.getD k La))[j]? :=by
 have hx:xs[k]? =some (xs.getD k La):=by simp[hk]
 simp only[Qe,LU];exact flat_get h xs k j _ hj hx
theorem Bb[Inhabited α](h:∀x,(e x).length=z){k j:Nat}{v:Value}(hk:k<xs.length)(hv:(e (xs.getD k La))[j]? =some v):(Qe e xs)[k*z+j]? =some v:=by
 have hj:j<z:=by rw[<-h (xs.getD k La)];exact(List.getElem?_eq_some_iff.1 hv).1
 rw[dz h hk hj,hv]
theorem rF[Inhabited α](h:∀x,(e x).length=z){k:Nat}(hk:k<xs.length):(Qe e xs).extract (k*z) (k*z+z)=(e (xs.getD k La)).toArray:=by
 have Zi:=QZ (xs:=xs) h;have hle:k*z+z<=xs.length*z:=by
  have:=Nat.mul_le_mul_right z (show k+1<=xs.length by omega);rw[Nat.add_mul,Nat.one_mul]at this;exact this
 refine Array.ext (by simp[Zi,h];omega) fun i h1 h2=> ?_
 have hi:i<z:=by simpa[h]using h2
 have a:=dz (xs:=xs) h hk hi;rw[Array.getElem_extract];have b:(Qe e xs)[k*z+i]? =some ((Qe e xs)[k*z+i]'(by rw[Zi];omega)):=by simp
 have c:(e (xs.getD k La))[i]? =some ((e (xs.getD k La)).toArray[i]'h2):=by simp
 rw[b,c]at a;exact Option.some.inj a
theorem XH{x:α}:Qe e xs++(e x).toArray=Qe e (xs++[x]):=by simp[Qe]
theorem K5(h:∀x,∀v∈e x,simple v=true):∀v∈Qe e xs,simple v=true:=fun v hv=>by
 simp only[Qe,List.mem_toArray,List.mem_flatMap]at hv;obtain⟨x,_,hx⟩:=hv;exact h x v hx
theorem X2{rs:List Nat}(h:∀x,∀v∈e x,simple v=true):X1 rs (Qe e xs) (Qe e xs):=Wy (Array.all_eq_true'.2 (K5 h))
theorem yx{x:α}(h:∀x,(e x).length=z):∀(xs:List α) (k i:Nat),k<xs.length->((xs.set k x).flatMap e)[i]? =if k*z<=i/\i<k*z+z then(e x)[i-k*z]? else(xs.flatMap e)[i]?
 |[],k,i,hk=>by simp at hk
 |y::xs,0,i,hk=>by
  simp only[List.set_cons_zero,LY,Nat.zero_mul,Lv,Nat.zero_le,true_and,Nat.sub_zero];by_cases hi:i<z
  ·rw[if_pos hi,Lz (by rw[h];exact hi)]
  ·rw[if_neg hi,Lp (by rw[h];omega),Lp (by rw[h];omega),h,h]
 |y::xs,k+1,i,hk=>by
  simp only[List.set_cons_succ,LY];by_cases hi:i<z
  ·rw[Lz (by rw[h];exact hi),if_neg (by rw[Nat.add_mul];omega),Lz (by rw[h];exact hi)]
  ·rw[Lp (by rw[h];omega),Lp (by rw[h];omega),h,yx h xs k (i-z) (by simpa using hk)];by_cases hc:k*z<=i-z/\i-z<k*z+z
   ·rw[if_pos hc,if_pos (by rw[Nat.add_mul];omega),show i-z-k*z=i-(k+1)*z by rw[Nat.add_mul];omega]
   ·rw[if_neg hc,if_neg (by rw[Nat.add_mul];omega)]
theorem uE{x:α}(h:∀x,(e x).length=z){k:Nat}(hk:k<xs.length):k*z+z<=(Qe e xs).size/\splice (Qe e xs) (k*z) (e x).toArray=Qe e (xs.set k x):=by
 have Zi:=QZ (xs:=xs) h;have hle:k*z+z<=xs.length*z:=by
  have:=Nat.mul_le_mul_right z (show k+1<=xs.length by omega);rw[Nat.add_mul,Nat.one_mul]at this;exact this
 refine⟨by rw[Zi];exact hle,Array.ext_getElem? fun i=> ?_⟩;have a:(Qe e (xs.set k x))[i]? =((xs.set k x).flatMap e)[i]? :=by simp[Qe]
 have b:(Qe e xs)[i]? =(xs.flatMap e)[i]? :=by simp[Qe]
 rw[a,yx h xs k i hk,<-b];rw[Pg (by rw[Zi];simp[h];exact hle)];simp[h]
end
theorem TRv.len'{fm:Nat->Option Obj}{n:Nat}{cs:Array Value}{v':Value}(h:TRv fm (Xo n cs) v'):n<=maxLen:=by
 rcases h.slice_inv with ⟨_,_,_,_,_,_,_,h1,h2,_⟩|⟨rfl,_⟩
 ·omega
 ·exact Nat.zero_le _
theorem QaS{a b:Int}(h:a≠b):(!TO a b)=true:=by rw[TJ h];rfl
theorem zP{a b:Int}(h:a=b):(!TO a b)=false:=by rw[TI h];rfl
theorem XL{m:Nat}{rs:List Nat}{cs:Array Value}(h:cs.all simple=true):QE m rs cs cs:=RB fun v hv=>Array.all_eq_true'.1 h v hv
theorem M8{α:Type}{e:α->List Value}{z:Nat}{xs:List α}(h:∀x,(e x).length=z){k:Nat}(hk:k<xs.length){x:α}{cs:Array Value}(hc:cs=(e x).toArray):k*z+z<=(Qe e xs).size/\splice (Qe e xs) (k*z) cs=Qe e (xs.set k x):=by
 rw[hc];exact uE h hk
theorem EndsT.cast{P:Program}{B:Lo}{c0:CF}{a b:Value}(h:EndsT P B c0 a)(e:a=b):EndsT P B c0 b:=e ▸ h
theorem TRvs.len{fm:Nat->Option Obj}{ts args:Array Value}(h:TRvs fm ts args){i n:Nat}{cs:Array Value}(hi:ts[i]? =some (Xo n cs)):n<=maxLen:=by
 have Xi:i<args.size:=h.1 ▸ (Array.getElem?_eq_some_iff.1 hi).1;exact TRv.len' (h.2 i _ args[i] hi (by simp[Xi]))
theorem TRvs.len2{fm:Nat->Option Obj}{ts args:Array Value}(h:TRvs fm ts args){i j n:Nat}{xs cs:Array Value}(hi:ts[i]? =some (.agg xs))(hj:xs[j]? =some (Xo n cs)):n<=maxLen:=by
 have Xi:i<args.size:=h.1 ▸ (Array.getElem?_eq_some_iff.1 hi).1;have ht:=h.2 i _ args[i] hi (by simp[Xi]);generalize args[i]=v at ht;cases ht with
 |simple h=>cases h
 |agg h1 h2=>
  rename_i ys;have Xi:j<ys.size:=h1 ▸ (Array.getElem?_eq_some_iff.1 hj).1;exact TRv.len' (h2 j _ ys[j] hj (by simp[Xi]))
theorem TRvs.ln{fm:Nat->Option Obj}{ts args:Array Value}(h:TRvs fm ts args){i n:Nat}{cs:Array Value}(hi:ts[i]? =some (Xo n cs)):n<=9223372036854775807:=by
 have:=h.len hi;unfold maxLen at this;omega
theorem TRvs.ln2{fm:Nat->Option Obj}{ts args:Array Value}(h:TRvs fm ts args){i j n:Nat}{xs cs:Array Value}(hi:ts[i]? =some (.agg xs))(hj:xs[j]? =some (Xo n cs)):n<=9223372036854775807:=by
 have:=h.len2 hi hj;unfold maxLen at this;omega
section
variable {α:Type} [Inhabited α] {f:α->Bool} {xs:List α} {i:Int}
omit [Inhabited α]in
end
def PQ(a b:Int):List Int:=(Le (b-a).toNat).map fun(k:Nat)=>a+(k:Int)
theorem E6{a b:Int}(h:a<b):PQ a b=a::PQ (a+1) b:=by
 unfold PQ;obtain⟨m,hm⟩:∃m:Nat,(b-a).toNat=m+1:=⟨(b-a).toNat-1,by omega⟩
 rw[hm,show(b-(a+1)).toNat=m by omega,List.range_succ_eq_map];simp only[List.map_cons,List.map_map,Int.ofNat_zero,Int.add_zero,Int.cast_ofNat_Int];congr 1;apply List.map_congr_left;intro k _;simp only[Function.comp_apply,Nat.succ_eq_add_one];omega
theorem AS{a b:Int}(h:b<=a):PQ a b=[]:=by
 unfold PQ;rw[show(b-a).toNat=0 by omega];rfl
theorem Sf{P:Program}{J:World->Prop}{g:FuncId}{ts:List Value}{out:Value}{c0:CF}(facts:Prop)(WH:∀fm args',TRvs fm ts.toArray args'->facts)(XZ:∀w w':World,(∀b,b<w.heap.size->w'.heap[b]? =w.heap[b]?)->J w->J w')(hc:Wi P g (ts.map (Q4 0 4)).toArray=some c0)(Q7:(ts.all (s8 4))=true)
 (h:facts->∀B:Lo,(∀w,B.has w->J w)->EndsT P B c0 out):Qv P J g ts.toArray out:=fun fm w args' hJ hfm hargs=>Xd XZ hc Q7 (h (WH fm args' hargs)) fm w args' hJ hfm hargs
def tY(rs:List Nat):List Value->List Value->Prop
 |[],[]=>True
 |v::l,v1::l1=>pj rs v v1/\tY rs l l1
 |_,_=>False
theorem dc{rs:List Nat}:∀{l l1:List Value},tY rs l l1->l.length=l1.length/\∀(i:Nat) v v1,l[i]? =some v->l1[i]? =some v1->pj rs v v1
 |[],[],_=>⟨rfl,fun i v v1 h=>by simp at h⟩
 |v::l,v1::l1,h=>⟨by simp[(dc h.2).1],fun i u u1 h1 h2=>by
   cases i with
   |zero=>simp at h1 h2;subst h1;subst h2;exact h.1
   |succ i=>exact(dc h.2).2 i u u1 (by simpa using h1) (by simpa using h2)⟩
theorem A3{rs:List Nat}{l l1:List Value}(h:tY rs l l1):X1 rs l.toArray l1.toArray:=by
 obtain⟨h1,h2⟩:=dc h
 first
 |exact⟨by simp[h1],fun i v v1 a b=>h2 i v v1 (by simpa using a) (by simpa using b)⟩
def unC(rs:List Nat)(v:Value):Option Value:=bif simple v then some v else match v with
 | .func (.via r ⟨[]⟩ 0 true) ⟨[t]⟩ ⟨[]⟩=>bif rs.contains r && WE t then some t else none
 |_=>none
def unL(rs:List Nat):List Value->Option (List Value)
 |[]=>some []
 |v::l=>match unC rs v,unL rs l with
  |some t,some ts=>some (t::ts)
  |_,_=>none
theorem Qam{rs:List Nat}{v t:Value}(h:unC rs v=some t):pj rs v t:=by
 unfold unC at h;cases hs:simple v with
 |true=>
  rw[hs]at h;simp only[cond_true,YO]at h;exact .inl ⟨hs,h.symm⟩
 |false=>
  rw[hs]at h;simp only[cond_false]at h;split at h
  ·rename_i r t0;cases hq:(rs.contains r && WE t0)with
   |false=>rw[hq]at h;cases h
   |true=>
    rw[hq]at h;simp only[cond_true,YO]at h;subst h;simp only[YB,List.contains_iff_mem]at hq;exact .inr ⟨r,hq.1,rfl,hq.2⟩
  ·cases h
theorem E7{rs:List Nat}:∀{l l1:List Value},unL rs l=some l1->tY rs l l1
 |[],l1,h=>by simp only[unL,YO]at h;subst h;exact trivial
 |v::l,l1,h=>by
  simp only[unL]at h;split at h
  ·rename_i t ts h1 h2;simp only[YO]at h;subst h;exact⟨Qam h1,E7 h2⟩
  ·cases h
theorem SI{rs:List Nat}{l l1:List Value}(h:unL rs l=some l1):X1 rs l.toArray l1.toArray:=A3 (E7 h)
end Go.CE

namespace Go.CE
open Go Go.RowKit

theorem Post.widen{B n n':Nat}{S:Nat->Prop}{W W':List Nat}{μ μ':Mu}{H H':Qm}{w w':World}(Q7:Ok B S μ (Qq H) w)(h:Post B S n n' W μ μ' H H' w w')(hW:∀i,i<n->i∈W->i∈W')(hw:∀i,i<n->i∈W'->S i/\∃o,Qq H i=some o/\live o/\∀im,μ i=some im->im.rw=true):Post B S n n' W' μ μ' H H' w w':=
 ⟨h.ok,h.le,h.ext,fun i hi hw'=>h.keep i hi fun e=>hw' (hW i hi e),h.grow,fun b hb hx=>h.frame b hb fun i hi hl=>hx i (hW i hl hi) hl,fun i hi hl=>by
  obtain⟨hs,o,hg,hl',hr⟩:=hw i hl hi;obtain⟨im,QD,_⟩:=Q7.rel i _ hs hg hl';exact⟨hs,⟨o,hg,hl'⟩,im,QD,hr im QD⟩,fun i im o h1 h2 ho hl hm=>by
  obtain⟨hr,hf⟩:=h.fresh i im o h1 h2 ho hl hm;exact⟨hr,hf.imp id fun⟨k,a,b,d⟩=>⟨k,hW k b a,b,d⟩⟩,fun i im o hi ho hr hm b x hx=>by
  have res:(n<=i/\i<n'\/i∈W/\i<n)->w.heap.size<=b\/(∃k Ui ko,S k/\k<n/\Qq H k=some ko/\Wm ko/\μ k=some Ui/\Ui.fm b=some x)\/∃k,k∈W'/\k<n/\(∃Z4,μ k=some Z4/\Z4.Zq=b)/\∀o,Qq H' k=some o->¬live o:=fun hc=>by
   rcases h.rf i im o hc ho hr hm b x hx with e|e|⟨k,p,q,r⟩
   ·exact .inl e
   ·exact .inr (.inl e)
   ·exact .inr (.inr ⟨k,hW k q p,q,r⟩)
  rcases hi with hi|⟨hi,Xi⟩
  ·exact res (.inl hi)
  ·by_cases J4:i∈W
   ·exact res (.inr ⟨J4,Xi⟩)
   ·obtain⟨_,o',hg,hl,_⟩:=hw i Xi hi;rw[h.keep i Xi J4,hg]at ho;cases ho;exact absurd hl (by cases o <;> first|exact id|exact hr.elim),h.os,h.tape,h.output⟩
def Writable(H0:Qm)(a:Nat)(Wf:List Nat):Prop:=∀i,i<a->i∈Wf->(∃cs t,Qq H0 i=some (.cells cs t (0,0)))\/(∃r,Qq H0 i=some (.loop r))\/(∃es PT,Qq H0 i=some (.map es PT))\/∃ds,Qq H0 i=some (.deferred ds)
def E2(o:Option Obj):Bool:=match o with
 |some (.cells _ _ (0,0))|some (.loop _)|some (.map _ _)|some (.deferred _)=>true
 |_=>false
theorem ud{H0:Qm}{a:Nat}{Wf:List Nat}(h:(Wf.all fun i=>E2 (Qq H0 i))=true):Writable H0 a Wf:=fun i _ hi=>by
 have:=List.all_eq_true.1 h i hi;unfold E2 at this;split at this
 ·rename_i cs t hg;exact .inl ⟨cs,t,hg⟩
 ·rename_i r hg;exact .inr (.inl ⟨r,hg⟩)
 ·rename_i es PT hg;exact .inr (.inr (.inl ⟨es,PT,hg⟩))
 ·rename_i ds hg;exact .inr (.inr (.inr ⟨ds,hg⟩))
 ·cases this
theorem Writable.rw{B:Nat}{μ:Mu}{H0:Qm}{a:Nat}{Wf:List Nat}{w:World}(h:Writable H0 a Wf)(Q7:Ok B (fun i=>i<a) μ (Qq H0) w){i:Nat}(hi:i<a)(hw:i∈Wf):i<a/\∃o,Qq H0 i=some o/\live o/\∀im,μ i=some im->im.rw=true:=by
 rcases h i hi hw with ⟨cs,t,hg⟩|⟨r,hg⟩|⟨es,PT,hg⟩|⟨ds,hg⟩
 ·refine⟨hi,_,hg,trivial,fun im QD=> ?_⟩;obtain⟨Z4,QO,ZQ⟩:=Q7.rel i _ hi hg trivial;rw[QD]at QO;cases QO;rcases ZQ with ⟨_,h,_⟩|⟨h,_⟩
  ·exact h
  ·exact absurd rfl h
 all_goals
  refine⟨hi,_,hg,trivial,fun im QD=> ?_⟩;obtain⟨Z4,QO,ZQ⟩:=Q7.rel i _ hi hg trivial;rw[QD]at QO;cases QO;exact ZQ.1
def XU(ro:Option Nat)(f:FuncId)(len:Nat)(live:List (Nat×Value))(d:Nat->Value)(todo:List Item):CF:=⟨f,Ms len live d,todo,[],.run,ro⟩
def X9(Hb:Qm)(a:Nat)(ws:Qm)(os:List Obj):Qm:=ws++((a,QV)::(QL (a+1) os++Hb))
def cJ(a:Nat)(olds:List Nat)(k:Nat):Option Nat:=bif Ll k a then some k else posOf olds (a+1) k
def y6(H:Qm)(m:Nat)(pos:Nat->Option Nat)(fz:List Fz):List (Nat×KS)->Option (Qm×List Prop)
 |[]=>some ([],[])
 |(k,s)::l=>match coO H m pos fz (Qq H k) s with
  |some (o,L)=>match y6 H m pos fz l with
   |some (os,L2)=>some ((k,o)::os,L++L2)
   |none=>none
  |none=>none
theorem gj{H:Qm}{m:Nat}{pos:Nat->Option Nat}{fz:List Fz}:∀(l:List (Nat×KS)) (ws:Qm) (L:List Prop),y6 H m pos fz l=some (ws,L)->∀i,(Qq ws i=none<->i ∉ l.map (·.1))/\∀o,Qq ws i=some o->∃s L1,coO H m pos fz (Qq H i) s=some (o,L1)/\(Qz L->Qz L1)
 |[],ws,L,h,i=>by
  simp only[y6,YO,YR]at h;obtain⟨rfl,rfl⟩:=h;simp[Qq]
 |(k,s)::l,ws,L,h,i=>by
  simp only[y6]at h;split at h
  ·rename_i t L1 h1;split at h
   ·rename_i ts2 L2 h2;simp only[YO,YR]at h;obtain⟨rfl,rfl⟩:=h;obtain⟨k1,k2⟩:=gj l ts2 L2 h2 i;rw[QU];by_cases e:i=k
    ·subst e;simp only[if_true,List.map_cons,List.mem_cons,true_or,not_true_eq_false,iff_false];exact⟨by simp,fun o ho=>by cases ho;exact⟨s,L1,h1,fun h=>(Xb h).1⟩⟩
    ·rw[if_neg e];refine⟨by rw[k1];simp[e],fun o ho=> ?_⟩;obtain⟨s',L',a,b⟩:=k2 o ho;exact⟨s',L',a,fun h=>b (Xb h).2⟩
   ·cases h
  ·cases h
structure Qae where
 fn:FuncId
 len:Nat
 todo:List Item
 defers:List Nat
 mode:CM
 roundOf:Option Nat
 vals:List Value
 ws:Qm
 objs:List Obj
 L:List Prop
def RH(a:Nat)(H:Qm)(W:List Nat)(wks keeps:List (Nat×KS))(fz:List Fz):Bool:=
 (W.all fun i=>(wks.map (·.1)).contains i) && (wks.all fun k=>Ll k.1 a) && distinct (keeps.map (·.1)) && (keeps.all fun k=>LI a k.1) && (fz.all fun x=>LI a x.k && HW (Qq H x.k) && (keeps.all fun k=> !(Lf k.1 x.k)))
def landA(a:Nat)(s:Option ST)(K4:List Nat)(wks keeps:List (Nat×KS))(fz:List Fz):Option Qae:=match s with
 |some ⟨.at c H n,W,L⟩=>bif RH a H W wks keeps fz then
  match rj (tC H a (cJ a (keeps.map (·.1))) fz 4) (K4.map (Xx c.tmps)),y6 H a (cJ a (keeps.map (·.1))) fz wks,TA H a (cJ a (keeps.map (·.1))) fz keeps with
  |some (vs,L1),some (ws,L3),some (os,L2)=>some ⟨c.fn,c.tmps.len,c.todo,c.defers,c.mode,c.roundOf,vs,ws,os,L1++(L3++(L2++L))⟩
  |_,_,_=>none
   else none
 |_=>none
section
variable {P:Program} {F:FuncId->Bool} {J:World->Prop} {B:Lo} {c0 c:CF} {Hb H:Qm} {a n:Nat} {W Wf:List Nat}
theorem GoE.widen(h:GoE P B c0 Hb a c H n W)(hW:∀i,i<a->i∈W->i∈Wf)(hw:Writable Hb a Wf):GoE P B c0 Hb a c H n Wf:=
 ⟨h.under,h.le,fun Z μ w fr cs Q7 hB hf X8=>by
  obtain⟨fr',w',μ',hp,r⟩:=h.sem Z μ w fr cs Q7 hB hf X8;exact⟨fr',w',μ',hp.widen Q7 hW fun i hi hiW=>hw.rw Q7 hi hiW,r⟩⟩
theorem UI{ws:Qm}{os:List Obj}(i:Nat):Qq (X9 Hb a ws os) i=match Qq ws i with
 |some o=>some o
 |none=>if i=a then some QV else if a<i/\i<a+1+os.length then os[i-(a+1)]? else Qq Hb i:=by
 unfold X9;rw[ZF];cases Qq ws i with
 |some o=>rfl
 |none=>
  simp only;rw[QU];by_cases e:i=a
  ·rw[if_pos e,if_pos e]
  ·rw[if_neg e,if_neg e,ZF,Vo];by_cases h1:a+1<=i
   ·rw[if_pos h1];by_cases h2:i<a+1+os.length
    ·rw[if_pos ⟨by omega,h2⟩];have:i-(a+1)<os.length:=by omega
     simp[this]
    ·rw[if_neg (by omega),LA (by omega)]
   ·rw[if_neg h1,if_neg (by omega)]
theorem TS{ws:Qm}{os:List Obj}(hu:Under Hb a)(hws:∀i o,Qq ws i=some o->i<a):Under (X9 Hb a ws os) (a+1+os.length):=fun i hi=>by
 rw[UI];cases hg:Qq ws i with
 |some o=>have:=hws i o hg;omega
 |none=>simp only;rw[if_neg (by omega),if_neg (by omega)];exact hu i (by omega)
theorem cW{n':Nat}{H':Qm}{μ μ':Mu}{w w':World}{W':List Nat}{wks keeps:List (Nat×KS)}{fz:List Fz}{ws:Qm}{os:List Obj}{L2 L3:List Prop}(hu:Under Hb a)(hw:Writable Hb a (wks.map (·.1)))(hu':Under H' n')(hq:RH a H' W' wks keeps fz=true)
 (Q7:Ok B.B (fun i=>i<a) μ (Qq Hb) w) (hf:∀i,a<=i->μ i=none) (hp:Post B.B (fun i=>i<a) a n' (wks.map (·.1)) μ μ' Hb H' w w')
 (hws:y6 H' a (cJ a (keeps.map (·.1))) fz wks=some (ws,L3)) (hos:TA H' a (cJ a (keeps.map (·.1))) fz keeps=some (os,L2)) (hL3:Qz L3) (hL2:Qz L2):
 ∃μ1 im1,yM H' a (cJ a (keeps.map (·.1))) fz μ' μ1 w' n' (fz.map (·.k)) im1/\Post B.B (fun i=>i<a) a (a+1+os.length) (wks.map (·.1)) μ μ1 Hb (X9 Hb a ws os) w w'/\(∀i,a+1+os.length<=i->μ1 i=none)/\(∀i o,Qq ws i=some o->i<a):=by
 unfold RH at hq;simp only[YB]at hq;obtain⟨⟨⟨⟨hW,hwlt⟩,hdist⟩,PS⟩,hfz⟩:=hq;have wlt:∀i,i∈wks.map (·.1)->i<a:=fun i hi=>by
  obtain⟨k,hk,rfl⟩:=List.mem_map.1 hi;exact YL (List.all_eq_true.1 hwlt k hk)
 have wsget:=gj wks ws L3 hws;have wslt:∀i o,Qq ws i=some o->i<a:=fun i o ho=>by
  refine wlt i (Decidable.of_not_not fun e=> ?_);have:=(wsget i).1.2 e;rw[this]at ho;cases ho
 have hlenos:=(K1 keeps os L2 hos).1;let ρ:Nat->Nat:=fun i=>if i<a then i else((keeps.map (·.1))[i-(a+1)]?).getD i
 have hρ:∀i k,a+1<=i->(keeps.map (·.1))[i-(a+1)]? =some k->ρ i=k:=fun i k hi hk=>by
  show(if i<a then i else((keeps.map (·.1))[i-(a+1)]?).getD i)=k;rw[if_neg (by omega),hk];rfl
 have hρlow:∀i,i<a->ρ i=i:=fun i hi=>by
  show(if i<a then i else((keeps.map (·.1))[i-(a+1)]?).getD i)=i;rw[if_pos hi]
 have get:∀i,a<i->i<a+1+os.length->∃k,(keeps.map (·.1))[i-(a+1)]? =some k/\ρ i=k/\a<=k:=by
  intro i h1 h2;have Xi:i-(a+1)<keeps.length:=by omega
  refine⟨(keeps[i-(a+1)]).1,by simp[Xi],hρ i _ (by omega) (by simp[Xi]), ?_⟩;exact YL (List.all_eq_true.1 PS _ (List.getElem_mem Xi))
 let im1:c7:=⟨0,0,0,false,Yo μ' H' w' (J7 H' n'++fz.map (·.k))⟩
 let μ1:=jM a (a+1+os.length) ρ μ μ' (Yo μ' H' w' (J7 H' n'++fz.map (·.k)))
 have hco:yM H' a (cJ a (keeps.map (·.1))) fz μ' μ1 w' n' (fz.map (·.k)) im1:=by
  refine⟨⟨B.B,_,hp.ok,fun i hi=> ?_⟩,hu',fun k j hj=> ?_, ?_,rfl,fun x hx=>List.mem_map.2 ⟨x,hx,rfl⟩⟩
  ·rcases LF i a with h|h
   ·exact .inl h
   ·exact .inr ⟨h,hi⟩
  ·unfold cJ at hj;cases hb:Ll k a with
   |true=>
    rw[hb]at hj;simp only[cond_true,YO]at hj;subst hj;have Xi:k<a:=YL hb;show jM a (a+1+os.length) ρ μ μ' _ k=μ' k;unfold jM;rw[if_neg (by omega),if_neg (by omega),hp.ext k (by omega)]
   |false=>
    rw[hb]at hj;obtain⟨h1,h2⟩:=Tn _ _ _ _ hj;have Xi:j-(a+1)<keeps.length:=by
     have:=(List.getElem?_eq_some_iff.1 h2).1;simpa using this
    show jM a (a+1+os.length) ρ μ μ' _ j=μ' k;unfold jM;rw[if_neg (by omega),if_pos ⟨by omega,by omega⟩,hρ j k h1 h2]
  ·show jM a (a+1+os.length) ρ μ μ' _ a=some im1;unfold jM;rw[if_pos rfl]
 have hkeeps:AN a n' (a+1+os.length) (wks.map (·.1)) μ μ' Hb H' (X9 Hb a ws os) w' ρ (fz.map (·.k)):=by
  refine⟨by omega,hρlow,fun i h1 h2=> ?_,fun i j h1 h2 h3 h4 h5=> ?_,TS hu wslt,fun i hi hn=> ?_, ?_,fun i o1 hi hc ho=> ?_,fun k hk=> ?_⟩
  ·obtain⟨k,hk,hk2,hk3⟩:=get i h1 h2;refine⟨by omega, ?_⟩;rw[hk2];have Xi:i-(a+1)<os.length:=by omega
   obtain⟨k',s,L',ha,hb,hc⟩:=(K1 keeps os L2 hos).2 (i-(a+1)) os[i-(a+1)] (by simp[Xi]);have:k'=k:=by
    rw[Lx,ha]at hk;simpa using hk
   subst this;obtain⟨⟨x,hx⟩,_⟩:=SH hco hb (hc hL2);exact hu'.lt hx
  ·obtain⟨k,hk,hk2,_⟩:=get i h1 h2;obtain⟨k',hk',hk2',_⟩:=get j h3 h4;rw[hk2,hk2']at h5;subst h5;have:=JI hdist _ _ _ hk hk';omega
  ·rw[UI,(wsget i).1.2 hn];simp only;rw[if_neg (by omega),if_neg (by omega)]
  ·rw[UI];cases hg:Qq ws a with
   |some o=>have:=wslt a o hg;omega
   |none=>simp
  ·rcases hc with h1i|⟨J4,Xi⟩
   ·rw[UI]at ho;have hn:Qq ws i=none:=by
     cases hg:Qq ws i with
     |none=>rfl
     |some o=>have:=wslt i o hg;omega
    rw[hn]at ho;simp only at ho;rw[if_neg (by omega),if_pos ⟨h1i,hi⟩]at ho;obtain⟨k,s,L',ha,hb,hc'⟩:=(K1 keeps os L2 hos).2 (i-(a+1)) o1 ho;obtain⟨_,hnr,T5⟩:=SH hco hb (hc' hL2);refine⟨hnr,fun hl1=> ?_⟩;obtain⟨x,hx,hl,ZQ⟩:=T5 hl1;refine⟨x, ?_,hl,fun im _ h=>ZQ im h⟩;rw[hρ i k (by omega) (by rw[Lx,ha];rfl)];exact hx
   ·cases hg:Qq ws i with
    |none=>exact absurd J4 ((wsget i).1.1 hg)
    |some o=>
     rw[UI,hg]at ho;simp only[YO]at ho;subst ho;obtain⟨s,L1,h1,h2⟩:=(wsget i).2 o hg;obtain⟨_,hnr,T5⟩:=SH hco h1 (h2 hL3);refine⟨hnr,fun hl1=> ?_⟩;obtain⟨x,hx,hl,ZQ⟩:=T5 hl1;exact⟨x,by rw[hρlow i Xi];exact hx,hl,fun im _ h=>ZQ im h⟩
  ·obtain⟨x,hx,rfl⟩:=List.mem_map.1 hk;have:=List.all_eq_true.1 hfz x hx;simp only[YB]at this;obtain⟨⟨q1,q2⟩,q3⟩:=this;have hown:∃o,Qq H' x.k=some o/\live o:=by
    unfold HW at q2;split at q2
    ·rename_i ho;exact⟨_,ho,trivial⟩
    ·cases q2
   obtain⟨o,ho,hl⟩:=hown;refine⟨YL q1,hu'.lt ho,⟨o,ho,hl⟩,fun i h1 h2 hr=> ?_⟩;obtain⟨k,hk,hk2,_⟩:=get i h1 h2;rw[hk2]at hr;rw[Lx]at hk;cases hy:keeps[i-(a+1)]? with
   |none=>rw[hy]at hk;cases hk
   |some y=>
    rw[hy]at hk;simp only[LG,YO]at hk;have:=List.all_eq_true.1 q3 y (Lk hy);rw[hk,hr]at this;simp at this
 refine⟨μ1,im1,hco,hp.merge Q7 hf hkeeps,fun i hi=> ?_,wslt⟩;show jM a (a+1+os.length) ρ μ μ' _ i=none;unfold jM;rw[if_neg (by omega),if_neg (by omega)];exact hf i (by omega)
theorem GoE.landA(hF:∀g,F g=true->Q0 P g=true)(hJ:∀w,B.has w->J w)(XP:P.follows .mixedOrders=true){wks:List (Nat×KS)}(hu:Under Hb a)(hw:Writable Hb a (wks.map (·.1)))(h:GoE P B c0 Hb a c H n (wks.map (·.1))){fuel:Nat}{sc:QA}{f:FuncId}{len:Nat}{todo:List Item}{ro:Option Nat}{K4:List Nat}{keeps:List (Nat×KS)}{fz:List Fz}{vs:List Value}{ws:Qm}{os:List Obj}{L:List Prop}
 (e:CE.landA a (Qn P F J B fuel a c H n sc 0 [] []) K4 wks keeps fz=some ⟨f,len,todo,[],.run,ro,vs,ws,os,L⟩) (hL:Qz L) (hlen:LI len 16000=true) (T4:todo.all WJ=true) (Yp:∀l,ro=some l->l<a):
 ∃d:Nat->Value,(∀t,Xh (d t))/\GoE P B c0 Hb a (XU ro f len (K4.zip vs) d todo) (X9 Hb a ws os) (a+1+os.length) (wks.map (·.1)):=by
 unfold CE.landA at e;split at e
 ·rename_i c' H' n' W' L' hs;cases hq:RH a H' W' wks keeps fz with
  |false=>rw[hq]at e;cases e
  |true=>
   rw[hq]at e;simp only[cond_true]at e;split at e
   ·rename_i vs0 L1 ws0 L3 os0 L2 hvs hws hos;simp only[YO,Qae.mk.injEq]at e;obtain⟨e1,e2,e3,e4,e5,e6,rfl,rfl,rfl,rfl⟩:=e;obtain⟨hL1,hLr⟩:=Xb hL;obtain⟨hL3,hLr⟩:=Xb hLr;obtain⟨hL2,hL4⟩:=Xb hLr;obtain⟨R,W2,PH,hiff⟩:=Wa hF hJ XP fuel a c H n sc 0 [] [] _ h.under hs hL4;have hg:=(h.step PH).widen (Wf:=wks.map (·.1)) (fun i hi hm=>by
     rcases List.mem_append.1 hm with hm|hm
     ·exact hm
     ·have hi':i∈W':=(hiff i hi).2 (.inr hm);unfold RH at hq;simp only[YB]at hq;simpa using List.all_eq_true.1 hq.1.1.1.1 i hi') hw
    have hd:∀t,∃d,Xh d/\∀μ v',VR μ (Xx c'.tmps t) v'->VR μ d v':=fun t=>KH _
    have wslt:∀i o,Qq ws0 i=some o->i<a:=fun i o ho=>by
     have hq':=hq;unfold RH at hq';simp only[YB]at hq';have J4:i∈wks.map (·.1):=Decidable.of_not_not fun e=>by
      have:=(gj wks ws0 L3 hws i).1.2 e;rw[this]at ho;cases ho
     obtain⟨k,hk,rfl⟩:=List.mem_map.1 J4;exact YL (List.all_eq_true.1 hq'.1.1.1.2 k hk)
    refine⟨fun t=>Classical.choose (hd t),fun t=>(Classical.choose_spec (hd t)).1,TS hu wslt,by omega,fun Z μ w fr cs Q7 hB hf X8=> ?_⟩;obtain⟨fr',w',μ',hp,J5,ha,hb,XZ⟩:=hg.sem Z μ w fr cs Q7 hB hf X8;obtain⟨μ1,im1,hco,XE,Vx,_⟩:=cW hu hw hg.under hq Q7 hf hp hws hos hL3 hL2;have hpans:c'.mode.pans=false:=by rw[e5];rfl
    refine⟨fr',w',μ1,XE,⟨by rw[J5.fn,e1];rfl, ?_,fun _=>(e3 ▸ J5.todo hpans).plain T4, ?_, ?_,J5.kind, ?_⟩,ha,hb,XZ⟩
    ·refine J5.tmps.merge e2 (YL hlen) (fun p hp v' hv=> ?_) fun t=>Classical.choose_spec (hd t)
     obtain⟨i,hi⟩:=List.getElem?_of_mem hp;rw[List.getElem?_zip_eq_some]at hi;obtain⟨hi1,hi2⟩:=hi;obtain⟨u,L',ha,hb,hc⟩:=(kz _ _ _ hvs).2 i p.2 hi2;rw[Lx,hi1]at ha;simp only[LG,YO]at ha;subst ha;exact VX hco 4 _ _ _ _ hb (hc hL1) hv
    ·have:=J5.defers;rw[e4]at this;exact .of_empty this.empty
    ·have:=J5.mode;rw[e5]at this;generalize fr'.mode=ds at this;cases this;exact .run
    ·have:=J5.round;rw[e6]at this;show RoR μ1 ro fr'.roundOf;generalize fr'.roundOf=x at this;cases ro with
     |none=>
      cases x with
      |none=>trivial
      |some x=>cases this
     |some l=>
      cases x with
      |none=>cases this
      |some x=>
       obtain⟨im,h1,h2⟩:=this;have hl:=Yp l rfl;refine⟨im, ?_,h2⟩;rw[XE.ext l (by omega)];rw[hp.ext l (by omega)]at h1;exact h1
   ·cases e
 ·cases e
def QM(a:Nat)(v:Value):Bool:=simple v || match v with
 | .func (.via r ⟨[]⟩ 0 true) ⟨[_]⟩ ⟨[]⟩=>Ll r a
 | .pointer (some ⟨k,_,none⟩)=>Ll k a
 | .slice (some ⟨k,_,none⟩) _ _=>Ll k a
 | .map (some r)=>Ll r a
 | .func (.yield l) ⟨[]⟩ ⟨[]⟩=>Ll l a
 | .chan none=>true
 |_=>false
def Ry(a:Nat):Nat->Value->Bool
 |0,v=>QM a v
 |f+1,v=>match v with
  | .agg xs=>xs.all (Ry a f)
  | .tuple xs=>xs.all (Ry a f)
  | .iface _ x=>Ry a f x
  | .func (.func _) xs ys=>xs.all (Ry a f) && ys.all (Ry a f)
  |v=>QM a v
section
variable {μ μ0:Mu} (hμ:∀b,b<a->μ0 b=μ b)
include hμ
theorem sU{v v':Value}(h:QM a v=true)(hv:VR μ v v'):VR μ0 v v':=by
 unfold QM at h;cases hs:simple v with
 |true=>rw[simple_eq hs hv];exact ZR hs
 |false=>
  rw[hs]at h;simp only[Bool.false_or]at h;have lt:∀{k},Ll k a=true->μ0 k=μ k:=fun h=>hμ _ (YL h)
  split at h
  ·cases hv with
   |top h1 h2 h3=>exact .top h1 (by rw[lt h];exact h2) h3
  ·cases hv with
   |ptr har=>
    obtain⟨im,h1,h2,h3⟩:=har;exact .ptr ⟨im,by rw[lt h];exact h1,h2,h3⟩
  ·cases hv with
   |slice har x y z=>
    obtain⟨im,h1,h2,h3⟩:=har;exact .slice ⟨im,by rw[lt h];exact h1,h2,h3⟩ x y fun hz Z4 QO=>z hz Z4 (by rw[<-lt h];exact QO)
  ·cases hv with
   |map hr=>exact .map (by rw[lt h];exact hr)
  ·cases hv with
   |yield hr=>exact .yield (by rw[lt h];exact hr)
  ·cases hv with
   |Yi x y z=>exact .Yi x y z
  ·cases h
theorem kb:∀(f:Nat) (v v':Value),Ry a f v=true->VR μ v v'->VR μ0 v v'
 |0,v,v',h,hv=>sU hμ h hv
 |f+1,v,v',h,hv=>by
  have arr:∀{xs xs':Array Value},xs.all (Ry a f)=true->(∀(i:Nat) v v',xs[i]? =some v->xs'[i]? =some v'->VR μ v v')->∀(i:Nat) v v',xs[i]? =some v->xs'[i]? =some v'->VR μ0 v v':=
   fun ha hx i v v' h1 h2=>kb f v v' (Array.all_eq_true'.1 ha v (LJ h1)) (hx i v v' h1 h2)
  cases v with
  |agg xs=>cases hv with|agg h1 h2=>exact .agg h1 (arr h h2)
  |tuple xs=>cases hv with|tuple h1 h2=>exact .tuple h1 (arr h h2)
  |iface t x=>cases hv with|iface hv=>exact .iface (kb f x _ h hv)
  |func fn xs ys=>
   cases fn with
   |func g=>
    have h:(xs.all (Ry a f) && ys.all (Ry a f))=true:=h;simp only[YB]at h;cases hv with
    |func h1 h2 h3 h4=>exact .func h1 h2 (arr h.1 h3) (arr h.2 h4)
   |_=>exact sU hμ (by exact h) hv
  |_=>exact sU hμ (by exact h) hv
end
theorem qY{μ μ0:Mu}(hμ:∀b,b<a->μ0 b=μ b){T:Tm}{A:Array Value}(hl:∀t,Ry a 4 (Xx T t)=true\/Xh (Xx T t))(h:TR μ T A):TR μ0 T A:=⟨h.1,fun t=>(hl t).elim (fun h1=>kb hμ 4 _ _ h1 (h.2 t)) fun h1=>h1 _ _ _ (h.2 t)⟩
theorem FrR.low{μ μ0:Mu}{fr:Frame}(hμ:∀b,b<a->μ0 b=μ b)(hs:∀t,Ry a 4 (Xx c.tmps t)=true\/Xh (Xx c.tmps t))(hp:c.todo.all WJ=true)(hd:c.defers=[])(hm:c.mode=.run)(hr:∀l,c.roundOf=some l->l<a)(h:FrR Bot.no μ c fr):FrR Bot.no μ0 c fr:=by
 have hpans:c.mode.pans=false:=by rw[hm];rfl
 refine⟨h.fn,qY hμ hs h.tmps,fun _=>(h.todo hpans).plain hp, ?_, ?_,h.kind, ?_⟩
 ·have:=h.defers;rw[hd]at this ⊢;exact .of_empty this.empty
 ·have:=h.mode;rw[hm]at this ⊢;generalize fr.mode=ds at this ⊢;cases this;exact .run
 ·have:=h.round;generalize fr.roundOf=x at this ⊢;cases Yp:c.roundOf with
  |none=>
   rw[Yp]at this;cases x with
   |none=>trivial
   |some x=>cases this
  |some l=>
   rw[Yp]at this;cases x with
   |none=>cases this
   |some x=>
    obtain⟨im,h1,h2⟩:=this;exact⟨im,by rw[hμ l (hr l Yp)];exact h1,h2⟩
def LV(a:Nat)(v:Value):Prop:=Ry a 4 v=true\/Xh v
theorem LV.vr{μ μ0:Mu}{v v':Value}(hμ:∀b,b<a->μ0 b=μ b)(h:LV a v)(hv:VR μ v v'):VR μ0 v v':=h.elim (fun h=>kb hμ 4 _ _ h hv) fun h=>h _ _ _ hv
def yL(a:Nat):Obj->Prop
 | .cells cs _ _=> ∀(i:Nat) v,cs[i]? =some v->LV a v
 | .map es _=> ∀(i:Nat) e,es[i]? =some e->LV a e.val
 | .loop l=> ∀(i:Nat) v,l.tmps[i]? =some v->LV a v
 |_=>True
theorem OR.low{μ μ0:Mu}{w:World}{im:c7}{o:Obj}(hμ:∀b,b<a->μ0 b=μ b)(hl:yL a o)(h:OR μ w im o):OR μ0 w im o:=by
 cases o with
 |cells cs t fz=>
  rcases h with ⟨h1,h2,h3,arr,h4,h5,h6,h7⟩|⟨h1,h2⟩
  ·exact .inl ⟨h1,h2,h3,arr,h4,h5,h6,fun i v hv=>by
    obtain⟨v',a1,b1⟩:=h7 i v hv;exact⟨v',a1,(hl i v hv).vr hμ b1⟩⟩
  ·exact .inr ⟨h1,fun i v hv=>by
    obtain⟨v',a1,b1⟩:=h2 i v hv;exact⟨v',a1,(hl i v hv).vr hμ b1⟩⟩
 |map es PT=>
  obtain⟨h1,K0,h2,h3,h4⟩:=h;exact⟨h1,K0,h2,h3,fun i e e' he he'=>by
   obtain⟨x,y,z,u⟩:=h4 i e e' he he';exact⟨x,y,z,(hl i e he).vr hμ u⟩⟩
 |loop l=>
  obtain⟨h1,tm,df,h2,h3⟩:=h;exact⟨h1,tm,df,h2,h3.1,fun i v v' hv ZW=>(hl i v hv).vr hμ (h3.2 i v v' hv ZW)⟩
 |deferred ds=>exact h
 |pending x y=>trivial
 |_=>exact h
def OS(a:Nat):Obj->Bool
 | .cells cs _ _=>cs.toList.all (Ry a 4)
 | .map es _=>es.toList.all fun e=>Ry a 4 e.val
 | .loop l=>l.tmps.toList.all (Ry a 4)
 |_=>true
theorem xP{a:Nat}{o:Obj}(h:OS a o=true):yL a o:=by
 cases o with
 |cells cs t fz=>exact fun i v hv=>.inl (List.all_eq_true.1 h v (Array.mem_toList_iff.2 (LJ hv)))
 |map es PT=>exact fun i e he=>.inl (List.all_eq_true.1 h e (Array.mem_toList_iff.2 (LJ he)))
 |loop l=>exact fun i v hv=>.inl (List.all_eq_true.1 h v (Array.mem_toList_iff.2 (LJ hv)))
 |_=>exact trivial
theorem cf:∀{H:Qm} {i:Nat} {o:Obj},Qq H i=some o->(i,o)∈H
 |[],_,_,h=>by cases h
 |(k,x)::l,i,o,h=>by
  rw[QU]at h;split at h
  ·rename_i e;cases h;subst e;exact List.mem_cons_self
  ·exact Lj _ (cf h)
theorem gz{H:Qm}{n:Nat}(h:(H.all fun p=>Ll p.1 n)=true):Under H n:=fun i hi=>by
 cases hg:Qq H i with
 |none=>rfl
 |some o=>have:=YL (List.all_eq_true.1 h _ (cf hg));simp at this;omega
end
end Go.CE

namespace Go.CE
open Go Go.RowKit

def Zu(n:Int):Qf:=.XO (.val (.int .i64 n))
def Wj:Qf:=.XO (.val (.bool true))
def WC:Qf:=.XO (.val (.bool false))
def ri(f:Value->Option (Value×List Prop)):OO->Option (OO×List Prop)
 | .ret v=>match f v with
   |some (v1,L)=>some (.ret v1,L)
   |none=>none
 | .ZB v=>match f v with
   |some (v1,L)=>some (.ZB v1,L)
   |none=>none
def finK(a:Nat)(s:Option ST)(wks keeps:List (Nat×KS))(fz:List Fz):Option (OO×Qm×List Obj×List Prop):=match s with
 |some ⟨.fin out H _,W,L⟩=>bif RH a H W wks keeps fz then
  match ri (tC H a (cJ a (keeps.map (·.1))) fz 4) out,y6 H a (cJ a (keeps.map (·.1))) fz wks,TA H a (cJ a (keeps.map (·.1))) fz keeps with
  |some (v1,L1),some (ws,L3),some (os,L2)=>some (v1,ws,os,L1++(L3++(L2++L)))
  |_,_,_=>none
   else none
 |_=>none
def FinK(P:Program)(B:Lo)(c0:CF)(Hb:Qm)(a:Nat)(out:OO)(ws:Qm)(os:List Obj)(Wf:List Nat):Prop:=
 ∀(μ:Mu) (w:World) (fr:Frame) (cs:List Frame),Ok B (fun i=>i<a) μ (Qq Hb) w->B.has w->(∀i,a<=i->μ i=none)->FrR Bot.no μ c0 fr->
  ∃XW w' μ',Post B (fun i=>i<a) a (a+1+os.length) Wf μ μ' Hb (X9 Hb a ws os) w w'/\OR2 μ' out XW/\(∀i,a+1+os.length<=i->μ' i=none)/\EndsAs P fr cs w XW w'
section
variable {P:Program} {F:FuncId->Bool} {J:World->Prop} {B:Lo} {c0 c:CF} {Hb H:Qm} {a n:Nat} {W Wf:List Nat}
theorem GoE.finK(hF:∀g,F g=true->Q0 P g=true)(hJ:∀w,B.has w->J w)(XP:P.follows .mixedOrders=true){wks keeps:List (Nat×KS)}(hu:Under Hb a)(hw:Writable Hb a (wks.map (·.1)))(h:GoE P B c0 Hb a c H n (wks.map (·.1))){fuel:Nat}{sc:QA}{fz:List Fz}{out:OO}{ws:Qm}{os:List Obj}{L:List Prop}
 (e:CE.finK a (Qn P F J B fuel a c H n sc 0 [] []) wks keeps fz=some (out,ws,os,L)) (hL:Qz L):FinK P B c0 Hb a out ws os (wks.map (·.1)):=by
 unfold CE.finK at e;split at e
 ·rename_i out0 H' n' W' L' hs;cases hq:RH a H' W' wks keeps fz with
  |false=>rw[hq]at e;cases e
  |true=>
   rw[hq]at e;simp only[cond_true]at e;split at e
   ·rename_i v1 L1 ws0 L3 os0 L2 hv1 hws hos;simp only[YO,YR]at e;obtain⟨rfl,rfl,rfl,rfl⟩:=e;obtain⟨hL1,hLr⟩:=Xb hL;obtain⟨hL3,hLr⟩:=Xb hLr;obtain⟨hL2,hL4⟩:=Xb hLr;obtain⟨R,W2,hfj,hiff⟩:=Wa hF hJ XP fuel a c H n sc 0 [] [] _ h.under hs hL4;intro μ w fr cs Q7 hB hf X8;obtain⟨XW,w',μ',hp,ho,he⟩:=h.fj hfj μ w fr cs Q7 hB hf X8;have hp:=hp.widen (W':=wks.map (·.1)) Q7 (fun i hi hm=>by
     rcases List.mem_append.1 hm with hm|hm
     ·exact hm
     ·have hi':i∈W':=(hiff i hi).2 (.inr hm);have hq':=hq;unfold RH at hq';simp only[YB]at hq';simpa using List.all_eq_true.1 hq'.1.1.1.1 i hi') (fun i hi hiW=>hw.rw Q7 hi hiW)
    obtain⟨μ1,im1,hco,XE,Vx,_⟩:=cW hu hw (h.under.shape hfj.shape) hq Q7 hf hp hws hos hL3 hL2;cases ho with
    |ret Vp=>
     unfold ri at hv1;split at hv1
     ·rename_i v0 e0;cases e0;split at hv1
      ·rename_i v2 L2' hv2;simp only[YO,YR]at hv1;obtain⟨rfl,rfl⟩:=hv1;exact⟨_,w',μ1,XE,.ret (VX hco 4 _ _ _ _ hv2 hL1 Vp),Vx,he⟩
      ·cases hv1
     ·rename_i e0;cases e0
    |ZB Vp=>
     unfold ri at hv1;split at hv1
     ·rename_i e0;cases e0
     ·rename_i v0 e0;cases e0;split at hv1
      ·rename_i v2 L2' hv2;simp only[YO,YR]at hv1;obtain⟨rfl,rfl⟩:=hv1;exact⟨_,w',μ1,XE,.ZB (VX hco 4 _ _ _ _ hv2 hL1 Vp),Vx,he⟩
      ·cases hv1
   ·cases e
 ·cases e
theorem FinK.cast{out out1:OO}{ws ws1:Qm}{os os1:List Obj}(h:FinK P B c0 Hb a out ws os Wf)(e1:out=out1)(e2:ws=ws1)(e3:os=os1):FinK P B c0 Hb a out1 ws1 os1 Wf:=e1 ▸ e2 ▸ e3 ▸ h
theorem FinK.fj{out:OO}{ws:Qm}{os:List Obj}(h:FinK P B c0 Hb a out ws os Wf)(hub:Under Hb a)(hws:∀i o,Qq ws i=some o->i<a/\i∈Wf)(hWf:∀i∈Wf,i<a)(hs:∀t,Ry a 4 (Xx c0.tmps t)=true\/Xh (Xx c0.tmps t))(hp:c0.todo.all WJ=true)(hd:c0.defers=[])(hm:c0.mode=.run)(hr:∀l,c0.roundOf=some l->l<a)(hob:∀i o,Qq Hb i=some o->yL a o):
 FJ P B c0 Hb a out ((ws++((a,QV)::QL (a+1) os))++Hb) (a+1+os.length) (Le a) Wf:=by
 have hG:(ws++((a,QV)::QL (a+1) os))++Hb=X9 Hb a ws os:=by unfold X9;simp
 rw[hG];refine⟨⟨by omega,fun i hi hw=> ?_,fun i hi=> ?_,fun i hi=>List.mem_range.2 (hWf i hi),fun i hi=>by have:=hWf i hi;omega⟩,fun S μ w fr cs Q7 hB hS hf X8 hR=> ?_⟩
 ·rw[UI];cases hg:Qq ws i with
  |some o=>exact absurd (hws i o hg).2 hw
  |none=>simp only;rw[if_neg (by omega),if_neg (by omega)]
 ·rw[UI];cases hg:Qq ws i with
  |some o=>have:=(hws i o hg).1;omega
  |none=>simp only;rw[if_neg (by omega),if_neg (by omega)]
 ·have hSeq:S=fun i=>i<a:=funext fun i=>propext ⟨hS i,fun hi=>hR i (List.mem_range.2 hi) hi⟩
  subst hSeq;let μc:Mu:=fun i=>if i<a then μ i else none
  have hμc:∀b,b<a->μc b=μ b:=fun b hb=>by show(if b<a then μ b else none)=μ b;rw[if_pos hb]
  have hextc:Ext μc μ:=fun k im hk=>by
   have hk:(if k<a then μ k else none)=some im:=hk;split at hk
   ·exact hk
   ·cases hk
  have hokc:Ok B.B (fun i=>i<a) μc (Qq Hb) w:=by
   refine⟨fun i o hi hg hl=> ?_,fun i o im hi hg hl QD=> ?_,fun i j oi oj x y hi hj Kz hg1 hg2 l1 l2 m1 m2 r1 r2=> ?_,fun i o hi hg hr=> ?_,fun i j oi oj x y z hi hj hg1 hg2 r1 l2 m1 m2 Rl=> ?_⟩
   ·obtain⟨im,QD,ZQ⟩:=Q7.rel i o hi hg hl;exact⟨im,(hμc i hi).trans QD,OR.low hμc (hob i o hg) ZQ⟩
   ·exact Q7.low i o im hi hg hl ((hμc i hi).symm.trans QD)
   ·exact Q7.inj i j oi oj x y hi hj Kz hg1 hg2 l1 l2 ((hμc i hi).symm.trans m1) ((hμc j hj).symm.trans m2) r1 r2
   ·obtain⟨im,QD,hx⟩:=Q7.Jv i o hi hg hr;exact⟨im,(hμc i hi).trans QD,hx⟩
   ·exact Q7.sep i j oi oj x y z hi hj hg1 hg2 r1 l2 ((hμc i hi).symm.trans m1) ((hμc j hj).symm.trans m2) Rl
  obtain⟨XW,w',μ',XE,hv,Vx,he⟩:=h μc w fr cs hokc hB (fun i hi=>by show(if i<a then μ i else none)=none;rw[if_neg (by omega)]) (X8.low hμc hs hp hd hm hr);let μ2:Mu:=fun i=>if i<a+1+os.length then μ' i else μ i
  have hμ2:∀i,i<a+1+os.length->μ2 i=μ' i:=fun i hi=>by show(if i<a+1+os.length then μ' i else μ i)=μ' i;rw[if_pos hi]
  have ext2:Ext μ' μ2:=fun k im hk=>by
   rcases LF k (a+1+os.length)with h1|h1
   ·rw[hμ2 k h1];exact hk
   ·rw[Vx k h1]at hk;cases hk
  have Slt:∀i,(i<a\/a<=i/\i<a+1+os.length)->i<a+1+os.length:=fun i h=>by omega
  refine⟨_,w',μ2,⟨?_,by omega,fun i hi=> ?_,fun i hi hw=> ?_,XE.grow,fun b hb hx=>XE.frame b hb fun i hiW hi im QD=>hx i hiW hi im ((hμc i hi).symm.trans QD),fun i hiW hi=> ?_,fun i im o h1 h2 ho hl QD=> ?_,fun i im o hc ho hr QD b x hx=> ?_,XE.os,XE.tape,XE.output⟩,OR2.mono ext2 hv,he⟩
  ·have ok:=XE.ok;refine⟨fun i o hi hg hl=> ?_,fun i o im hi hg hl QD=> ?_,fun i j oi oj x y hi hj Kz hg1 hg2 l1 l2 m1 m2 r1 r2=> ?_,fun i o hi hg hr=> ?_,fun i j oi oj x y z hi hj hg1 hg2 r1 l2 m1 m2 Rl=> ?_⟩
   ·obtain⟨im,QD,ZQ⟩:=ok.rel i o hi hg hl;exact⟨im,(hμ2 i (Slt i hi)).trans QD,ZQ.keep ext2 rfl⟩
   ·exact ok.low i o im hi hg hl ((hμ2 i (Slt i hi)).symm.trans QD)
   ·exact ok.inj i j oi oj x y hi hj Kz hg1 hg2 l1 l2 ((hμ2 i (Slt i hi)).symm.trans m1) ((hμ2 j (Slt j hj)).symm.trans m2) r1 r2
   ·obtain⟨im,QD,hx⟩:=ok.Jv i o hi hg hr;exact⟨im,(hμ2 i (Slt i hi)).trans QD,hx⟩
   ·exact ok.sep i j oi oj x y z hi hj hg1 hg2 r1 l2 ((hμ2 i (Slt i hi)).symm.trans m1) ((hμ2 j (Slt j hj)).symm.trans m2) Rl
  ·rcases LF i a with h1|h1
   ·rw[hμ2 i (by omega),XE.ext i (by omega),hμc i h1]
   ·show(if i<a+1+os.length then μ' i else μ i)=μ i;rw[if_neg (by omega)]
  ·exact XE.keep i hi hw
  ·obtain⟨p,q,im,s,t⟩:=XE.wr i hiW hi;exact⟨p,q,im,(hμc i hi).symm.trans s,t⟩
  ·obtain⟨p,q⟩:=XE.fresh i im o h1 h2 ho hl ((hμ2 i h2).symm.trans QD);exact⟨p,q.imp id fun⟨k,x,y,⟨Z4,m,m2⟩,z⟩=>⟨k,x,y,⟨Z4,(hμc k y).symm.trans m,m2⟩,z⟩⟩
  ·have Xi:i<a+1+os.length:=by omega
   rcases XE.rf i im o hc ho hr ((hμ2 i Xi).symm.trans QD) b x hx with e|⟨k,Ui,ko,p,q,r,s,t,u⟩|⟨k,p,q,⟨Z4,m,m2⟩,z⟩
   ·exact .inl e
   ·exact .inr (.inl ⟨k,Ui,ko,p,q,r,s,(hμc k q).symm.trans t,u⟩)
   ·exact .inr (.inr ⟨k,p,q,⟨Z4,(hμc k q).symm.trans m,m2⟩,z⟩)
def Oz(a:Nat)(l:List Value)(todo:List Item)(ro:Option Nat)(Hb ws:Qm)(Wf ex:List Nat):Bool:=
 l.all (Ry a 4) && (todo.all WJ && ((match ro with|some l=>Ll l a|none=>true) && ((Hb.all fun p=>Ll p.1 a) && ((Hb.all fun p=>ex.contains p.1 || OS a p.2) && ((ws.all fun p=>Ll p.1 a && Wf.contains p.1) && ((Wf.all fun k=>Ll k a) && LI l.length 16000))))))
def Mr(a:Nat):Qm->List Nat->Prop
 |[],_=>True
 |(k,o)::H,ex=>(bif ex.contains k then yL a o else True)/\Mr a H ex
theorem ox{a:Nat}{ex:List Nat}:∀{H:Qm} {k:Nat} {o:Obj},Mr a H ex->ex.contains k=true->Qq H k=some o->yL a o
 |[],_,_,_,_,h=>by cases h
 |(j,x)::H,k,o,hx,hk,h=>by
  rw[QU]at h;split at h
  ·rename_i e;cases h;subst e;have:=hx.1;rw[hk]at this;exact this
  ·exact ox hx.2 hk h
theorem Zb{a:Nat}:∀H:Qm,Mr a H []
 |[]=>trivial
 |(_,_)::H=>⟨trivial,Zb H⟩
theorem u4{a:Nat}{v:Value}(h:simple v=true):QM a v=true:=by unfold QM;rw[h];rfl
theorem kQ{a:Nat}{v:Value}(h:simple v=true):Ry a 4 v=true:=by
 have hs:=u4 (a:=a) h;cases v with
 |agg xs=>cases h
 |tuple xs=>cases h
 |iface t x=>cases h
 |func fn xs ys=>
  cases fn with
  |func f=>
   simp only[simple,YB,beq_iff_eq,Array.size_eq_zero_iff]at h;obtain⟨rfl,rfl⟩:=h;simp[Ry]
  |_=>exact hs
 |_=>exact hs
theorem PC{α:Type}{a:Nat}{e:α->List Value}{xs:List α}{t:TypeId}{fl:Nat×Nat}(h:∀x,∀v∈e x,simple v=true):yL a (.cells (Qe e xs) t fl):=fun i v hv=>.inl (kQ (K5 h v (LJ hv)))
theorem FinK.fjB{fn:FuncId}{len:Nat}{l:List Value}{todo:List Item}{ro:Option Nat}{out:OO}{ws:Qm}{os:List Obj}{ex:List Nat}(h:FinK P B ⟨fn,ofList len l,todo,[],.run,ro⟩ Hb a out ws os Wf)(e:Oz a l todo ro Hb ws Wf ex=true)(hx:Mr a Hb ex):
 FJ P B ⟨fn,ofList len l,todo,[],.run,ro⟩ Hb a out ((ws++((a,QV)::QL (a+1) os))++Hb) (a+1+os.length) (Le a) Wf:=by
 simp only[Oz,YB]at e;obtain⟨e1,e2,e3,e4,e5,e6,e7,e8⟩:=e;have e8:=YL e8;refine h.fj (gz e4) (fun i o ho=> ?_) (fun i hi=>YL (List.all_eq_true.1 e7 i hi)) (fun t=> ?_) e2 rfl rfl (fun k hk=> ?_) (fun i o ho=> ?_)
 ·have:=List.all_eq_true.1 e6 _ (cf ho);simp only[YB]at this;exact⟨YL this.1,by simpa using this.2⟩
 ·simp only[Xx,ofList];rw[cb _ _ _ _ (by omega)];split
  ·rename_i ht;have ht:t<l.length:=by omega
   refine .inl (List.all_eq_true.1 e1 _ ?_);rw[Nat.sub_zero,Li,L7 ht];exact List.getElem_mem ht
  ·rw[Tri.get_lf];exact .inr (PD (by simp[Go.undef,af]))
 ·have hk:ro=some k:=hk;subst hk;exact YL e3
 ·have:=List.all_eq_true.1 e5 _ (cf ho);simp only[Bool.or_eq_true]at this;rcases this with h1|h1
  ·exact ox hx h1 ho
  ·exact xP h1
end
end Go.CE

namespace Go.CE
open Go Go.RowKit Go.ChangeShapes Go.WideShapes

inductive Sh where
 |int|bool|str|unit
 |pair (a b:Sh)
 |struct (f:Sh)
 |slice (e:Sh)
def Sh.sz:Sh->Nat
 | .unit=>0
 | .pair a b=>a.sz+b.sz
 | .struct f=>f.sz
 |_=>1
def Sh.ok:Sh->List Value->Prop
 | .int,cs=> ∃z:Int,(-9223372036854775808<=z/\z<=9223372036854775807)/\cs=[.int .i64 z]
 | .bool,cs=> ∃b,cs=[.bool b]
 | .str,cs=> ∃s:ByteArray,s.size<=maxLen/\cs=[.string s]
 | .unit,cs=>cs=[]
 | .pair a b,cs=> ∃x y,cs=x++y/\a.ok x/\b.ok y
 | .struct f,cs=>f.ok cs
 | .slice e,cs=> ∃(n:Nat) (r:Nat->List Value),(∀k,e.ok (r k)\/n<=k)/\(∀k,(r k).length=e.sz)/\cs=[Xo n (Qe r (Le n))]
theorem Sh.ok_sz:∀(s:Sh) (cs:List Value),s.ok cs->cs.length=s.sz
 | .int,cs,⟨z,_,h⟩=>by rw[h];rfl
 | .bool,cs,⟨z,h⟩=>by rw[h];rfl
 | .str,cs,⟨z,_,h⟩=>by rw[h];rfl
 | .unit,cs,h=>by rw[show cs=[]from h];rfl
 | .pair a b,cs,⟨x,y,h,hx,hy⟩=>by rw[h,Ls,Sh.ok_sz a x hx,Sh.ok_sz b y hy];rfl
 | .struct f,cs,h=>Sh.ok_sz f cs h
 | .slice e,cs,⟨n,r,_,_,h⟩=>by rw[h];rfl
def Sh.chk(P:Program):Sh->Option (List Field×Nat)->TypeId->Bool
 | .int,none,t=>match P.underlying t with|some (.int .i64)=>true|_=>false
 | .bool,none,t=>match P.underlying t with|some .bool=>true|_=>false
 | .str,none,t=>match P.underlying t with|some .string=>true|_=>false
 | .struct f,none,t=>match P.underlying t with|some (.struct fs)=>f.chk P (some (fs.toList,0)) t|_=>false
 | .slice e,none,t=>match P.underlying t with|some (.slice u)=>Ll 0 e.sz && e.chk P none u|_=>false
 | .unit,some ([],off),t=>Lf off (P.cellsOf t)
 | .pair a b,some (f::fs,off),t=>Lf f.offset off && (a.chk P none f.type && (Lf (P.cellsOf f.type) a.sz && b.chk P (some (fs,off+P.cellsOf f.type)) t))
 |_,_,_=>false
def TRl(fm:Nat->Option Obj)(ts cs:List Value):Prop:=ts.length=cs.length/\∀(i:Nat) v v',ts[i]? =some v->cs[i]? =some v'->TRv fm v v'
theorem TRl.nil{fm:Nat->Option Obj}:TRl fm [] []:=⟨rfl,fun i v v' h=>by simp at h⟩
theorem TRl.one{fm:Nat->Option Obj}{t v:Value}(h:TRv fm t v):TRl fm [t] [v]:=⟨rfl,fun i a b ha hb=>by
 cases i with
 |zero=>simp at ha hb;subst ha hb;exact h
 |succ i=>simp at ha⟩
theorem TRl.append{fm:Nat->Option Obj}{a b c d:List Value}(h:TRl fm a b)(k:TRl fm c d):TRl fm (a++c) (b++d):=⟨by simp[h.1,k.1],fun i v v' x y=>by
 rcases LF i a.length with hi|hi
 ·rw[Lz hi]at x;rw[Lz (by rw[<-h.1];exact hi)]at y;exact h.2 i v v' x y
 ·rw[Lp hi]at x;rw[Lp (by rw[<-h.1];exact hi)]at y;exact k.2 _ v v' x (by rw[h.1];exact y)⟩
def allM(w:World)(b:Nat):Option Obj:=w.heap[b]?
section
variable {P:Program} {H:Type} {enc:TypeId×Value->H} {w:World} {held:Bool}
theorem AK{a:Addr}{v:Value}(h:w.cell? a=some v):∃b o arr t fl,a=⟨b,o,none⟩/\w.heap[b]? =some (.cells arr t fl)/\arr[o]? =some v:=by
 obtain⟨b,o,s⟩:=a;unfold World.cell? at h;split at h
 ·rename_i c t fl hb;cases s with
  |some _=>simp at h
  |none=>exact⟨b,o,c,t,fl,rfl,hb,by simpa using h⟩
 ·cases h
theorem qy{b o j:Nat}:(⟨b,o,none⟩:Addr).add j=⟨b,o+j,none⟩:=by
 unfold Addr.add;split <;> simp_all
theorem pN{e:Nat->List Value}{z n:Nat}(h:∀k,(e k).length=z){i:Nat}{v:Value}(hv:(Qe e (Le n))[i]? =some v):∃k j,k<n/\j<z/\i=k*z+j/\(e k)[j]? =some v:=by
 have Xi:i<n*z:=by
  have:=(Array.getElem?_eq_some_iff.1 hv).1;rw[QZ h]at this;simpa using this
 have hz:0<z:=by
  rcases Nat.eq_zero_or_pos z with rfl|h
  ·omega
  ·exact h
 have hk:i / z<n:=Nat.div_lt_of_lt_mul (by rwa[Nat.mul_comm]at Xi);have hj:i % z<z:=Nat.mod_lt _ hz;have hi:i=i / z*z+i % z:=by
  have:=Nat.div_add_mod i z;rw[Nat.mul_comm]at this;omega
 refine⟨i / z,i % z,hk,hj,hi, ?_⟩;have:=dz (e:=e) (xs:=Le n) h (k:=i / z) (j:=i % z) (by simpa using hk) hj;rw[<-hi,hv]at this;rw[this];simp[Ln,hk]
theorem M0:∀(s:Sh) (fuel:Nat) (t:TypeId) (cs:List Value) (x:DataW H×List MemPlace),s.chk P none t=true->DataW.trod enc P w 0 (fun _=>true) held fuel t cs=some x->∃ts,s.ok ts/\TRl (allM w) ts cs:=by
 intro s
 -- for fields, too
 have key:(∀(fuel:Nat) (t:TypeId) (cs:List Value) (x:DataW H×List MemPlace),s.chk P none t=true->DataW.trod enc P w 0 (fun _=>true) held fuel t cs=some x->∃ts,s.ok ts/\TRl (allM w) ts cs)/\
  (∀(fl:List Field) (off:Nat) (t:TypeId) (cs:List Value),s.chk P (some (fl,off)) t=true->cs.length=P.cellsOf t->(∀f∈fl,∃fuel x,DataW.trod enc P w 0 (fun _=>true) held fuel f.type ((cs.drop f.offset).take (P.cellsOf f.type))=some x)->∃ts,s.ok ts/\TRl (allM w) ts (cs.drop off)):=by
  induction s with
  |int=>
   refine⟨fun fuel t cs x hc h=> ?_,fun fl off t cs hc=>by simp[Sh.chk]at hc⟩;simp only[Sh.chk]at hc;split at hc
   ·rename_i ht;obtain⟨n,rfl,_,hw⟩:=DataW.trod_int ht h;simp only[Lit.wf,YB,decide_eq_true_eq]at hw;exact⟨_,⟨n,⟨hw.1,hw.2⟩,rfl⟩,TRl.one (.simple rfl)⟩
   ·cases hc
  |bool=>
   refine⟨fun fuel t cs x hc h=> ?_,fun fl off t cs hc=>by simp[Sh.chk]at hc⟩;simp only[Sh.chk]at hc;split at hc
   ·rename_i ht;obtain⟨b,rfl,_⟩:=DataW.trod_bool ht h;exact⟨_,⟨b,rfl⟩,TRl.one (.simple rfl)⟩
   ·cases hc
  |str=>
   refine⟨fun fuel t cs x hc h=> ?_,fun fl off t cs hc=>by simp[Sh.chk]at hc⟩;simp only[Sh.chk]at hc;split at hc
   ·rename_i ht;obtain⟨b,rfl,_,hl⟩:=DataW.trod_string ht h;exact⟨_,⟨b,hl,rfl⟩,TRl.one (.simple rfl)⟩
   ·cases hc
  |unit=>
   refine⟨fun fuel t cs x hc h=>by simp[Sh.chk]at hc,fun fl off t cs hc hl hf=> ?_⟩;cases fl with
   |nil=>
    simp only[Sh.chk]at hc;have:=YE hc;refine⟨[],rfl, ?_⟩;rw[List.drop_eq_nil_of_le (by omega)];exact TRl.nil
   |cons f fl=>simp[Sh.chk]at hc
  |pair a b iha ihb=>
   refine⟨fun fuel t cs x hc h=>by simp[Sh.chk]at hc,fun fl off t cs hc hl hf=> ?_⟩;cases fl with
   |nil=>simp[Sh.chk]at hc
   |cons f fl=>
    simp only[Sh.chk,YB]at hc;obtain⟨h1,h2,h3,h4⟩:=hc;have h1:=YE h1;have h3:=YE h3;subst h1;obtain⟨fuel,x,hx⟩:=hf f (by simp);obtain⟨ta,oa,ra⟩:=iha.1 fuel f.type _ x h2 hx;obtain⟨tb,ob,rb⟩:=ihb.2 fl _ t cs h4 hl (fun g hg=>hf g (by simp[hg]));refine⟨ta++tb,⟨ta,tb,rfl,oa,ob⟩, ?_⟩;have:cs.drop f.offset=(cs.drop f.offset).take (P.cellsOf f.type)++cs.drop (f.offset+P.cellsOf f.type):=by
     rw[<-List.drop_drop,List.take_append_drop]
    rw[this];exact ra.append rb
  |struct f ih=>
   refine⟨fun fuel t cs x hc h=> ?_,fun fl off t cs hc=>by simp[Sh.chk]at hc⟩;simp only[Sh.chk]at hc;split at hc
   ·rename_i fs ht;obtain⟨xs,n,_,_,hl,hlen,hg⟩:=DataW.trod_struct ht h;obtain⟨ts,h1,h2⟩:=ih.2 fs.toList 0 t cs hc hl fun g hg'=>by
     obtain⟨i,hi⟩:=List.getElem?_of_mem hg';have hi':fs[i]? =some g:=by simpa using hi
     have:=hg i g hi';have Xi:i<xs.length:=by
      have:=(Array.getElem?_eq_some_iff.1 hi').1;omega
     rw[L7 Xi]at this;exact⟨n,_,this⟩
    exact⟨ts,h1,by simpa using h2⟩
   ·cases hc
  |slice e ih=>
   refine⟨fun fuel t cs x hc h=> ?_,fun fl off t cs hc=>by simp[Sh.chk]at hc⟩;simp only[Sh.chk]at hc;split at hc
   ·rename_i u ht;simp only[YB]at hc;obtain⟨hz,hc⟩:=hc;have hz:0<e.sz:=YL hz;rcases Deep.open_slice ht h with ⟨rfl,_⟩|⟨a,len,cap,m,n',D,Pl,rfl,_,hl,hm,hmm,_,hi⟩
    ·exact⟨_,⟨0,fun _=>Lu e.sz undef,fun k=>.inr (Nat.zero_le _),fun k=>by simp,rfl⟩,TRl.one .nil⟩
    ·simp only[if_true]at hmm;subst hmm;have each:∀k,∃r:List Value,(k<len->e.ok r/\(∀j,j<P.cellsOf u->w.cell? (a.add (k*P.cellsOf u+j))=none->False)/\∀(j:Nat) v v',r[j]? =some v->w.cell? (a.add (k*P.cellsOf u+j))=some v'->TRv (allM w) v v')/\r.length=e.sz/\(k<len->e.sz=P.cellsOf u):=by
      intro k;by_cases hk:k<len
      ·obtain⟨cs',hc',ht'⟩:=hi k (by omega);obtain⟨ts,ho,hr⟩:=ih.1 n' u cs' _ hc ht';obtain⟨_,hln,hat⟩:=World.cells?_some hc';have Zi:e.sz=P.cellsOf u:=by rw[<-Sh.ok_sz e ts ho,hr.1,hln]
       refine⟨ts,fun _=>⟨ho,fun j hj hnone=> ?_,fun j v v' hv ZW=> ?_⟩,Sh.ok_sz e ts ho,fun _=>Zi⟩
       ·have:=hat j hj;rw[Deep.add_add,hnone,L7 (by omega)]at this;cases this
       ·have hj:j<ts.length:=(List.getElem?_eq_some_iff.1 hv).1;have:=hat j (by rw[hr.1,hln]at hj;exact hj);rw[Deep.add_add,ZW]at this;exact hr.2 j v v' hv this.symm
      ·exact⟨Lu e.sz undef,fun h=>absurd h hk,by simp,fun h=>absurd h hk⟩
     refine⟨_,⟨len,fun k=>Classical.choose (each k),fun k=> ?_,fun k=>(Classical.choose_spec (each k)).2.1,rfl⟩,TRl.one ?_⟩
     ·by_cases hk:k<len
      ·exact .inl ((Classical.choose_spec (each k)).1 hk).1
      ·exact .inr (by omega)
     ·generalize hr:(fun k=>Classical.choose (each k))=r;have hr1:∀k,k<len->e.ok (r k)/\(∀j,j<P.cellsOf u->w.cell? (a.add (k*P.cellsOf u+j))=none->False)/\∀(j:Nat) v v',(r k)[j]? =some v->w.cell? (a.add (k*P.cellsOf u+j))=some v'->TRv (allM w) v v':=fun k hk=>by rw[<-hr];exact(Classical.choose_spec (each k)).1 hk
      have hr2:∀k,(r k).length=e.sz:=fun k=>by rw[<-hr];exact(Classical.choose_spec (each k)).2.1
      have hr3:∀k,k<len->e.sz=P.cellsOf u:=fun k hk=>(Classical.choose_spec (each k)).2.2 hk
      rcases Nat.eq_zero_or_pos len with rfl|hpos
      ·have:Qe r (Le 0)=#[]:=rfl;rw[this];exact .empty hm
      ·have Zi:=hr3 0 hpos;have hex:∃v,w.cell? a=some v:=by
        have:=(hr1 0 hpos).2.1 0 (by omega);have ea:a.add (0*P.cellsOf u+0)=a:=by simp[Addr.add]
        rw[ea]at this;cases hq:w.cell? a with
        |none=>exact absurd hq this
        |some v=>exact⟨v,rfl⟩
       obtain⟨v0,hv0⟩:=hex;obtain⟨b,o,arr,ty,fl,rfl,hb,_⟩:=AK hv0;have cellE:∀i,w.cell? ⟨b,o+i,none⟩=arr[o+i]? :=fun i=>by simp[World.cell?,hb]
       refine TRv.slice (o:=o) hl hm hb (fun i hi'=> ?_) fun i v v' hv ZW=> ?_
       ·obtain⟨k,j,hk,hj,rfl,_⟩:=pN hr2 (i:=i) (v:=(Qe r (Le len))[i]) (Array.getElem?_eq_getElem hi');have:=(hr1 k hk).2.1 j (by omega);rw[qy,<-Zi,cellE]at this;rcases LF (o+(k*e.sz+j)) arr.size with h1|h1
        ·exact h1
        ·exact absurd (L5 h1) this
       ·obtain⟨k,j,hk,hj,rfl,hkj⟩:=pN hr2 hv;refine(hr1 k hk).2.2 j v v' hkj ?_;rw[qy,<-Zi,cellE];exact ZW
   ·cases hc
 exact key.1
def Sh.arg:Sh->Value->Prop
 | .struct f,v=> ∃cs,v=.agg cs.toArray/\f.ok cs
 |s,v=>s.ok [v]
def tZ:List Sh->List Value->Prop
 |[],l=>l=[]
 |s::ss,l=> ∃t ts,l=t::ts/\s.arg t/\tZ ss ts
theorem E8{s:Sh}{t:TypeId}{v:Value}{d:DataW H}{ps:List MemPlace}{r:Reach}{b0:Nat}(hc:s.chk P none t=true)(hv:Value.okWide P w r b0 t v)(h:DataW.Trod enc P w 0 (fun _=>true) held t v d ps):∃tr,s.arg tr/\TRv (allM w) tr v:=by
 obtain⟨fuel,hf⟩:=h;obtain⟨ts,ho,hr⟩:=M0 s fuel t _ _ hc hf;have one:v.cells=#[v]->s.ok ts->(∀f,s≠.struct f)->∃tr,s.arg tr/\TRv (allM w) tr v:=fun hv1 ho hs=>by
  rw[hv1]at hr;match ts,hr,ho with
  |[tr],hr,ho=>
   refine⟨tr, ?_,hr.2 0 tr v rfl rfl⟩;cases s <;> first|exact ho|exact absurd rfl (hs _)
  |[],hr,_=>have:=hr.1;simp at this
  |_::_::_,hr,_=>have:=hr.1;simp at this
 cases s with
 |int=>
  simp only[Sh.chk]at hc;split at hc
  ·rename_i ht;obtain⟨n,rfl⟩:=okWide_int ht hv;exact one rfl ho fun f h=>by cases h
  ·cases hc
 |bool=>
  simp only[Sh.chk]at hc;split at hc
  ·rename_i ht;obtain⟨n,rfl⟩:=okWide_bool ht hv;exact one rfl ho fun f h=>by cases h
  ·cases hc
 |str=>
  simp only[Sh.chk]at hc;split at hc
  ·rename_i ht;obtain⟨n,rfl⟩:=okWide_string ht hv;exact one rfl ho fun f h=>by cases h
  ·cases hc
 |unit=>simp[Sh.chk]at hc
 |pair a b=>simp[Sh.chk]at hc
 |struct f=>
  simp only[Sh.chk]at hc;split at hc
  ·rename_i fs ht;obtain⟨cs,rfl,_⟩:=okWide_struct ht hv;refine⟨.agg ts.toArray,⟨ts,rfl,ho⟩,.agg ?_ fun i v v' h1 h2=> ?_⟩
   ·have:=hr.1;simpa[Value.cells]using this
   ·exact hr.2 i v v' (by simpa using h1) (by simpa[Value.cells]using h2)
  ·cases hc
 |slice e=>
  simp only[Sh.chk]at hc;split at hc
  ·rename_i u ht;obtain⟨a,l,c,rfl⟩:=okWide_slice ht hv;exact one rfl ho fun f h=>by cases h
  ·cases hc
def da(P:Program):List Sh->List TypeId->Bool
 |[],[]=>true
 |s::ss,t::ts=>s.chk P none t && da P ss ts
 |_,_=>false
theorem trodAll_cons{t:TypeId}{ts:List TypeId}{vs:List Value}{ds:List (DataW H)}{ps:List MemPlace}{base:Nat}{spare:Nat->Bool}(h:DataW.TrodAll enc P w base spare held (t::ts) vs ds ps):
 ∃v vs' d ds' p q,vs=v::vs'/\ds=d::ds'/\DataW.Trod enc P w base spare held t v d p/\DataW.TrodAll enc P w base spare held ts vs' ds' q/\ps=p++q:=by
 cases vs with
 |nil=>cases ds <;> simp[DataW.TrodAll]at h
 |cons v vs=>
  cases ds with
  |nil=>simp[DataW.TrodAll]at h
  |cons d ds=>
   simp only[DataW.TrodAll]at h;obtain⟨p,q,h1,h2,h3⟩:=h;exact⟨v,vs,d,ds,p,q,rfl,rfl,h1,h2,h3⟩
theorem trodAll_nil{vs:List Value}{ds:List (DataW H)}{ps:List MemPlace}{base:Nat}{spare:Nat->Bool}(h:DataW.TrodAll enc P w base spare held [] vs ds ps):vs=[]/\ds=[]/\ps=[]:=by
 cases vs <;> cases ds <;> simp[DataW.TrodAll]at h
 exact⟨rfl,rfl,h⟩
theorem OD:∀(ss:List Sh) (ts:List TypeId) (vs:List Value) (ds:List (DataW H)) (ps:List MemPlace) (r:Reach) (b0:Nat),da P ss ts=true->DataW.TrodAll enc P w 0 (fun _=>true) held ts vs ds ps->
 (∀(j:Nat) t v,ts[j]? =some t->vs[j]? =some v->Value.okWide P w r b0 t v)->∃trs,tZ ss trs/\TRl (allM w) trs vs
 |[],[],vs,ds,ps,r,b0,_,h,_=>by
  obtain⟨rfl,_,_⟩:=trodAll_nil h;exact⟨[],rfl,TRl.nil⟩
 |s::ss,t::ts,vs,ds,ps,r,b0,hc,h,hv=>by
  simp only[da,YB]at hc;obtain⟨v,vs',d,ds',p,q,rfl,rfl,h1,h2,rfl⟩:=trodAll_cons h;obtain⟨tr,ha,hr⟩:=E8 hc.1 (hv 0 t v rfl rfl) h1;obtain⟨trs,ha2,hr2⟩:=OD ss ts vs' ds' q r b0 hc.2 h2 fun j t v h1 h2=>hv (j+1) t v (by simpa using h1) (by simpa using h2)
  exact⟨tr::trs,⟨tr,trs,rfl,ha,ha2⟩,(TRl.one hr).append hr2⟩
 |[],_::_,_,_,_,_,_,hc,_,_=>by simp[da]at hc
 |_::_,[],_,_,_,_,_,hc,_,_=>by simp[da]at hc
theorem I4{J:World->Prop}{f:FuncId}{ss:List Sh}{ts:List TypeId}{args:Array Value}{ds:List (DataW H)}{ps:List MemPlace}{r:Reach}{b0:Nat}(hJ:J w)(hc:da P ss ts=true)(h:DataW.TrodAll enc P w 0 (fun _=>true) held ts args.toList ds ps)
 (hv:∀(j:Nat) t v,ts[j]? =some t->args[j]? =some v->Value.okWide P w r b0 t v) (walk:∀trs,tZ ss trs->Qv P J f trs.toArray (.bool true)):Calls P f args w fun e w'=>e=.returned (.bool true)/\Below w.heap.size w w':=by
 obtain⟨trs,ha,hr⟩:=OD ss ts args.toList ds ps r b0 hc h fun j t v h1 h2=>hv j t v h1 (by simpa using h2)
 refine(walk trs ha (allM w) w args hJ (fun b x h=>h) ⟨by simpa using hr.1,fun i v v' h1 h2=>hr.2 i v v' (by simpa using h1) (by simpa using h2)⟩).mono fun e w' ⟨v',he,hb,ht⟩=>⟨?_,hb⟩
 rw[he,TRv.simple_eq rfl ht]
theorem cw(hl:laidOutB P=true){W W':World}(hb:Below W.heap.size W W'):∀(ts:List TypeId) (vs:List Value) (ds:List (DataW H)) (ps:List MemPlace),(ts.all fun t=>P.readableRec t && decide (t<P.types.size))=true->DataW.TrodAll enc P W 0 (fun _=>true) true ts vs ds ps->(∀x∈ps,x.block<W.heap.size)->
 DataW.TrodAll enc P W' 0 (fun b=>decide (b<W.heap.size)) true ts vs ds ps
 |[],vs,ds,ps,_,h,_=>by
  obtain⟨rfl,rfl,rfl⟩:=trodAll_nil h;exact rfl
 |t::ts,vs,ds,ps,ha,h,Xi=>by
  simp only[List.all_cons,YB,decide_eq_true_eq]at ha;obtain⟨v,vs',d,ds',p,q,rfl,rfl,h1,h2,rfl⟩:=trodAll_cons h;exact⟨p,q,Below.trod hl ha.1.1 ha.1.2 h1 hb fun x hx=>Xi x (Lg _ hx),cw hl hb ts vs' ds' q ha.2 h2 fun x hx=>Xi x (Lt _ hx),rfl⟩
theorem M6{α:Type}{s:Sh}{e:α->List Value}(dec:∀cs,s.ok cs->∃x,cs=e x){n:Nat}{r:Nat->List Value}(h:∀k,s.ok (r k)\/n<=k):∃xs:List α,xs.length=n/\Qe r (Le n)=Qe e xs:=by
 induction n with
 |zero=>exact⟨[],rfl,rfl⟩
 |succ n ih=>
  obtain⟨xs,hl,hx⟩:=ih fun k=>(h k).imp id fun h=>by omega
  obtain⟨x,hxe⟩:=dec (r n) ((h n).resolve_right (by omega));refine⟨xs++[x],by simp[hl], ?_⟩;unfold Qe at hx ⊢;rw[List.range_succ,List.flatMap_append,List.flatMap_append];have:(Le n).flatMap r=xs.flatMap e:=by simpa using hx
  rw[this];simp[hxe]
theorem EL{α:Type}{s:Sh}{e:α->List Value}(dec:∀cs,s.ok cs->∃x,cs=e x){cs:List Value}(h:Sh.ok (.slice s) cs):∃xs:List α,cs=[Xo xs.length (Qe e xs)]:=by
 obtain⟨n,r,h1,_,rfl⟩:=h;obtain⟨xs,rfl,hx⟩:=M6 dec h1;exact⟨xs,by rw[hx]⟩
def Sh.zero:Sh->List Value
 | .int=>[.int .i64 0]
 | .bool=>[.bool false]
 | .str=>[.string ⟨#[]⟩]
 | .unit=>[]
 | .pair a b=>a.zero++b.zero
 | .struct f=>f.zero
 | .slice _=>[.slice none 0 0]
def Sh.zeroA:Sh->Value
 | .struct f=>.agg f.zero.toArray
 |s=>s.zero.headD undef
def shS(l:List Sh):Sh:=.struct (l.foldr .pair .unit)
end
end Go.CE
