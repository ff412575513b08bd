/- TW 7: heads and ends of runs with trees; contracts. -/
import Derived.Test.YtncjjangllkokaaZRT09
import Derived.Deep.Slices
import Derived.Carry
import Derived.WideShapes
import Derived.ChangeShapes
import Derived.SevenTiedAt
set_option linter.all false
namespace Go.CE
open Go Go.RowKit

def XV:Qo:=[(0,Xa)]
def QH(objs:List Obj):Qo:=(0,Xa)::(1,Xa)::QU 2 objs
theorem qO(objs:List Obj)(j:Nat):Qs (QH objs) j=if j=0 then some Xa else if j=1 then some Xa else objs[j-2]? :=by
 unfold QH;rw[QV,QV,Vd];by_cases h0:j=0
 ·simp[h0]
 ·by_cases h1:j=1
  ·simp[h1]
  ·rw[if_neg h0,if_neg h1,if_pos (by omega),if_neg h0,if_neg h1]
theorem fS(objs:List Obj):Under (QH objs) (2+objs.length):=fun i hi=>by
 rw[qO,if_neg (by omega),if_neg (by omega),List.getElem?_eq_none (by omega)]
def Sm(H:Qo)(m:Nat)(pos:Nat->Option Nat)(fz:List Fz):List (Nat×KS)->Option (List Obj×List Prop)
 |[]=>some ([],[])
 |(k,s)::l=>match ND H m pos fz (Qs H k) s with
  |some (o,L)=>match Sm H m pos fz l with
   |some (os,L2)=>some (o::os,L++L2)
   |none=>none
  |none=>none
structure M0 where
 fn:FuncId
 len:Nat
 todo:List Item
 defers:List Nat
 mode:CM
 roundOf:Option Nat
 vals:List Value
 objs:List Obj
 L:List Prop
def G8:Option Obj->Bool
 |some (.cells _ _ (0,0))=>true
 |_=>false
def landM(s:Option ST)(JK:List Nat)(keeps:List (Nat×KS))(fz:List Fz):Option M0:=match s with
 |some ⟨.at c H n,W,L⟩=>bif W.isEmpty && distinct (keeps.map (·.1)) && (keeps.all fun k=>Nat.ble 1 k.1) && (fz.all fun x=>Nat.ble 1 x.k && G8 (Qs H x.k) && (keeps.all fun k=> !(Nat.beq k.1 x.k)))then
  match qS (sR H 1 (posOf (keeps.map (·.1)) 2) fz 3) (JK.map (X7 c.tmps)),Sm H 1 (posOf (keeps.map (·.1)) 2) fz keeps with
  |some (vs,L1),some (os,L2)=>some ⟨c.fn,c.tmps.len,c.todo,c.defers,c.mode,c.roundOf,vs,os,L1++(L2++L)⟩
  |_,_=>none
   else none
 |_=>none
section
variable {P:Program} {F:FuncId->Bool} {J:World->Prop} {B:Lo}
theorem jz{f:Value->Option (Value×List Prop)}:∀(l ts:List Value) (L:List Prop),qS f l=some (ts,L)->ts.length=l.length/\∀(i:Nat) v,ts[i]? =some v->∃u L1,l[i]? =some u/\f u=some (v,L1)/\(Qz L->Qz L1)
 |[],ts,L,h=>by
  simp only[qS,YO,YR]at h;obtain⟨rfl,rfl⟩:=h;exact⟨rfl,fun i v h=>by simp at h⟩
 |v::l,ts,L,h=>by
  simp only[qS]at h;split at h
  ·rename_i t L1 h1;split at h
   ·rename_i ts2 L2 h2;simp only[YO,YR]at h;obtain⟨rfl,rfl⟩:=h;obtain⟨k1,k2⟩:=jz l ts2 L2 h2;refine⟨by simp[k1],fun i u x=> ?_⟩;cases i with
    |zero=>
     simp only[List.getElem?_cons_zero,YO]at x;subst x;exact⟨v,L1,rfl,h1,fun h=>(Xc h).1⟩
    |succ i=>
     obtain⟨u',L',a,b,c⟩:=k2 i u (by simpa using x);exact⟨u',L',by simpa using a,b,fun h=>c (Xc h).2⟩
   ·cases h
  ·cases h
theorem UT{H:Qo}{m:Nat}{pos:Nat->Option Nat}{fz:List Fz}:∀(l:List (Nat×KS)) (os:List Obj) (L:List Prop),Sm H m pos fz l=some (os,L)->os.length=l.length/\∀(i:Nat) o,os[i]? =some o->∃k s L1,l[i]? =some (k,s)/\ND H m pos fz (Qs H k) s=some (o,L1)/\(Qz L->Qz L1)
 |[],os,L,h=>by
  simp only[Sm,YO,YR]at h;obtain⟨rfl,rfl⟩:=h;exact⟨rfl,fun i v h=>by simp at h⟩
 |(k,s)::l,os,L,h=>by
  simp only[Sm]at h;split at h
  ·rename_i t L1 h1;split at h
   ·rename_i ts2 L2 h2;simp only[YO,YR]at h;obtain⟨rfl,rfl⟩:=h;obtain⟨k1,k2⟩:=UT l ts2 L2 h2;refine⟨by simp[k1],fun i u x=> ?_⟩;cases i with
    |zero=>
     simp only[List.getElem?_cons_zero,YO]at x;subst x;exact⟨k,s,L1,rfl,h1,fun h=>(Xc h).1⟩
    |succ i=>
     obtain⟨k',s',L',a,b,c⟩:=k2 i u (by simpa using x);exact⟨k',s',L',by simpa using a,b,fun h=>c (Xc h).2⟩
   ·cases h
  ·cases h
theorem TR.merge{μ' μ1:Mu}{T':Tm}{A:Array Value}{len:Nat}{live:List (Nat×Value)}(h:TR μ' T' A)(hlen:T'.len=len)(hl:len<=16000)(hlive:∀p∈live,∀v',VR μ' (X7 T' p.1) v'->VR μ1 p.2 v')
 {d:Nat->Value} (hd:∀t,X6 (d t)/\∀μ v',VR μ (X7 T' t) v'->VR μ (d t) v'):TR μ1 (Ii len live d) A:=by
 refine⟨hlen ▸ h.1,fun t=> ?_⟩;rw[Lk hl];have ht:=h.2 t;split
 ·rcases Ap live t (d t)with e|⟨v,hv,e⟩
  ·rw[e];exact(hd t).1 μ' μ1 _ ((hd t).2 μ' _ ht)
  ·rw[e];exact hlive _ hv _ ht
 ·rename_i Xh;have:A.getD t undef=undef:=by
   have:A.size<=t:=by rw[<-h.1,hlen];omega
   simp[this]
  rw[this];exact VR.undef
theorem GoE.landM{c0 c:CF}{H:Qo}{n:Nat}(hF:∀g,F g=true->Q3 P g=true)(hJ:∀w,B.has w->J w)(XP:P.follows .mixedOrders=true)(h:GoE P B c0 XV 1 c H n []){fuel:Nat}{sc:Q5}{f:FuncId}{len:Nat}{todo:List Item}{JK:List Nat}{keeps:List (Nat×KS)}{fz:List Fz}{vs:List Value}{os:List Obj}{L:List Prop}
 (e:CE.landM (Qq P F J B fuel 1 c H n sc 0 [] []) JK keeps fz=some ⟨f,len,todo,[],.run,none,vs,os,L⟩) (hL:Qz L) (hlen:Nat.ble len 16000=true) (hplain:todo.all V8=true):
 ∃d:Nat->Value,(∀t,X6 (d t))/\GoE P B c0 XV 1 (QJ f len (JK.zip vs) d todo) (QH os) (2+os.length) []:=by
 unfold CE.landM at e;split at e
 ·rename_i c' H' n' W' L' hs;have e:=e;cases hq:(W'.isEmpty && distinct (keeps.map (·.1)) && (keeps.all fun k=>Nat.ble 1 k.1) && (fz.all fun x=>Nat.ble 1 x.k && G8 (Qs H' x.k) && (keeps.all fun k=> !(Nat.beq k.1 x.k))))with
  |false=>rw[hq]at e;cases e
  |true=>
   rw[hq]at e;simp only[cond_true]at e;split at e
   ·rename_i vs0 L1 os0 L2 hvs hos;simp only[YO,M0.mk.injEq]at e;obtain⟨e1,e2,e3,e4,e5,e6,rfl,rfl,rfl⟩:=e;obtain⟨hL1,hL23⟩:=Xc hL;obtain⟨hL2,hL3⟩:=Xc hL23;simp only[YB]at hq;obtain⟨⟨⟨hW,hdist⟩,hge⟩,hfz⟩:=hq;have hWe:W'=[]:=by simpa using hW
    subst hWe;obtain⟨R,W2,J4,hiff⟩:=ZU hF hJ XP fuel 1 c H n sc 0 [] [] _ h.under hs hL3;have hg:=(h.step J4).lists (W1:=[]) (fun i hi=>by
     have:=hiff i hi;simp only[List.not_mem_nil,false_or]at this;simp[<-this])
    have hd:∀t,∃d,X6 d/\∀μ v',VR μ (X7 c'.tmps t) v'->VR μ d v':=fun t=>Ki _
    have hlenos:=(UT keeps os0 L2 hos).1;refine⟨fun t=>Classical.choose (hd t),fun t=>(Classical.choose_spec (hd t)).1,fS _,by omega,fun Z μ w fr cs QC hB hf X5=> ?_⟩;obtain⟨fr',w',μ',hp,Yu,a,b,Z7⟩:=hg.sem Z μ w fr cs QC hB hf X5;let ρ:Nat->Nat:=fun i=>if i=0 then 0 else((keeps.map (·.1))[i-2]?).getD i
    have hρ:∀i k,2<=i->(keeps.map (·.1))[i-2]? =some k->ρ i=k:=fun i k hi hk=>by
     show(if i=0 then 0 else((keeps.map (·.1))[i-2]?).getD i)=k;rw[if_neg (by omega),hk];rfl
    have get:∀i,1<i->i<2+os0.length->∃k,(keeps.map (·.1))[i-2]? =some k/\ρ i=k/\1<=k:=by
     intro i h1 h2;have Xh:i-2<keeps.length:=by omega
     refine⟨(keeps[i-2]).1,by simp[Xh],hρ i _ (by omega) (by simp[Xh]), ?_⟩;exact YL (List.all_eq_true.1 hge _ (List.getElem_mem Xh))
    let im1:aO:=⟨0,0,0,false,K0 μ' H' w' (Yv H' n'++fz.map (·.k))⟩
    let μ1:=ja 1 (2+os0.length) ρ μ μ' (K0 μ' H' w' (Yv H' n'++fz.map (·.k)))
    have hco:ym H' 1 (posOf (keeps.map (·.1)) 2) fz μ' μ1 w' n' (fz.map (·.k)) im1:=by
     refine⟨⟨B.B,_,hp.ok,fun i hi=> ?_⟩,hg.under,fun k j hj=> ?_, ?_,rfl,fun x hx=>List.mem_map.2 ⟨x,hx,rfl⟩⟩
     ·rcases Nat.lt_or_ge i 1 with h|h
      ·exact .inl h
      ·exact .inr ⟨h,hi⟩
     ·obtain⟨h1,h2⟩:=RO _ _ _ _ hj;have Xh:j-2<keeps.length:=by
       have:=(List.getElem?_eq_some_iff.1 h2).1;simpa using this
      show ja 1 (2+os0.length) ρ μ μ' _ j=μ' k;unfold ja;rw[if_neg (by omega),if_pos ⟨by omega,by omega⟩,hρ j k h1 h2]
     ·show ja 1 (2+os0.length) ρ μ μ' _ 1=some im1;unfold ja;rw[if_pos rfl]
    have hkeeps:AQ 1 n' (2+os0.length) [] μ μ' XV H' (QH os0) w' ρ (fz.map (·.k)):=by
     refine⟨by omega,fun i hi=> ?_,fun i h1 h2=> ?_,fun i j h1 h2 h3 h4 h5=> ?_,fS _,fun i hi _=> ?_, ?_,fun i o1 hi hc ho=> ?_,fun k hk=> ?_⟩
     ·have:i=0:=by omega
      subst this;rfl
     ·obtain⟨k,hk,hk2,hk3⟩:=get i h1 h2;refine⟨by omega, ?_⟩;rw[hk2];have Xh:i-2<os0.length:=by omega
      obtain⟨k',s,L',ha,hb,hc⟩:=(UT keeps os0 L2 hos).2 (i-2) os0[i-2] (by simp[Xh]);have:k'=k:=by
       rw[List.getElem?_map,ha]at hk;simpa using hk
      subst this;obtain⟨⟨x,hx⟩,_⟩:=Rv hco hb (hc hL2);exact hg.under.lt hx
     ·obtain⟨k,hk,hk2,_⟩:=get i h1 h2;obtain⟨k',hk',hk2',_⟩:=get j h3 h4;rw[hk2,hk2']at h5;subst h5;have:=Y4 hdist _ _ _ hk hk';omega
     ·have:i=0:=by omega
      subst this;rfl
     ·rfl
     ·have h1i:1<i:=hc.elim id fun h=>by simp at h
      rw[qO,if_neg (by omega),if_neg (by omega)]at ho;obtain⟨k,s,L',ha,hb,hc'⟩:=(UT keeps os0 L2 hos).2 (i-2) o1 ho;obtain⟨_,hnr,P0⟩:=Rv hco hb (hc' hL2);refine⟨hnr,fun hl1=> ?_⟩;obtain⟨x,hx,hl,ZL⟩:=P0 hl1;refine⟨x, ?_,hl,fun im _ h=>ZL im h⟩;rw[hρ i k (by omega) (by rw[List.getElem?_map,ha];rfl)];exact hx
     ·obtain⟨x,hx,rfl⟩:=List.mem_map.1 hk;have:=List.all_eq_true.1 hfz x hx;simp only[YB]at this;obtain⟨⟨q1,q2⟩,q3⟩:=this;have hown:∃o,Qs H' x.k=some o/\live o:=by
       unfold G8 at q2;split at q2
       ·rename_i ho;exact⟨_,ho,trivial⟩
       ·cases q2
      obtain⟨o,ho,hl⟩:=hown;refine⟨YL q1,hg.under.lt ho,⟨o,ho,hl⟩,fun i h1 h2 hr=> ?_⟩;obtain⟨k,hk,hk2,_⟩:=get i h1 h2;rw[hk2]at hr;rw[List.getElem?_map]at hk;cases hy:keeps[i-2]? with
      |none=>rw[hy]at hk;cases hk
      |some y=>
       rw[hy]at hk;simp only[Option.map_some,YO]at hk;have:=List.all_eq_true.1 q3 y (List.mem_of_getElem? hy);rw[hk,hr]at this;simp at this
    have XC:=hp.merge QC hf hkeeps;have hpans:c'.mode.pans=false:=by rw[e5];rfl
    refine⟨fr',w',_,XC,⟨by rw[Yu.fn,e1];rfl, ?_,fun _=>(e3 ▸ Yu.todo hpans).plain hplain, ?_, ?_,Yu.kind, ?_⟩,a,b,Z7⟩
    ·refine Yu.tmps.merge e2 (YL hlen) (fun p hp v' hv=> ?_) fun t=>Classical.choose_spec (hd t)
     obtain⟨i,hi⟩:=List.getElem?_of_mem hp;rw[List.getElem?_zip_eq_some]at hi;obtain⟨hi1,hi2⟩:=hi;obtain⟨u,L',ha,hb,hc⟩:=(jz _ _ _ hvs).2 i p.2 hi2;rw[List.getElem?_map,hi1]at ha;simp only[Option.map_some,YO]at ha;subst ha;exact VG hco 3 _ _ _ _ hb (hc hL1) hv
    ·have:=Yu.defers;rw[e4]at this;exact .of_empty this.empty
    ·have:=Yu.mode;rw[e5]at this;generalize fr'.mode=ds at this;cases this;exact .run
    ·have:=Yu.round;rw[e6]at this;generalize fr'.roundOf=x at this;cases x with
     |none=>trivial
     |some x=>cases this
   ·cases e
 ·cases e
def QQ(s:Option ST)(fz:List Fz):Option (Value×List Prop):=match s with
 |some ⟨.fin (.ret v) H _,W,L⟩=>bif W.isEmpty then match VH H fz 3 v with
  |some (t,_,L2)=>some (t,L2++L)
  |none=>none
   else none
 |_=>none
def EndsT(P:Program)(B:Lo)(c0:CF)(out:Value):Prop:=
 ∀(μ:Mu) (w:World) (fr:Frame) (cs:List Frame) (im:aO),Ok B (fun i=>i<1) μ (Qs XV) w->B.has w->(∀i,1<=i->μ i=none)->μ 0=some im->FrR Bot.no μ c0 fr->
  ∃v' w',Below w.heap.size w w'/\TRv (Px im.fm w w') out v'/\EndsAs P fr cs w (.ret v') w'
theorem GoE.endsT{c0 c:CF}{H:Qo}{n:Nat}(hF:∀g,F g=true->Q3 P g=true)(hJ:∀w,B.has w->J w)(XP:P.follows .mixedOrders=true)(h:GoE P B c0 XV 1 c H n []){fuel:Nat}{sc:Q5}{fz:List Fz}{out:Value}{L:List Prop}
 (e:QQ (Qq P F J B fuel 1 c H n sc 0 [] []) fz=some (out,L)) (hL:Qz L):EndsT P B c0 out:=by
 unfold QQ at e;split at e
 ·rename_i v H' n' W' L' hs;cases hW:W'.isEmpty with
  |false=>rw[hW]at e;cases e
  |true=>
   rw[hW]at e;simp only[cond_true]at e;split at e
   ·rename_i t R2 L2 Z7;simp only[YO,YR]at e;obtain⟨rfl,rfl⟩:=e;obtain⟨hL2,hL1⟩:=Xc hL;have hWe:W'=[]:=by simpa using hW
    subst hWe;obtain⟨R,W2,hfj,hiff⟩:=ZU hF hJ XP fuel 1 c H n sc 0 [] [] _ h.under hs hL1;intro μ w fr cs im QC hB hf QF X5;obtain⟨XY,w',μ',hp,ho,he⟩:=h.fj hfj μ w fr cs QC hB hf X5;have hnoW:∀i,i∈[]++W2->¬i<1:=fun i hi Xh=>by
     have:=(hiff i Xh).2 (.inr (by simpa using hi));simp at this
    have Si:Below w.heap.size w w':=⟨hp.os,hp.tape,hp.output,hp.grow,fun b hb=>hp.frame b hb fun i hi hl=>absurd hl (hnoW i hi)⟩
    cases ho with
    |ret Vf=>
     rename_i v';refine⟨v',w',Si, ?_,he⟩;have hu':Under H' n':=h.under.shape hfj.shape;have hle:=hp.le
     -- of what is looked at, all is there
     have VJ:∀r,(Qs H' r).isSome->r<1\/1<=r/\r<n':=fun r hr=>by
      have:r<n':=by
       cases hg:Qs H' r with
       |none=>rw[hg]at hr;cases hr
       |some o=>exact hu'.lt hg
      omega
     have hok2:Ok B.B (fun _=>True) μ' (Qs H') w':=
      ⟨fun i o _ ho=>hp.ok.rel i o (VJ i (by rw[ho];rfl)) ho,fun i o im _ ho=>hp.ok.low i o im (VJ i (by rw[ho];rfl)) ho,
       fun i j oi oj a b _ _ Pa ZT ZS=>hp.ok.inj i j oi oj a b (VJ i (by rw[ZT];rfl)) (VJ j (by rw[ZS];rfl)) Pa ZT ZS,
       fun i o _ ho=>hp.ok.KL i o (VJ i (by rw[ho];rfl)) ho,fun i j oi oj a b x _ _ ZT ZS=>hp.ok.sep i j oi oj a b x (VJ i (by rw[ZT];rfl)) (VJ j (by rw[ZS];rfl)) ZT ZS⟩
     refine(Ko hok2 3 v v' t R2 L2 Z7 hL2 (fun _ _=>trivial) Vf).mono fun b x hx=> ?_
     have hw:=WI hx;unfold K0 at hx;split at hx
     ·rename_i hc;obtain⟨i,_,o,im2,hio,Wt,Uz⟩:=hc;have hi:=VJ i (by rw[hio];rfl);have old0:∀i,i<1->i=0:=fun i h=>by omega
      have keep0:Qs H' 0=some Xa:=by
       rw[hp.keep 0 (by omega) fun e=>hnoW 0 e (by omega)];rfl
      have mu0:μ' 0=some im:=by rw[hp.ext 0 (by omega)];exact QF
      have below:b<w.heap.size->im.fm b=some x->Px im.fm w w' b=some x:=fun h1 h2=>by unfold Px;rw[if_pos h1];exact h2
      have above:w.heap.size<=b->Px im.fm w w' b=some x:=fun h1=>by unfold Px;rw[if_neg (by omega)];exact hw
      have from0:im.fm b=some x->Px im.fm w w' b=some x:=fun h=>by
       refine below ?_ h;exact Yp QC (i:=0) (o:=Xa) (show 0<1 by omega) rfl trivial QF h
      rcases Uz with ⟨W9,Kw⟩|⟨hl,hb⟩
      ·cases hfx:im2.fm b with
       |none=>exact absurd hfx Kw
       |some y=>
        obtain⟨im3,him3,hf3⟩:=hp.ok.KL i o hi hio W9;rw[Wt]at him3;cases him3;have:=hf3 b y hfx;rw[hw]at this;cases this;rcases hi with hi|hi
        ·rw[old0 i hi,mu0]at Wt;cases Wt;exact from0 hfx
        ·rcases hp.rf i im2 o (.inl hi) hio W9 Wt b x hfx with c|⟨k,VP,ko,hk,_,hko,_,hkm,hkb⟩|⟨k,hk,hkn,_⟩
         ·exact above c
         ·rw[old0 k hk,QF]at hkm;cases hkm;exact from0 hkb
         ·exact absurd hkn (hnoW k hk)
      ·rcases hi with hi|hi
       ·rw[old0 i hi,keep0]at hio;cases hio;exact hl.elim
       ·rcases(hp.fresh i im2 o hi.1 hi.2 hio hl Wt).2 with c|⟨k,hk,hkn,_⟩
        ·exact above (by omega)
        ·exact absurd hkn (hnoW k hk)
     ·cases hx
   ·cases e
 ·cases e
theorem Xn{g:FuncId}{ts:List Value}{out:Value}{c0:CF}(Z7:∀w w':World,(∀b,b<w.heap.size->w'.heap[b]? =w.heap[b]?)->J w->J w')(hc:Wa P g (ts.map (Q2 0 4)).toArray=some c0)(QC:(ts.all (rU 4))=true)
 (h:∀B:Lo,(∀w,B.has w->J w)->EndsT P B c0 out):Qx P J g ts.toArray out:=by
 intro fm w args' hJ hfm hargs cs;let B:Lo:=⟨w.heap.size,fun w'=> ∀b,b<w.heap.size->w'.heap[b]? =w.heap[b]?,fun _ _ h hi b hb=>(h b hb).trans (hi b hb)⟩
 have hB:B.has w:=⟨Nat.le_refl _,fun _ _=>rfl⟩
 let im:aO:=⟨0,0,0,false,fm⟩
 let μ:Mu:=fun i=>if i=0 then some im else none
 have hOk:Ok B.B (fun i=>i<1) μ (Qs XV) w:=by
  have only:∀i o,Qs XV i=some o->i=0/\o=Xa:=by
   intro i o h;simp only[XV,QV,Qs]at h;split at h
   ·rename_i e;exact⟨e,by simpa using h.symm⟩
   ·cases h
  refine⟨fun i o _ ho hl=> ?_,fun i o im _ ho hl=> ?_,fun i j oi oj a b _ _ _ ho _ hl=> ?_,fun i o _ ho _=> ?_,fun i j oi oj a b x _ _ _ ho _ hl=> ?_⟩
  ·rw[(only i o ho).2]at hl;exact hl.elim
  ·rw[(only i o ho).2]at hl;exact hl.elim
  ·rw[(only i oi ho).2]at hl;exact hl.elim
  ·exact⟨im,by rw[(only i o ho).1];rfl,hfm⟩
  ·rw[(only j oj ho).2]at hl;exact hl.elim
 have hv:VRs μ (ts.map (Q2 0 4)).toArray args':=by
  refine⟨by simpa using hargs.1,fun i v v' hv ZY=> ?_⟩;simp only[List.getElem?_toArray,List.getElem?_map]at hv;cases ht:ts[i]? with
  |none=>rw[ht]at hv;cases hv
  |some t=>
   rw[ht]at hv;simp only[Option.map_some,YO]at hv;subst hv;exact PH (im:=im) rfl 4 t v' (List.all_eq_true.1 QC t (List.mem_of_getElem? ht)) (hargs.2 i t v' (by simpa using ht) ZY)
 obtain⟨v',w',hb,ht,he⟩:=h B (fun w' h=>Z7 w w' h.inv hJ) μ w (Frame.enter P g args' .normal) cs im hOk hB (fun i hi=>by show(if i=0 then _ else _)=_;rw[if_neg (by omega)]) rfl (Ui hc hv);obtain⟨frE,h1,h2,h3⟩:=he.1 rfl;exact⟨.returned v',w',frE,⟨v',rfl,hb,ht⟩,h1,h2,h3⟩
theorem GoE.start{c0:CF}:GoE P B c0 XV 1 c0 XV 1 []:=GoE.refl (fun i hi=>by simp only[XV,QV,Qs];rw[if_neg (by omega)])
end
end Go.CE

namespace Go.CE
open Go Go.RowKit

def Qg{α:Type}(e:α->List Value)(xs:List α):Array Value:=(xs.flatMap e).toArray
def Q9(n:Int):List Value:=[.int .i64 n]
abbrev Xr(xs:List Int):Value:=QE xs.length (Qg Q9 xs)
section
variable {α:Type} {e:α->List Value} {z:Nat} {xs:List α}
theorem ij(h:∀x,(e x).length=z):∀xs:List α,(xs.flatMap e).length=xs.length*z
 |[]=>by simp
 |x::xs=>by simp[h,ij h xs,Nat.add_mul,Nat.add_comm]
theorem Zf(h:∀x,(e x).length=z):(Qg e xs).size=xs.length*z:=by simp[Qg,ij h]
theorem flat_get(h:∀x,(e x).length=z):∀(xs:List α) (k j:Nat) (x:α),j<z->xs[k]? =some x->(xs.flatMap e)[k*z+j]? =(e x)[j]?
 |[],k,j,x,hj,hk=>by simp at hk
 |y::xs,0,j,x,hj,hk=>by
  simp only[List.getElem?_cons_zero,YO]at hk;subst hk;simp only[List.flatMap_cons,Nat.zero_mul,Nat.zero_add];rw[List.getElem?_append_left (by rw[h];exact hj)]
 |y::xs,k+1,j,x,hj,hk=>by
  simp only[List.flatMap_cons];rw[List.getElem?_append_right (by rw[h,Nat.add_mul];omega),h,show(k+1)*z+j-z=k*z+j by rw[Nat.add_mul];omega];exact flat_get h xs k j x hj (by simpa using hk)
theorem S7[Inhabited α](h:∀x,(e x).length=z){k j:Nat}(hk:k<xs.length)(hj:j<z):(Qg e xs)[k*z+j]? =(e (xs.getD k default))[j]? :=by
 have hx:xs[k]? =some (xs.getD k default):=by simp[hk]
 simp only[Qg,List.getElem?_toArray];exact flat_get h xs k j _ hj hx
theorem I0[Inhabited α](h:∀x,(e x).length=z){k j:Nat}{v:Value}(hk:k<xs.length)(hv:(e (xs.getD k default))[j]? =some v):(Qg e xs)[k*z+j]? =some v:=by
 have hj:j<z:=by rw[<-h (xs.getD k default)];exact(List.getElem?_eq_some_iff.1 hv).1
 rw[S7 h hk hj,hv]
theorem Q4[Inhabited α](h:∀x,(e x).length=z){k:Nat}(hk:k<xs.length):(Qg e xs).extract (k*z) (k*z+z)=(e (xs.getD k default)).toArray:=by
 have Zm:=Zf (xs:=xs) h;have hle:k*z+z<=xs.length*z:=by
  have:=Nat.mul_le_mul_right z (show k+1<=xs.length by omega);rw[Nat.add_mul,Nat.one_mul]at this;exact this
 refine Array.ext (by simp[Zm,h];omega) fun i h1 h2=> ?_
 have hi:i<z:=by simpa[h]using h2
 have a:=S7 (xs:=xs) h hk hi;rw[Array.getElem_extract];have b:(Qg e xs)[k*z+i]? =some ((Qg e xs)[k*z+i]'(by rw[Zm];omega)):=by simp
 have c:(e (xs.getD k default))[i]? =some ((e (xs.getD k default)).toArray[i]'h2):=by simp
 rw[b,c]at a;exact Option.some.inj a
theorem WY{x:α}:Qg e xs++(e x).toArray=Qg e (xs++[x]):=by simp[Qg]
theorem QN(h:∀x,∀v∈e x,simple v=true):∀v∈Qg e xs,simple v=true:=fun v hv=>by
 simp only[Qg,List.mem_toArray,List.mem_flatMap]at hv;obtain⟨x,_,hx⟩:=hv;exact h x v hx
theorem Zd{rs:List Nat}(h:∀x,∀v∈e x,simple v=true):Zu rs (Qg e xs) (Qg e xs):=aN (Array.all_eq_true'.2 (QN h))
theorem xQ{x:α}(h:∀x,(e x).length=z):∀(xs:List α) (k i:Nat),k<xs.length->((xs.set k x).flatMap e)[i]? =if k*z<=i/\i<k*z+z then(e x)[i-k*z]? else(xs.flatMap e)[i]?
 |[],k,i,hk=>by simp at hk
 |y::xs,0,i,hk=>by
  simp only[List.set_cons_zero,List.flatMap_cons,Nat.zero_mul,Nat.zero_add,Nat.zero_le,true_and,Nat.sub_zero];by_cases hi:i<z
  ·rw[if_pos hi,List.getElem?_append_left (by rw[h];exact hi)]
  ·rw[if_neg hi,List.getElem?_append_right (by rw[h];omega),List.getElem?_append_right (by rw[h];omega),h,h]
 |y::xs,k+1,i,hk=>by
  simp only[List.set_cons_succ,List.flatMap_cons];by_cases hi:i<z
  ·rw[List.getElem?_append_left (by rw[h];exact hi),if_neg (by rw[Nat.add_mul];omega),List.getElem?_append_left (by rw[h];exact hi)]
  ·rw[List.getElem?_append_right (by rw[h];omega),List.getElem?_append_right (by rw[h];omega),h,xQ h xs k (i-z) (by simpa using hk)];by_cases hc:k*z<=i-z/\i-z<k*z+z
   ·rw[if_pos hc,if_pos (by rw[Nat.add_mul];omega),show i-z-k*z=i-(k+1)*z by rw[Nat.add_mul];omega]
   ·rw[if_neg hc,if_neg (by rw[Nat.add_mul];omega)]
theorem fX{x:α}(h:∀x,(e x).length=z){k:Nat}(hk:k<xs.length):k*z+z<=(Qg e xs).size/\splice (Qg e xs) (k*z) (e x).toArray=Qg e (xs.set k x):=by
 have Zm:=Zf (xs:=xs) h;have hle:k*z+z<=xs.length*z:=by
  have:=Nat.mul_le_mul_right z (show k+1<=xs.length by omega);rw[Nat.add_mul,Nat.one_mul]at this;exact this
 refine⟨by rw[Zm];exact hle,Array.ext_getElem? fun i=> ?_⟩;have a:(Qg e (xs.set k x))[i]? =((xs.set k x).flatMap e)[i]? :=by simp[Qg]
 have b:(Qg e xs)[i]? =(xs.flatMap e)[i]? :=by simp[Qg]
 rw[a,xQ h xs k i hk,<-b];rw[UM (by rw[Zm];simp[h];exact hle)];simp[h]
end
theorem TRv.len'{fm:Nat->Option Obj}{n:Nat}{cs:Array Value}{v':Value}(h:TRv fm (QE n cs) v'):n<=maxLen:=by
 rcases h.slice_inv with ⟨_,_,_,_,_,_,_,h1,h2,_⟩|⟨rfl,_⟩
 ·omega
 ·exact Nat.zero_le _
theorem Jx{a b:Int}(h:a≠b):(!Km a b)=true:=by rw[Pd h];rfl
theorem Yq{a b:Int}(h:a=b):(!Km a b)=false:=by rw[Pc h];rfl
theorem Vx{m:Nat}{rs:List Nat}{cs:Array Value}(h:cs.all simple=true):XA m rs cs cs:=QK fun v hv=>Array.all_eq_true'.1 h v hv
theorem cc{α:Type}{e:α->List Value}{z:Nat}{xs:List α}(h:∀x,(e x).length=z){k:Nat}(hk:k<xs.length):k*z+z<=(Qg e xs).size:=by
 rw[Zf h];have:=Nat.mul_le_mul_right z (show k+1<=xs.length by omega);rw[Nat.add_mul,Nat.one_mul]at this;exact this
theorem Ba{α:Type}{e:α->List Value}{z:Nat}{xs:List α}(h:∀x,(e x).length=z){k:Nat}(hk:k<xs.length){x:α}{cs:Array Value}(hc:cs=(e x).toArray):k*z+z<=(Qg e xs).size/\splice (Qg e xs) (k*z) cs=Qg e (xs.set k x):=by
 rw[hc];exact fX h hk
theorem EndsT.cast{P:Program}{B:Lo}{c0:CF}{a b:Value}(h:EndsT P B c0 a)(e:a=b):EndsT P B c0 b:=e ▸ h
theorem TRvs.len{fm:Nat->Option Obj}{ts args:Array Value}(h:TRvs fm ts args){i n:Nat}{cs:Array Value}(hi:ts[i]? =some (QE n cs)):n<=maxLen:=by
 have Xh:i<args.size:=h.1 ▸ (Array.getElem?_eq_some_iff.1 hi).1;exact TRv.len' (h.2 i _ args[i] hi (by simp[Xh]))
theorem TRvs.len2{fm:Nat->Option Obj}{ts args:Array Value}(h:TRvs fm ts args){i j n:Nat}{xs cs:Array Value}(hi:ts[i]? =some (.agg xs))(hj:xs[j]? =some (QE n cs)):n<=maxLen:=by
 have Xh:i<args.size:=h.1 ▸ (Array.getElem?_eq_some_iff.1 hi).1;have ht:=h.2 i _ args[i] hi (by simp[Xh]);generalize args[i]=v at ht;cases ht with
 |simple h=>cases h
 |agg h1 h2=>
  rename_i ys;have Xh:j<ys.size:=h1 ▸ (Array.getElem?_eq_some_iff.1 hj).1;exact TRv.len' (h2 j _ ys[j] hj (by simp[Xh]))
theorem TRvs.ln{fm:Nat->Option Obj}{ts args:Array Value}(h:TRvs fm ts args){i n:Nat}{cs:Array Value}(hi:ts[i]? =some (QE n cs)):n<=9223372036854775807:=by
 have:=h.len hi;unfold maxLen at this;omega
theorem TRvs.ln2{fm:Nat->Option Obj}{ts args:Array Value}(h:TRvs fm ts args){i j n:Nat}{xs cs:Array Value}(hi:ts[i]? =some (.agg xs))(hj:xs[j]? =some (QE n cs)):n<=9223372036854775807:=by
 have:=h.len2 hi hj;unfold maxLen at this;omega
section
variable {α:Type} [Inhabited α] {f:α->Bool} {xs:List α} {i:Int}
theorem drop_cons(h0:0<=i)(hi:i<xs.length):xs.drop i.toNat=xs.getD i.toNat default::xs.drop (i+1).toNat:=by
 have Xh:i.toNat<xs.length:=by omega
 rw[List.drop_eq_getElem_cons Xh,show(i+1).toNat=i.toNat+1 by omega];simp[Xh]
theorem xW(h0:0<=i)(hi:i<xs.length):(xs.drop i.toNat).all f=(f (xs.getD i.toNat default) && (xs.drop (i+1).toNat).all f):=by rw[drop_cons h0 hi];rfl
omit [Inhabited α]in
theorem HB(hi:xs.length<=i):xs.drop i.toNat=[]:=List.drop_eq_nil_of_le (by omega)
end
def Sv(a b:Int):List Int:=(List.range (b-a).toNat).map fun(k:Nat)=>a+(k:Int)
theorem jV{a b:Int}(h:a<b):Sv a b=a::Sv (a+1) b:=by
 unfold Sv;obtain⟨m,hm⟩:∃m:Nat,(b-a).toNat=m+1:=⟨(b-a).toNat-1,by omega⟩
 rw[hm,show(b-(a+1)).toNat=m by omega,List.range_succ_eq_map];simp only[List.map_cons,List.map_map,Int.ofNat_zero,Int.add_zero,Int.cast_ofNat_Int];congr 1;apply List.map_congr_left;intro k _;simp only[Function.comp_apply,Nat.succ_eq_add_one];omega
theorem jc{a b:Int}(h:b<=a):Sv a b=[]:=by
 unfold Sv;rw[show(b-a).toNat=0 by omega];rfl
theorem Va{P:Program}{J:World->Prop}{g:FuncId}{ts:List Value}{out:Value}{c0:CF}(facts:Prop)(Xt:∀fm args',TRvs fm ts.toArray args'->facts)(Z7:∀w w':World,(∀b,b<w.heap.size->w'.heap[b]? =w.heap[b]?)->J w->J w')(hc:Wa P g (ts.map (Q2 0 4)).toArray=some c0)(QC:(ts.all (rU 4))=true)
 (h:facts->∀B:Lo,(∀w,B.has w->J w)->EndsT P B c0 out):Qx P J g ts.toArray out:=fun fm w args' hJ hfm hargs=>Xn Z7 hc QC (h (Xt fm args' hargs)) fm w args' hJ hfm hargs
def tw(rs:List Nat):List Value->List Value->Prop
 |[],[]=>True
 |v::l,v1::l1=>oB rs v v1/\tw rs l l1
 |_,_=>False
theorem bI{rs:List Nat}:∀{l l1:List Value},tw rs l l1->l.length=l1.length/\∀(i:Nat) v v1,l[i]? =some v->l1[i]? =some v1->oB rs v v1
 |[],[],_=>⟨rfl,fun i v v1 h=>by simp at h⟩
 |v::l,v1::l1,h=>⟨by simp[(bI h.2).1],fun i u u1 h1 h2=>by
   cases i with
   |zero=>simp at h1 h2;subst h1;subst h2;exact h.1
   |succ i=>exact(bI h.2).2 i u u1 (by simpa using h1) (by simpa using h2)⟩
theorem A8{rs:List Nat}{l l1:List Value}(h:tw rs l l1):Zu rs l.toArray l1.toArray:=by
 obtain⟨h1,h2⟩:=bI h
 first
 |exact⟨by simp[h1],fun i v v1 a b=>h2 i v v1 (by simpa using a) (by simpa using b)⟩
def OA(rs:List Nat)(v:Value):Option Value:=bif simple v then some v else match v with
 | .func (.via r ⟨[]⟩ 0 true) ⟨[t]⟩ ⟨[]⟩=>bif rs.contains r && W6 t then some t else none
 |_=>none
def NH(rs:List Nat):List Value->Option (List Value)
 |[]=>some []
 |v::l=>match OA rs v,NH rs l with
  |some t,some ts=>some (t::ts)
  |_,_=>none
theorem M9{rs:List Nat}{v t:Value}(h:OA rs v=some t):oB rs v t:=by
 unfold OA at h;cases hs:simple v with
 |true=>
  rw[hs]at h;simp only[cond_true,YO]at h;exact .inl ⟨hs,h.symm⟩
 |false=>
  rw[hs]at h;simp only[cond_false]at h;split at h
  ·rename_i r t0;cases hq:(rs.contains r && W6 t0)with
   |false=>rw[hq]at h;cases h
   |true=>
    rw[hq]at h;simp only[cond_true,YO]at h;subst h;simp only[YB,List.contains_iff_mem]at hq;exact .inr ⟨r,hq.1,rfl,hq.2⟩
  ·cases h
theorem Ep{rs:List Nat}:∀{l l1:List Value},NH rs l=some l1->tw rs l l1
 |[],l1,h=>by simp only[NH,YO]at h;subst h;exact trivial
 |v::l,l1,h=>by
  simp only[NH]at h;split at h
  ·rename_i t ts h1 h2;simp only[YO]at h;subst h;exact⟨M9 h1,Ep h2⟩
  ·cases h
theorem DY{rs:List Nat}{l l1:List Value}(h:NH rs l=some l1):Zu rs l.toArray l1.toArray:=A8 (Ep h)
end Go.CE

namespace Go.CE
open Go Go.RowKit

theorem Post.widen{B n n':Nat}{S:Nat->Prop}{W W':List Nat}{μ μ':Mu}{H H':Qo}{w w':World}(QC:Ok B S μ (Qs H) w)(h:Post B S n n' W μ μ' H H' w w')(hW:∀i,i<n->i∈W->i∈W')(hw:∀i,i<n->i∈W'->S i/\∃o,Qs H i=some o/\live o/\∀im,μ i=some im->im.rw=true):Post B S n n' W' μ μ' H H' w w':=
 ⟨h.ok,h.le,h.ext,fun i hi hw'=>h.keep i hi fun e=>hw' (hW i hi e),h.grow,fun b hb hx=>h.frame b hb fun i hi hl=>hx i (hW i hl hi) hl,fun i hi hl=>by
  obtain⟨hs,o,hg,hl',hr⟩:=hw i hl hi;obtain⟨im,QF,_⟩:=QC.rel i _ hs hg hl';exact⟨hs,⟨o,hg,hl'⟩,im,QF,hr im QF⟩,fun i im o h1 h2 ho hl hm=>by
  obtain⟨hr,hf⟩:=h.fresh i im o h1 h2 ho hl hm;exact⟨hr,hf.imp id fun⟨k,a,b,d⟩=>⟨k,hW k b a,b,d⟩⟩,fun i im o hi ho hr hm b x hx=>by
  have res:(n<=i/\i<n'\/i∈W/\i<n)->w.heap.size<=b\/(∃k VP ko,S k/\k<n/\Qs H k=some ko/\Wb ko/\μ k=some VP/\VP.fm b=some x)\/∃k,k∈W'/\k<n/\(∃Zz,μ k=some Zz/\Zz.Zn=b)/\∀o,Qs H' k=some o->¬live o:=fun hc=>by
   rcases h.rf i im o hc ho hr hm b x hx with e|e|⟨k,p,q,r⟩
   ·exact .inl e
   ·exact .inr (.inl e)
   ·exact .inr (.inr ⟨k,hW k q p,q,r⟩)
  rcases hi with hi|⟨hi,Xh⟩
  ·exact res (.inl hi)
  ·by_cases JZ:i∈W
   ·exact res (.inr ⟨JZ,Xh⟩)
   ·obtain⟨_,o',hg,hl,_⟩:=hw i Xh hi;rw[h.keep i Xh JZ,hg]at ho;cases ho;exact absurd hl (by cases o <;> first|exact id|exact hr.elim),h.os,h.tape,h.output⟩
def Writable(H0:Qo)(a:Nat)(Wf:List Nat):Prop:=∀i,i<a->i∈Wf->(∃cs t,Qs H0 i=some (.cells cs t (0,0)))\/(∃r,Qs H0 i=some (.loop r))\/(∃es JG,Qs H0 i=some (.map es JG))\/∃ds,Qs H0 i=some (.deferred ds)
def Md(o:Option Obj):Bool:=match o with
 |some (.cells _ _ (0,0))|some (.loop _)|some (.map _ _)|some (.deferred _)=>true
 |_=>false
theorem Qr{H0:Qo}{a:Nat}{Wf:List Nat}(h:(Wf.all fun i=>Md (Qs H0 i))=true):Writable H0 a Wf:=fun i _ hi=>by
 have:=List.all_eq_true.1 h i hi;unfold Md at this;split at this
 ·rename_i cs t hg;exact .inl ⟨cs,t,hg⟩
 ·rename_i r hg;exact .inr (.inl ⟨r,hg⟩)
 ·rename_i es JG hg;exact .inr (.inr (.inl ⟨es,JG,hg⟩))
 ·rename_i ds hg;exact .inr (.inr (.inr ⟨ds,hg⟩))
 ·cases this
theorem Writable.rw{B:Nat}{μ:Mu}{H0:Qo}{a:Nat}{Wf:List Nat}{w:World}(h:Writable H0 a Wf)(QC:Ok B (fun i=>i<a) μ (Qs H0) w){i:Nat}(hi:i<a)(hw:i∈Wf):i<a/\∃o,Qs H0 i=some o/\live o/\∀im,μ i=some im->im.rw=true:=by
 rcases h i hi hw with ⟨cs,t,hg⟩|⟨r,hg⟩|⟨es,JG,hg⟩|⟨ds,hg⟩
 ·refine⟨hi,_,hg,trivial,fun im QF=> ?_⟩;obtain⟨Zz,QP,ZL⟩:=QC.rel i _ hi hg trivial;rw[QF]at QP;cases QP;rcases ZL with ⟨_,h,_⟩|⟨h,_⟩
  ·exact h
  ·exact absurd rfl h
 all_goals
  refine⟨hi,_,hg,trivial,fun im QF=> ?_⟩;obtain⟨Zz,QP,ZL⟩:=QC.rel i _ hi hg trivial;rw[QF]at QP;cases QP;exact ZL.1
def WO(ro:Option Nat)(f:FuncId)(len:Nat)(live:List (Nat×Value))(d:Nat->Value)(todo:List Item):CF:=⟨f,Ii len live d,todo,[],.run,ro⟩
def Z1(Hb:Qo)(a:Nat)(ws:Qo)(os:List Obj):Qo:=ws++((a,Xa)::(QU (a+1) os++Hb))
def bp(a:Nat)(olds:List Nat)(k:Nat):Option Nat:=bif Nat.blt k a then some k else posOf olds (a+1) k
def xY(H:Qo)(m:Nat)(pos:Nat->Option Nat)(fz:List Fz):List (Nat×KS)->Option (Qo×List Prop)
 |[]=>some ([],[])
 |(k,s)::l=>match ND H m pos fz (Qs H k) s with
  |some (o,L)=>match xY H m pos fz l with
   |some (os,L2)=>some ((k,o)::os,L++L2)
   |none=>none
  |none=>none
theorem dN{H:Qo}{m:Nat}{pos:Nat->Option Nat}{fz:List Fz}:∀(l:List (Nat×KS)) (ws:Qo) (L:List Prop),xY H m pos fz l=some (ws,L)->∀i,(Qs ws i=none<->i ∉ l.map (·.1))/\∀o,Qs ws i=some o->∃s L1,ND H m pos fz (Qs H i) s=some (o,L1)/\(Qz L->Qz L1)
 |[],ws,L,h,i=>by
  simp only[xY,YO,YR]at h;obtain⟨rfl,rfl⟩:=h;simp[Qs]
 |(k,s)::l,ws,L,h,i=>by
  simp only[xY]at h;split at h
  ·rename_i t L1 h1;split at h
   ·rename_i ts2 L2 h2;simp only[YO,YR]at h;obtain⟨rfl,rfl⟩:=h;obtain⟨k1,k2⟩:=dN l ts2 L2 h2 i;rw[QV];by_cases e:i=k
    ·subst e;simp only[if_true,List.map_cons,List.mem_cons,true_or,not_true_eq_false,iff_false];exact⟨by simp,fun o ho=>by cases ho;exact⟨s,L1,h1,fun h=>(Xc h).1⟩⟩
    ·rw[if_neg e];refine⟨by rw[k1];simp[e],fun o ho=> ?_⟩;obtain⟨s',L',a,b⟩:=k2 o ho;exact⟨s',L',a,fun h=>b (Xc h).2⟩
   ·cases h
  ·cases h
structure M1 where
 fn:FuncId
 len:Nat
 todo:List Item
 defers:List Nat
 mode:CM
 roundOf:Option Nat
 vals:List Value
 ws:Qo
 objs:List Obj
 L:List Prop
def P5(a:Nat)(H:Qo)(W:List Nat)(wks keeps:List (Nat×KS))(fz:List Fz):Bool:=
 (W.all fun i=>(wks.map (·.1)).contains i) && (wks.all fun k=>Nat.blt k.1 a) && distinct (keeps.map (·.1)) && (keeps.all fun k=>Nat.ble a k.1) && (fz.all fun x=>Nat.ble a x.k && G8 (Qs H x.k) && (keeps.all fun k=> !(Nat.beq k.1 x.k)))
def landA(a:Nat)(s:Option ST)(JK:List Nat)(wks keeps:List (Nat×KS))(fz:List Fz):Option M1:=match s with
 |some ⟨.at c H n,W,L⟩=>bif P5 a H W wks keeps fz then
  match qS (sR H a (bp a (keeps.map (·.1))) fz 4) (JK.map (X7 c.tmps)),xY H a (bp a (keeps.map (·.1))) fz wks,Sm H a (bp a (keeps.map (·.1))) fz keeps with
  |some (vs,L1),some (ws,L3),some (os,L2)=>some ⟨c.fn,c.tmps.len,c.todo,c.defers,c.mode,c.roundOf,vs,ws,os,L1++(L3++(L2++L))⟩
  |_,_,_=>none
   else none
 |_=>none
section
variable {P:Program} {F:FuncId->Bool} {J:World->Prop} {B:Lo} {c0 c:CF} {Hb H:Qo} {a n:Nat} {W Wf:List Nat}
theorem GoE.widen(h:GoE P B c0 Hb a c H n W)(hW:∀i,i<a->i∈W->i∈Wf)(hw:Writable Hb a Wf):GoE P B c0 Hb a c H n Wf:=
 ⟨h.under,h.le,fun Z μ w fr cs QC hB hf X5=>by
  obtain⟨fr',w',μ',hp,r⟩:=h.sem Z μ w fr cs QC hB hf X5;exact⟨fr',w',μ',hp.widen QC hW fun i hi hiW=>hw.rw QC hi hiW,r⟩⟩
theorem Uq{ws:Qo}{os:List Obj}(i:Nat):Qs (Z1 Hb a ws os) i=match Qs ws i with
 |some o=>some o
 |none=>if i=a then some Xa else if a<i/\i<a+1+os.length then os[i-(a+1)]? else Qs Hb i:=by
 unfold Z1;rw[ZC];cases Qs ws i with
 |some o=>rfl
 |none=>
  simp only;rw[QV];by_cases e:i=a
  ·rw[if_pos e,if_pos e]
  ·rw[if_neg e,if_neg e,ZC,Vd];by_cases h1:a+1<=i
   ·rw[if_pos h1];by_cases h2:i<a+1+os.length
    ·rw[if_pos ⟨by omega,h2⟩];have:i-(a+1)<os.length:=by omega
     simp[this]
    ·rw[if_neg (by omega),List.getElem?_eq_none (by omega)]
   ·rw[if_neg h1,if_neg (by omega)]
theorem Sx{ws:Qo}{os:List Obj}(hu:Under Hb a)(hws:∀i o,Qs ws i=some o->i<a):Under (Z1 Hb a ws os) (a+1+os.length):=fun i hi=>by
 rw[Uq];cases hg:Qs ws i with
 |some o=>have:=hws i o hg;omega
 |none=>simp only;rw[if_neg (by omega),if_neg (by omega)];exact hu i (by omega)
theorem bA{n':Nat}{H':Qo}{μ μ':Mu}{w w':World}{W':List Nat}{wks keeps:List (Nat×KS)}{fz:List Fz}{ws:Qo}{os:List Obj}{L2 L3:List Prop}(hu:Under Hb a)(hw:Writable Hb a (wks.map (·.1)))(hu':Under H' n')(hq:P5 a H' W' wks keeps fz=true)
 (QC:Ok B.B (fun i=>i<a) μ (Qs Hb) w) (hf:∀i,a<=i->μ i=none) (hp:Post B.B (fun i=>i<a) a n' (wks.map (·.1)) μ μ' Hb H' w w')
 (hws:xY H' a (bp a (keeps.map (·.1))) fz wks=some (ws,L3)) (hos:Sm H' a (bp a (keeps.map (·.1))) fz keeps=some (os,L2)) (hL3:Qz L3) (hL2:Qz L2):
 ∃μ1 im1,ym H' a (bp a (keeps.map (·.1))) fz μ' μ1 w' n' (fz.map (·.k)) im1/\Post B.B (fun i=>i<a) a (a+1+os.length) (wks.map (·.1)) μ μ1 Hb (Z1 Hb a ws os) w w'/\(∀i,a+1+os.length<=i->μ1 i=none)/\(∀i o,Qs ws i=some o->i<a):=by
 unfold P5 at hq;simp only[YB]at hq;obtain⟨⟨⟨⟨hW,hwlt⟩,hdist⟩,hge⟩,hfz⟩:=hq;have wlt:∀i,i∈wks.map (·.1)->i<a:=fun i hi=>by
  obtain⟨k,hk,rfl⟩:=List.mem_map.1 hi;exact YL (List.all_eq_true.1 hwlt k hk)
 have wsget:=dN wks ws L3 hws;have wslt:∀i o,Qs ws i=some o->i<a:=fun i o ho=>by
  refine wlt i (Decidable.of_not_not fun e=> ?_);have:=(wsget i).1.2 e;rw[this]at ho;cases ho
 have hlenos:=(UT keeps os L2 hos).1;let ρ:Nat->Nat:=fun i=>if i<a then i else((keeps.map (·.1))[i-(a+1)]?).getD i
 have hρ:∀i k,a+1<=i->(keeps.map (·.1))[i-(a+1)]? =some k->ρ i=k:=fun i k hi hk=>by
  show(if i<a then i else((keeps.map (·.1))[i-(a+1)]?).getD i)=k;rw[if_neg (by omega),hk];rfl
 have hρlow:∀i,i<a->ρ i=i:=fun i hi=>by
  show(if i<a then i else((keeps.map (·.1))[i-(a+1)]?).getD i)=i;rw[if_pos hi]
 have get:∀i,a<i->i<a+1+os.length->∃k,(keeps.map (·.1))[i-(a+1)]? =some k/\ρ i=k/\a<=k:=by
  intro i h1 h2;have Xh:i-(a+1)<keeps.length:=by omega
  refine⟨(keeps[i-(a+1)]).1,by simp[Xh],hρ i _ (by omega) (by simp[Xh]), ?_⟩;exact YL (List.all_eq_true.1 hge _ (List.getElem_mem Xh))
 let im1:aO:=⟨0,0,0,false,K0 μ' H' w' (Yv H' n'++fz.map (·.k))⟩
 let μ1:=ja a (a+1+os.length) ρ μ μ' (K0 μ' H' w' (Yv H' n'++fz.map (·.k)))
 have hco:ym H' a (bp a (keeps.map (·.1))) fz μ' μ1 w' n' (fz.map (·.k)) im1:=by
  refine⟨⟨B.B,_,hp.ok,fun i hi=> ?_⟩,hu',fun k j hj=> ?_, ?_,rfl,fun x hx=>List.mem_map.2 ⟨x,hx,rfl⟩⟩
  ·rcases Nat.lt_or_ge i a with h|h
   ·exact .inl h
   ·exact .inr ⟨h,hi⟩
  ·unfold bp at hj;cases hb:Nat.blt k a with
   |true=>
    rw[hb]at hj;simp only[cond_true,YO]at hj;subst hj;have Xh:k<a:=YL hb;show ja a (a+1+os.length) ρ μ μ' _ k=μ' k;unfold ja;rw[if_neg (by omega),if_neg (by omega),hp.ext k (by omega)]
   |false=>
    rw[hb]at hj;obtain⟨h1,h2⟩:=RO _ _ _ _ hj;have Xh:j-(a+1)<keeps.length:=by
     have:=(List.getElem?_eq_some_iff.1 h2).1;simpa using this
    show ja a (a+1+os.length) ρ μ μ' _ j=μ' k;unfold ja;rw[if_neg (by omega),if_pos ⟨by omega,by omega⟩,hρ j k h1 h2]
  ·show ja a (a+1+os.length) ρ μ μ' _ a=some im1;unfold ja;rw[if_pos rfl]
 have hkeeps:AQ a n' (a+1+os.length) (wks.map (·.1)) μ μ' Hb H' (Z1 Hb a ws os) w' ρ (fz.map (·.k)):=by
  refine⟨by omega,hρlow,fun i h1 h2=> ?_,fun i j h1 h2 h3 h4 h5=> ?_,Sx hu wslt,fun i hi hn=> ?_, ?_,fun i o1 hi hc ho=> ?_,fun k hk=> ?_⟩
  ·obtain⟨k,hk,hk2,hk3⟩:=get i h1 h2;refine⟨by omega, ?_⟩;rw[hk2];have Xh:i-(a+1)<os.length:=by omega
   obtain⟨k',s,L',ha,hb,hc⟩:=(UT keeps os L2 hos).2 (i-(a+1)) os[i-(a+1)] (by simp[Xh]);have:k'=k:=by
    rw[List.getElem?_map,ha]at hk;simpa using hk
   subst this;obtain⟨⟨x,hx⟩,_⟩:=Rv hco hb (hc hL2);exact hu'.lt hx
  ·obtain⟨k,hk,hk2,_⟩:=get i h1 h2;obtain⟨k',hk',hk2',_⟩:=get j h3 h4;rw[hk2,hk2']at h5;subst h5;have:=Y4 hdist _ _ _ hk hk';omega
  ·rw[Uq,(wsget i).1.2 hn];simp only;rw[if_neg (by omega),if_neg (by omega)]
  ·rw[Uq];cases hg:Qs ws a with
   |some o=>have:=wslt a o hg;omega
   |none=>simp
  ·rcases hc with h1i|⟨JZ,Xh⟩
   ·rw[Uq]at ho;have hn:Qs ws i=none:=by
     cases hg:Qs ws i with
     |none=>rfl
     |some o=>have:=wslt i o hg;omega
    rw[hn]at ho;simp only at ho;rw[if_neg (by omega),if_pos ⟨h1i,hi⟩]at ho;obtain⟨k,s,L',ha,hb,hc'⟩:=(UT keeps os L2 hos).2 (i-(a+1)) o1 ho;obtain⟨_,hnr,P0⟩:=Rv hco hb (hc' hL2);refine⟨hnr,fun hl1=> ?_⟩;obtain⟨x,hx,hl,ZL⟩:=P0 hl1;refine⟨x, ?_,hl,fun im _ h=>ZL im h⟩;rw[hρ i k (by omega) (by rw[List.getElem?_map,ha];rfl)];exact hx
   ·cases hg:Qs ws i with
    |none=>exact absurd JZ ((wsget i).1.1 hg)
    |some o=>
     rw[Uq,hg]at ho;simp only[YO]at ho;subst ho;obtain⟨s,L1,h1,h2⟩:=(wsget i).2 o hg;obtain⟨_,hnr,P0⟩:=Rv hco h1 (h2 hL3);refine⟨hnr,fun hl1=> ?_⟩;obtain⟨x,hx,hl,ZL⟩:=P0 hl1;exact⟨x,by rw[hρlow i Xh];exact hx,hl,fun im _ h=>ZL im h⟩
  ·obtain⟨x,hx,rfl⟩:=List.mem_map.1 hk;have:=List.all_eq_true.1 hfz x hx;simp only[YB]at this;obtain⟨⟨q1,q2⟩,q3⟩:=this;have hown:∃o,Qs H' x.k=some o/\live o:=by
    unfold G8 at q2;split at q2
    ·rename_i ho;exact⟨_,ho,trivial⟩
    ·cases q2
   obtain⟨o,ho,hl⟩:=hown;refine⟨YL q1,hu'.lt ho,⟨o,ho,hl⟩,fun i h1 h2 hr=> ?_⟩;obtain⟨k,hk,hk2,_⟩:=get i h1 h2;rw[hk2]at hr;rw[List.getElem?_map]at hk;cases hy:keeps[i-(a+1)]? with
   |none=>rw[hy]at hk;cases hk
   |some y=>
    rw[hy]at hk;simp only[Option.map_some,YO]at hk;have:=List.all_eq_true.1 q3 y (List.mem_of_getElem? hy);rw[hk,hr]at this;simp at this
 refine⟨μ1,im1,hco,hp.merge QC hf hkeeps,fun i hi=> ?_,wslt⟩;show ja a (a+1+os.length) ρ μ μ' _ i=none;unfold ja;rw[if_neg (by omega),if_neg (by omega)];exact hf i (by omega)
theorem GoE.landA(hF:∀g,F g=true->Q3 P g=true)(hJ:∀w,B.has w->J w)(XP:P.follows .mixedOrders=true){wks:List (Nat×KS)}(hu:Under Hb a)(hw:Writable Hb a (wks.map (·.1)))(h:GoE P B c0 Hb a c H n (wks.map (·.1))){fuel:Nat}{sc:Q5}{f:FuncId}{len:Nat}{todo:List Item}{ro:Option Nat}{JK:List Nat}{keeps:List (Nat×KS)}{fz:List Fz}{vs:List Value}{ws:Qo}{os:List Obj}{L:List Prop}
 (e:CE.landA a (Qq P F J B fuel a c H n sc 0 [] []) JK wks keeps fz=some ⟨f,len,todo,[],.run,ro,vs,ws,os,L⟩) (hL:Qz L) (hlen:Nat.ble len 16000=true) (hplain:todo.all V8=true) (JH:∀l,ro=some l->l<a):
 ∃d:Nat->Value,(∀t,X6 (d t))/\GoE P B c0 Hb a (WO ro f len (JK.zip vs) d todo) (Z1 Hb a ws os) (a+1+os.length) (wks.map (·.1)):=by
 unfold CE.landA at e;split at e
 ·rename_i c' H' n' W' L' hs;cases hq:P5 a H' W' wks keeps fz with
  |false=>rw[hq]at e;cases e
  |true=>
   rw[hq]at e;simp only[cond_true]at e;split at e
   ·rename_i vs0 L1 ws0 L3 os0 L2 hvs hws hos;simp only[YO,M1.mk.injEq]at e;obtain⟨e1,e2,e3,e4,e5,e6,rfl,rfl,rfl,rfl⟩:=e;obtain⟨hL1,hLr⟩:=Xc hL;obtain⟨hL3,hLr⟩:=Xc hLr;obtain⟨hL2,hL4⟩:=Xc hLr;obtain⟨R,W2,J4,hiff⟩:=ZU hF hJ XP fuel a c H n sc 0 [] [] _ h.under hs hL4;have hg:=(h.step J4).widen (Wf:=wks.map (·.1)) (fun i hi hm=>by
     rcases List.mem_append.1 hm with hm|hm
     ·exact hm
     ·have hi':i∈W':=(hiff i hi).2 (.inr hm);unfold P5 at hq;simp only[YB]at hq;simpa using List.all_eq_true.1 hq.1.1.1.1 i hi') hw
    have hd:∀t,∃d,X6 d/\∀μ v',VR μ (X7 c'.tmps t) v'->VR μ d v':=fun t=>Ki _
    have wslt:∀i o,Qs ws0 i=some o->i<a:=fun i o ho=>by
     have hq':=hq;unfold P5 at hq';simp only[YB]at hq';have JZ:i∈wks.map (·.1):=Decidable.of_not_not fun e=>by
      have:=(dN wks ws0 L3 hws i).1.2 e;rw[this]at ho;cases ho
     obtain⟨k,hk,rfl⟩:=List.mem_map.1 JZ;exact YL (List.all_eq_true.1 hq'.1.1.1.2 k hk)
    refine⟨fun t=>Classical.choose (hd t),fun t=>(Classical.choose_spec (hd t)).1,Sx hu wslt,by omega,fun Z μ w fr cs QC hB hf X5=> ?_⟩;obtain⟨fr',w',μ',hp,Yu,ha,hb,Z7⟩:=hg.sem Z μ w fr cs QC hB hf X5;obtain⟨μ1,im1,hco,XC,Vl,_⟩:=bA hu hw hg.under hq QC hf hp hws hos hL3 hL2;have hpans:c'.mode.pans=false:=by rw[e5];rfl
    refine⟨fr',w',μ1,XC,⟨by rw[Yu.fn,e1];rfl, ?_,fun _=>(e3 ▸ Yu.todo hpans).plain hplain, ?_, ?_,Yu.kind, ?_⟩,ha,hb,Z7⟩
    ·refine Yu.tmps.merge e2 (YL hlen) (fun p hp v' hv=> ?_) fun t=>Classical.choose_spec (hd t)
     obtain⟨i,hi⟩:=List.getElem?_of_mem hp;rw[List.getElem?_zip_eq_some]at hi;obtain⟨hi1,hi2⟩:=hi;obtain⟨u,L',ha,hb,hc⟩:=(jz _ _ _ hvs).2 i p.2 hi2;rw[List.getElem?_map,hi1]at ha;simp only[Option.map_some,YO]at ha;subst ha;exact VG hco 4 _ _ _ _ hb (hc hL1) hv
    ·have:=Yu.defers;rw[e4]at this;exact .of_empty this.empty
    ·have:=Yu.mode;rw[e5]at this;generalize fr'.mode=ds at this;cases this;exact .run
    ·have:=Yu.round;rw[e6]at this;show RoR μ1 ro fr'.roundOf;generalize fr'.roundOf=x at this;cases ro with
     |none=>
      cases x with
      |none=>trivial
      |some x=>cases this
     |some l=>
      cases x with
      |none=>cases this
      |some x=>
       obtain⟨im,h1,h2⟩:=this;have hl:=JH l rfl;refine⟨im, ?_,h2⟩;rw[XC.ext l (by omega)];rw[hp.ext l (by omega)]at h1;exact h1
   ·cases e
 ·cases e
def QR(a:Nat)(v:Value):Bool:=simple v || match v with
 | .func (.via r ⟨[]⟩ 0 true) ⟨[_]⟩ ⟨[]⟩=>Nat.blt r a
 | .pointer (some ⟨k,_,none⟩)=>Nat.blt k a
 | .slice (some ⟨k,_,none⟩) _ _=>Nat.blt k a
 | .map (some r)=>Nat.blt r a
 | .func (.yield l) ⟨[]⟩ ⟨[]⟩=>Nat.blt l a
 | .chan none=>true
 |_=>false
def Pp(a:Nat):Nat->Value->Bool
 |0,v=>QR a v
 |f+1,v=>match v with
  | .agg xs=>xs.all (Pp a f)
  | .tuple xs=>xs.all (Pp a f)
  | .iface _ x=>Pp a f x
  | .func (.func _) xs ys=>xs.all (Pp a f) && ys.all (Pp a f)
  |v=>QR a v
section
variable {μ μ0:Mu} (hμ:∀b,b<a->μ0 b=μ b)
include hμ
theorem s6{v v':Value}(h:QR a v=true)(hv:VR μ v v'):VR μ0 v v':=by
 unfold QR at h;cases hs:simple v with
 |true=>rw[simple_eq hs hv];exact ZO hs
 |false=>
  rw[hs]at h;simp only[Bool.false_or]at h;have lt:∀{k},Nat.blt k a=true->μ0 k=μ k:=fun h=>hμ _ (YL h)
  split at h
  ·cases hv with
   |top h1 h2 h3=>exact .top h1 (by rw[lt h];exact h2) h3
  ·cases hv with
   |ptr har=>
    obtain⟨im,h1,h2,h3⟩:=har;exact .ptr ⟨im,by rw[lt h];exact h1,h2,h3⟩
  ·cases hv with
   |slice har x y z=>
    obtain⟨im,h1,h2,h3⟩:=har;exact .slice ⟨im,by rw[lt h];exact h1,h2,h3⟩ x y fun hz Zz QP=>z hz Zz (by rw[<-lt h];exact QP)
  ·cases hv with
   |map hr=>exact .map (by rw[lt h];exact hr)
  ·cases hv with
   |yield hr=>exact .yield (by rw[lt h];exact hr)
  ·cases hv with
   |Kv x y z=>exact .Kv x y z
  ·cases h
theorem jq:∀(f:Nat) (v v':Value),Pp a f v=true->VR μ v v'->VR μ0 v v'
 |0,v,v',h,hv=>s6 hμ h hv
 |f+1,v,v',h,hv=>by
  have arr:∀{xs xs':Array Value},xs.all (Pp a f)=true->(∀(i:Nat) v v',xs[i]? =some v->xs'[i]? =some v'->VR μ v v')->∀(i:Nat) v v',xs[i]? =some v->xs'[i]? =some v'->VR μ0 v v':=
   fun ha hx i v v' h1 h2=>jq f v v' (Array.all_eq_true'.1 ha v (Array.mem_of_getElem? h1)) (hx i v v' h1 h2)
  cases v with
  |agg xs=>cases hv with|agg h1 h2=>exact .agg h1 (arr h h2)
  |tuple xs=>cases hv with|tuple h1 h2=>exact .tuple h1 (arr h h2)
  |iface t x=>cases hv with|iface hv=>exact .iface (jq f x _ h hv)
  |func fn xs ys=>
   cases fn with
   |func g=>
    have h:(xs.all (Pp a f) && ys.all (Pp a f))=true:=h;simp only[YB]at h;cases hv with
    |func h1 h2 h3 h4=>exact .func h1 h2 (arr h.1 h3) (arr h.2 h4)
   |_=>exact s6 hμ (by exact h) hv
  |_=>exact s6 hμ (by exact h) hv
end
theorem qL{μ μ0:Mu}(hμ:∀b,b<a->μ0 b=μ b){T:Tm}{A:Array Value}(hl:∀t,Pp a 4 (X7 T t)=true\/X6 (X7 T t))(h:TR μ T A):TR μ0 T A:=⟨h.1,fun t=>(hl t).elim (fun h1=>jq hμ 4 _ _ h1 (h.2 t)) fun h1=>h1 _ _ _ (h.2 t)⟩
theorem FrR.low{μ μ0:Mu}{fr:Frame}(hμ:∀b,b<a->μ0 b=μ b)(hs:∀t,Pp a 4 (X7 c.tmps t)=true\/X6 (X7 c.tmps t))(hp:c.todo.all V8=true)(hd:c.defers=[])(hm:c.mode=.run)(hr:∀l,c.roundOf=some l->l<a)(h:FrR Bot.no μ c fr):FrR Bot.no μ0 c fr:=by
 have hpans:c.mode.pans=false:=by rw[hm];rfl
 refine⟨h.fn,qL hμ hs h.tmps,fun _=>(h.todo hpans).plain hp, ?_, ?_,h.kind, ?_⟩
 ·have:=h.defers;rw[hd]at this ⊢;exact .of_empty this.empty
 ·have:=h.mode;rw[hm]at this ⊢;generalize fr.mode=ds at this ⊢;cases this;exact .run
 ·have:=h.round;generalize fr.roundOf=x at this ⊢;cases JH:c.roundOf with
  |none=>
   rw[JH]at this;cases x with
   |none=>trivial
   |some x=>cases this
  |some l=>
   rw[JH]at this;cases x with
   |none=>cases this
   |some x=>
    obtain⟨im,h1,h2⟩:=this;exact⟨im,by rw[hμ l (hr l JH)];exact h1,h2⟩
def LV(a:Nat)(v:Value):Prop:=Pp a 4 v=true\/X6 v
theorem LV.vr{μ μ0:Mu}{v v':Value}(hμ:∀b,b<a->μ0 b=μ b)(h:LV a v)(hv:VR μ v v'):VR μ0 v v':=h.elim (fun h=>jq hμ 4 _ _ h hv) fun h=>h _ _ _ hv
def yl(a:Nat):Obj->Prop
 | .cells cs _ _=> ∀(i:Nat) v,cs[i]? =some v->LV a v
 | .map es _=> ∀(i:Nat) e,es[i]? =some e->LV a e.val
 | .loop l=> ∀(i:Nat) v,l.tmps[i]? =some v->LV a v
 |_=>True
theorem OR.low{μ μ0:Mu}{w:World}{im:aO}{o:Obj}(hμ:∀b,b<a->μ0 b=μ b)(hl:yl a o)(h:OR μ w im o):OR μ0 w im o:=by
 cases o with
 |cells cs t fz=>
  rcases h with ⟨h1,h2,h3,arr,h4,h5,h6,h7⟩|⟨h1,h2⟩
  ·exact .inl ⟨h1,h2,h3,arr,h4,h5,h6,fun i v hv=>by
    obtain⟨v',a1,b1⟩:=h7 i v hv;exact⟨v',a1,(hl i v hv).vr hμ b1⟩⟩
  ·exact .inr ⟨h1,fun i v hv=>by
    obtain⟨v',a1,b1⟩:=h2 i v hv;exact⟨v',a1,(hl i v hv).vr hμ b1⟩⟩
 |map es JG=>
  obtain⟨h1,US,h2,h3,h4⟩:=h;exact⟨h1,US,h2,h3,fun i e e' he he'=>by
   obtain⟨x,y,z,u⟩:=h4 i e e' he he';exact⟨x,y,z,(hl i e he).vr hμ u⟩⟩
 |loop l=>
  obtain⟨h1,tm,df,h2,h3⟩:=h;exact⟨h1,tm,df,h2,h3.1,fun i v v' hv ZY=>(hl i v hv).vr hμ (h3.2 i v v' hv ZY)⟩
 |deferred ds=>exact h
 |pending x y=>trivial
 |_=>exact h
def Mn(a:Nat):Obj->Bool
 | .cells cs _ _=>cs.toList.all (Pp a 4)
 | .map es _=>es.toList.all fun e=>Pp a 4 e.val
 | .loop l=>l.tmps.toList.all (Pp a 4)
 |_=>true
theorem xj{a:Nat}{o:Obj}(h:Mn a o=true):yl a o:=by
 cases o with
 |cells cs t fz=>exact fun i v hv=>.inl (List.all_eq_true.1 h v (Array.mem_toList_iff.2 (Array.mem_of_getElem? hv)))
 |map es JG=>exact fun i e he=>.inl (List.all_eq_true.1 h e (Array.mem_toList_iff.2 (Array.mem_of_getElem? he)))
 |loop l=>exact fun i v hv=>.inl (List.all_eq_true.1 h v (Array.mem_toList_iff.2 (Array.mem_of_getElem? hv)))
 |_=>exact trivial
theorem aA:∀{H:Qo} {i:Nat} {o:Obj},Qs H i=some o->(i,o)∈H
 |[],_,_,h=>by cases h
 |(k,x)::l,i,o,h=>by
  rw[QV]at h;split at h
  ·rename_i e;cases h;subst e;exact List.mem_cons_self
  ·exact List.mem_cons_of_mem _ (aA h)
theorem Q1{H:Qo}{n:Nat}(h:(H.all fun p=>Nat.blt p.1 n)=true):Under H n:=fun i hi=>by
 cases hg:Qs H i with
 |none=>rfl
 |some o=>have:=YL (List.all_eq_true.1 h _ (aA hg));simp at this;omega
end
end Go.CE

namespace Go.CE
open Go Go.RowKit

def VE(n:Int):Qk:=.ZH (.val (.int .i64 n))
def Wo:Qk:=.ZH (.val (.bool true))
def W8:Qk:=.ZH (.val (.bool false))
def qQ(f:Value->Option (Value×List Prop)):OO->Option (OO×List Prop)
 | .ret v=>match f v with
   |some (v1,L)=>some (.ret v1,L)
   |none=>none
 | .Z6 v=>match f v with
   |some (v1,L)=>some (.Z6 v1,L)
   |none=>none
def finK(a:Nat)(s:Option ST)(wks keeps:List (Nat×KS))(fz:List Fz):Option (OO×Qo×List Obj×List Prop):=match s with
 |some ⟨.fin out H _,W,L⟩=>bif P5 a H W wks keeps fz then
  match qQ (sR H a (bp a (keeps.map (·.1))) fz 4) out,xY H a (bp a (keeps.map (·.1))) fz wks,Sm H a (bp a (keeps.map (·.1))) fz keeps with
  |some (v1,L1),some (ws,L3),some (os,L2)=>some (v1,ws,os,L1++(L3++(L2++L)))
  |_,_,_=>none
   else none
 |_=>none
def FinK(P:Program)(B:Lo)(c0:CF)(Hb:Qo)(a:Nat)(out:OO)(ws:Qo)(os:List Obj)(Wf:List Nat):Prop:=
 ∀(μ:Mu) (w:World) (fr:Frame) (cs:List Frame),Ok B (fun i=>i<a) μ (Qs Hb) w->B.has w->(∀i,a<=i->μ i=none)->FrR Bot.no μ c0 fr->
  ∃XY w' μ',Post B (fun i=>i<a) a (a+1+os.length) Wf μ μ' Hb (Z1 Hb a ws os) w w'/\OR2 μ' out XY/\(∀i,a+1+os.length<=i->μ' i=none)/\EndsAs P fr cs w XY w'
section
variable {P:Program} {F:FuncId->Bool} {J:World->Prop} {B:Lo} {c0 c:CF} {Hb H:Qo} {a n:Nat} {W Wf:List Nat}
theorem GoE.finK(hF:∀g,F g=true->Q3 P g=true)(hJ:∀w,B.has w->J w)(XP:P.follows .mixedOrders=true){wks keeps:List (Nat×KS)}(hu:Under Hb a)(hw:Writable Hb a (wks.map (·.1)))(h:GoE P B c0 Hb a c H n (wks.map (·.1))){fuel:Nat}{sc:Q5}{fz:List Fz}{out:OO}{ws:Qo}{os:List Obj}{L:List Prop}
 (e:CE.finK a (Qq P F J B fuel a c H n sc 0 [] []) wks keeps fz=some (out,ws,os,L)) (hL:Qz L):FinK P B c0 Hb a out ws os (wks.map (·.1)):=by
 unfold CE.finK at e;split at e
 ·rename_i out0 H' n' W' L' hs;cases hq:P5 a H' W' wks keeps fz with
  |false=>rw[hq]at e;cases e
  |true=>
   rw[hq]at e;simp only[cond_true]at e;split at e
   ·rename_i v1 L1 ws0 L3 os0 L2 hv1 hws hos;simp only[YO,YR]at e;obtain⟨rfl,rfl,rfl,rfl⟩:=e;obtain⟨hL1,hLr⟩:=Xc hL;obtain⟨hL3,hLr⟩:=Xc hLr;obtain⟨hL2,hL4⟩:=Xc hLr;obtain⟨R,W2,hfj,hiff⟩:=ZU hF hJ XP fuel a c H n sc 0 [] [] _ h.under hs hL4;intro μ w fr cs QC hB hf X5;obtain⟨XY,w',μ',hp,ho,he⟩:=h.fj hfj μ w fr cs QC hB hf X5;have hp:=hp.widen (W':=wks.map (·.1)) QC (fun i hi hm=>by
     rcases List.mem_append.1 hm with hm|hm
     ·exact hm
     ·have hi':i∈W':=(hiff i hi).2 (.inr hm);have hq':=hq;unfold P5 at hq';simp only[YB]at hq';simpa using List.all_eq_true.1 hq'.1.1.1.1 i hi') (fun i hi hiW=>hw.rw QC hi hiW)
    obtain⟨μ1,im1,hco,XC,Vl,_⟩:=bA hu hw (h.under.shape hfj.shape) hq QC hf hp hws hos hL3 hL2;cases ho with
    |ret Vf=>
     unfold qQ at hv1;split at hv1
     ·rename_i v0 e0;cases e0;split at hv1
      ·rename_i v2 L2' hv2;simp only[YO,YR]at hv1;obtain⟨rfl,rfl⟩:=hv1;exact⟨_,w',μ1,XC,.ret (VG hco 4 _ _ _ _ hv2 hL1 Vf),Vl,he⟩
      ·cases hv1
     ·rename_i e0;cases e0
    |Z6 Vf=>
     unfold qQ at hv1;split at hv1
     ·rename_i e0;cases e0
     ·rename_i v0 e0;cases e0;split at hv1
      ·rename_i v2 L2' hv2;simp only[YO,YR]at hv1;obtain⟨rfl,rfl⟩:=hv1;exact⟨_,w',μ1,XC,.Z6 (VG hco 4 _ _ _ _ hv2 hL1 Vf),Vl,he⟩
      ·cases hv1
   ·cases e
 ·cases e
theorem FinK.cast{out out1:OO}{ws ws1:Qo}{os os1:List Obj}(h:FinK P B c0 Hb a out ws os Wf)(e1:out=out1)(e2:ws=ws1)(e3:os=os1):FinK P B c0 Hb a out1 ws1 os1 Wf:=e1 ▸ e2 ▸ e3 ▸ h
theorem FinK.fj{out:OO}{ws:Qo}{os:List Obj}(h:FinK P B c0 Hb a out ws os Wf)(hub:Under Hb a)(hws:∀i o,Qs ws i=some o->i<a/\i∈Wf)(hWf:∀i∈Wf,i<a)(hs:∀t,Pp a 4 (X7 c0.tmps t)=true\/X6 (X7 c0.tmps t))(hp:c0.todo.all V8=true)(hd:c0.defers=[])(hm:c0.mode=.run)(hr:∀l,c0.roundOf=some l->l<a)(hob:∀i o,Qs Hb i=some o->yl a o):
 FJ P B c0 Hb a out ((ws++((a,Xa)::QU (a+1) os))++Hb) (a+1+os.length) (List.range a) Wf:=by
 have hG:(ws++((a,Xa)::QU (a+1) os))++Hb=Z1 Hb a ws os:=by unfold Z1;simp
 rw[hG];refine⟨⟨by omega,fun i hi hw=> ?_,fun i hi=> ?_,fun i hi=>List.mem_range.2 (hWf i hi),fun i hi=>by have:=hWf i hi;omega⟩,fun S μ w fr cs QC hB hS hf X5 hR=> ?_⟩
 ·rw[Uq];cases hg:Qs ws i with
  |some o=>exact absurd (hws i o hg).2 hw
  |none=>simp only;rw[if_neg (by omega),if_neg (by omega)]
 ·rw[Uq];cases hg:Qs ws i with
  |some o=>have:=(hws i o hg).1;omega
  |none=>simp only;rw[if_neg (by omega),if_neg (by omega)]
 ·have hSeq:S=fun i=>i<a:=funext fun i=>propext ⟨hS i,fun hi=>hR i (List.mem_range.2 hi) hi⟩
  subst hSeq;let μc:Mu:=fun i=>if i<a then μ i else none
  have hμc:∀b,b<a->μc b=μ b:=fun b hb=>by show(if b<a then μ b else none)=μ b;rw[if_pos hb]
  have hextc:Ext μc μ:=fun k im hk=>by
   have hk:(if k<a then μ k else none)=some im:=hk;split at hk
   ·exact hk
   ·cases hk
  have hokc:Ok B.B (fun i=>i<a) μc (Qs Hb) w:=by
   refine⟨fun i o hi hg hl=> ?_,fun i o im hi hg hl QF=> ?_,fun i j oi oj x y hi hj Kw hg1 hg2 l1 l2 m1 m2 r1 r2=> ?_,fun i o hi hg hr=> ?_,fun i j oi oj x y z hi hj hg1 hg2 r1 l2 m1 m2 Wc=> ?_⟩
   ·obtain⟨im,QF,ZL⟩:=QC.rel i o hi hg hl;exact⟨im,(hμc i hi).trans QF,OR.low hμc (hob i o hg) ZL⟩
   ·exact QC.low i o im hi hg hl ((hμc i hi).symm.trans QF)
   ·exact QC.inj i j oi oj x y hi hj Kw hg1 hg2 l1 l2 ((hμc i hi).symm.trans m1) ((hμc j hj).symm.trans m2) r1 r2
   ·obtain⟨im,QF,hx⟩:=QC.KL i o hi hg hr;exact⟨im,(hμc i hi).trans QF,hx⟩
   ·exact QC.sep i j oi oj x y z hi hj hg1 hg2 r1 l2 ((hμc i hi).symm.trans m1) ((hμc j hj).symm.trans m2) Wc
  obtain⟨XY,w',μ',XC,hv,Vl,he⟩:=h μc w fr cs hokc hB (fun i hi=>by show(if i<a then μ i else none)=none;rw[if_neg (by omega)]) (X5.low hμc hs hp hd hm hr);let μ2:Mu:=fun i=>if i<a+1+os.length then μ' i else μ i
  have hμ2:∀i,i<a+1+os.length->μ2 i=μ' i:=fun i hi=>by show(if i<a+1+os.length then μ' i else μ i)=μ' i;rw[if_pos hi]
  have ext2:Ext μ' μ2:=fun k im hk=>by
   rcases Nat.lt_or_ge k (a+1+os.length)with h1|h1
   ·rw[hμ2 k h1];exact hk
   ·rw[Vl k h1]at hk;cases hk
  have Slt:∀i,(i<a\/a<=i/\i<a+1+os.length)->i<a+1+os.length:=fun i h=>by omega
  refine⟨_,w',μ2,⟨?_,by omega,fun i hi=> ?_,fun i hi hw=> ?_,XC.grow,fun b hb hx=>XC.frame b hb fun i hiW hi im QF=>hx i hiW hi im ((hμc i hi).symm.trans QF),fun i hiW hi=> ?_,fun i im o h1 h2 ho hl QF=> ?_,fun i im o hc ho hr QF b x hx=> ?_,XC.os,XC.tape,XC.output⟩,OR2.mono ext2 hv,he⟩
  ·have ok:=XC.ok;refine⟨fun i o hi hg hl=> ?_,fun i o im hi hg hl QF=> ?_,fun i j oi oj x y hi hj Kw hg1 hg2 l1 l2 m1 m2 r1 r2=> ?_,fun i o hi hg hr=> ?_,fun i j oi oj x y z hi hj hg1 hg2 r1 l2 m1 m2 Wc=> ?_⟩
   ·obtain⟨im,QF,ZL⟩:=ok.rel i o hi hg hl;exact⟨im,(hμ2 i (Slt i hi)).trans QF,ZL.keep ext2 rfl⟩
   ·exact ok.low i o im hi hg hl ((hμ2 i (Slt i hi)).symm.trans QF)
   ·exact ok.inj i j oi oj x y hi hj Kw hg1 hg2 l1 l2 ((hμ2 i (Slt i hi)).symm.trans m1) ((hμ2 j (Slt j hj)).symm.trans m2) r1 r2
   ·obtain⟨im,QF,hx⟩:=ok.KL i o hi hg hr;exact⟨im,(hμ2 i (Slt i hi)).trans QF,hx⟩
   ·exact ok.sep i j oi oj x y z hi hj hg1 hg2 r1 l2 ((hμ2 i (Slt i hi)).symm.trans m1) ((hμ2 j (Slt j hj)).symm.trans m2) Wc
  ·rcases Nat.lt_or_ge i a with h1|h1
   ·rw[hμ2 i (by omega),XC.ext i (by omega),hμc i h1]
   ·show(if i<a+1+os.length then μ' i else μ i)=μ i;rw[if_neg (by omega)]
  ·exact XC.keep i hi hw
  ·obtain⟨p,q,im,s,t⟩:=XC.wr i hiW hi;exact⟨p,q,im,(hμc i hi).symm.trans s,t⟩
  ·obtain⟨p,q⟩:=XC.fresh i im o h1 h2 ho hl ((hμ2 i h2).symm.trans QF);exact⟨p,q.imp id fun⟨k,x,y,⟨Zz,m,m2⟩,z⟩=>⟨k,x,y,⟨Zz,(hμc k y).symm.trans m,m2⟩,z⟩⟩
  ·have Xh:i<a+1+os.length:=by omega
   rcases XC.rf i im o hc ho hr ((hμ2 i Xh).symm.trans QF) b x hx with e|⟨k,VP,ko,p,q,r,s,t,u⟩|⟨k,p,q,⟨Zz,m,m2⟩,z⟩
   ·exact .inl e
   ·exact .inr (.inl ⟨k,VP,ko,p,q,r,s,(hμc k q).symm.trans t,u⟩)
   ·exact .inr (.inr ⟨k,p,q,⟨Zz,(hμc k q).symm.trans m,m2⟩,z⟩)
def LL(a:Nat)(l:List Value)(todo:List Item)(ro:Option Nat)(Hb ws:Qo)(Wf ex:List Nat):Bool:=
 l.all (Pp a 4) && (todo.all V8 && ((match ro with|some l=>Nat.blt l a|none=>true) && ((Hb.all fun p=>Nat.blt p.1 a) && ((Hb.all fun p=>ex.contains p.1 || Mn a p.2) && ((ws.all fun p=>Nat.blt p.1 a && Wf.contains p.1) && ((Wf.all fun k=>Nat.blt k a) && Nat.ble l.length 16000))))))
def Ig(a:Nat):Qo->List Nat->Prop
 |[],_=>True
 |(k,o)::H,ex=>(bif ex.contains k then yl a o else True)/\Ig a H ex
theorem nF{a:Nat}{ex:List Nat}:∀{H:Qo} {k:Nat} {o:Obj},Ig a H ex->ex.contains k=true->Qs H k=some o->yl a o
 |[],_,_,_,_,h=>by cases h
 |(j,x)::H,k,o,hx,hk,h=>by
  rw[QV]at h;split at h
  ·rename_i e;cases h;subst e;have:=hx.1;rw[hk]at this;exact this
  ·exact nF hx.2 hk h
theorem Wj{a:Nat}:∀H:Qo,Ig a H []
 |[]=>trivial
 |(_,_)::H=>⟨trivial,Wj H⟩
theorem tQ{a:Nat}{v:Value}(h:simple v=true):QR a v=true:=by unfold QR;rw[h];rfl
theorem ku{a:Nat}{v:Value}(h:simple v=true):Pp a 4 v=true:=by
 have hs:=tQ (a:=a) h;cases v with
 |agg xs=>cases h
 |tuple xs=>cases h
 |iface t x=>cases h
 |func fn xs ys=>
  cases fn with
  |func f=>
   simp only[simple,YB,beq_iff_eq,Array.size_eq_zero_iff]at h;obtain⟨rfl,rfl⟩:=h;simp[Pp]
  |_=>exact hs
 |_=>exact hs
theorem Yl{α:Type}{a:Nat}{e:α->List Value}{xs:List α}{t:TypeId}{fl:Nat×Nat}(h:∀x,∀v∈e x,simple v=true):yl a (.cells (Qg e xs) t fl):=fun i v hv=>.inl (ku (QN h v (Array.mem_of_getElem? hv)))
theorem FinK.fjB{fn:FuncId}{len:Nat}{l:List Value}{todo:List Item}{ro:Option Nat}{out:OO}{ws:Qo}{os:List Obj}{ex:List Nat}(h:FinK P B ⟨fn,ofList len l,todo,[],.run,ro⟩ Hb a out ws os Wf)(e:LL a l todo ro Hb ws Wf ex=true)(hx:Ig a Hb ex):
 FJ P B ⟨fn,ofList len l,todo,[],.run,ro⟩ Hb a out ((ws++((a,Xa)::QU (a+1) os))++Hb) (a+1+os.length) (List.range a) Wf:=by
 simp only[LL,YB]at e;obtain⟨e1,e2,e3,e4,e5,e6,e7,e8⟩:=e;have e8:=YL e8;refine h.fj (Q1 e4) (fun i o ho=> ?_) (fun i hi=>YL (List.all_eq_true.1 e7 i hi)) (fun t=> ?_) e2 rfl rfl (fun k hk=> ?_) (fun i o ho=> ?_)
 ·have:=List.all_eq_true.1 e6 _ (aA ho);simp only[YB]at this;exact⟨YL this.1,by simpa using this.2⟩
 ·simp only[X7,ofList];rw[a8 _ _ _ _ (by omega)];split
  ·rename_i ht;have ht:t<l.length:=by omega
   refine .inl (List.all_eq_true.1 e1 _ ?_);rw[Nat.sub_zero,List.getD_eq_getElem?_getD,List.getElem?_eq_getElem ht];exact List.getElem_mem ht
  ·rw[Tri.get_lf];exact .inr (J1 (by simp[Go.undef,af]))
 ·have hk:ro=some k:=hk;subst hk;exact YL e3
 ·have:=List.all_eq_true.1 e5 _ (aA ho);simp only[Bool.or_eq_true]at this;rcases this with h1|h1
  ·exact nF hx h1 ho
  ·exact xj h1
end
end Go.CE

namespace Go.CE
open Go Go.RowKit Go.ChangeShapes Go.WideShapes

inductive Sh where
 |int|bool|str|unit
 |pair (a b:Sh)
 |struct (f:Sh)
 |slice (e:Sh)
def Sh.sz:Sh->Nat
 | .unit=>0
 | .pair a b=>a.sz+b.sz
 | .struct f=>f.sz
 |_=>1
def Sh.ok:Sh->List Value->Prop
 | .int,cs=> ∃z:Int,(-9223372036854775808<=z/\z<=9223372036854775807)/\cs=[.int .i64 z]
 | .bool,cs=> ∃b,cs=[.bool b]
 | .str,cs=> ∃s:ByteArray,s.size<=maxLen/\cs=[.string s]
 | .unit,cs=>cs=[]
 | .pair a b,cs=> ∃x y,cs=x++y/\a.ok x/\b.ok y
 | .struct f,cs=>f.ok cs
 | .slice e,cs=> ∃(n:Nat) (r:Nat->List Value),(∀k,e.ok (r k)\/n<=k)/\(∀k,(r k).length=e.sz)/\cs=[QE n (Qg r (List.range n))]
theorem Sh.ok_sz:∀(s:Sh) (cs:List Value),s.ok cs->cs.length=s.sz
 | .int,cs,⟨z,_,h⟩=>by rw[h];rfl
 | .bool,cs,⟨z,h⟩=>by rw[h];rfl
 | .str,cs,⟨z,_,h⟩=>by rw[h];rfl
 | .unit,cs,h=>by rw[show cs=[]from h];rfl
 | .pair a b,cs,⟨x,y,h,hx,hy⟩=>by rw[h,List.length_append,Sh.ok_sz a x hx,Sh.ok_sz b y hy];rfl
 | .struct f,cs,h=>Sh.ok_sz f cs h
 | .slice e,cs,⟨n,r,_,_,h⟩=>by rw[h];rfl
def Sh.chk(P:Program):Sh->Option (List Field×Nat)->TypeId->Bool
 | .int,none,t=>match P.underlying t with|some (.int .i64)=>true|_=>false
 | .bool,none,t=>match P.underlying t with|some .bool=>true|_=>false
 | .str,none,t=>match P.underlying t with|some .string=>true|_=>false
 | .struct f,none,t=>match P.underlying t with|some (.struct fs)=>f.chk P (some (fs.toList,0)) t|_=>false
 | .slice e,none,t=>match P.underlying t with|some (.slice u)=>Nat.blt 0 e.sz && e.chk P none u|_=>false
 | .unit,some ([],off),t=>Nat.beq off (P.cellsOf t)
 | .pair a b,some (f::fs,off),t=>Nat.beq f.offset off && (a.chk P none f.type && (Nat.beq (P.cellsOf f.type) a.sz && b.chk P (some (fs,off+P.cellsOf f.type)) t))
 |_,_,_=>false
def TRl(fm:Nat->Option Obj)(ts cs:List Value):Prop:=ts.length=cs.length/\∀(i:Nat) v v',ts[i]? =some v->cs[i]? =some v'->TRv fm v v'
theorem TRl.nil{fm:Nat->Option Obj}:TRl fm [] []:=⟨rfl,fun i v v' h=>by simp at h⟩
theorem TRl.one{fm:Nat->Option Obj}{t v:Value}(h:TRv fm t v):TRl fm [t] [v]:=⟨rfl,fun i a b ha hb=>by
 cases i with
 |zero=>simp at ha hb;subst ha hb;exact h
 |succ i=>simp at ha⟩
theorem TRl.append{fm:Nat->Option Obj}{a b c d:List Value}(h:TRl fm a b)(k:TRl fm c d):TRl fm (a++c) (b++d):=⟨by simp[h.1,k.1],fun i v v' x y=>by
 rcases Nat.lt_or_ge i a.length with hi|hi
 ·rw[List.getElem?_append_left hi]at x;rw[List.getElem?_append_left (by rw[<-h.1];exact hi)]at y;exact h.2 i v v' x y
 ·rw[List.getElem?_append_right hi]at x;rw[List.getElem?_append_right (by rw[<-h.1];exact hi)]at y;exact k.2 _ v v' x (by rw[h.1];exact y)⟩
def allM(w:World)(b:Nat):Option Obj:=w.heap[b]?
section
variable {P:Program} {H:Type} {enc:TypeId×Value->H} {w:World} {held:Bool}
theorem AN{a:Addr}{v:Value}(h:w.cell? a=some v):∃b o arr t fl,a=⟨b,o,none⟩/\w.heap[b]? =some (.cells arr t fl)/\arr[o]? =some v:=by
 obtain⟨b,o,s⟩:=a;unfold World.cell? at h;split at h
 ·rename_i c t fl hb;cases s with
  |some _=>simp at h
  |none=>exact⟨b,o,c,t,fl,rfl,hb,by simpa using h⟩
 ·cases h
theorem qh{b o j:Nat}:(⟨b,o,none⟩:Addr).add j=⟨b,o+j,none⟩:=by
 unfold Addr.add;split <;> simp_all
theorem px{e:Nat->List Value}{z n:Nat}(h:∀k,(e k).length=z){i:Nat}{v:Value}(hv:(Qg e (List.range n))[i]? =some v):∃k j,k<n/\j<z/\i=k*z+j/\(e k)[j]? =some v:=by
 have Xh:i<n*z:=by
  have:=(Array.getElem?_eq_some_iff.1 hv).1;rw[Zf h]at this;simpa using this
 have hz:0<z:=by
  rcases Nat.eq_zero_or_pos z with rfl|h
  ·omega
  ·exact h
 have hk:i / z<n:=Nat.div_lt_of_lt_mul (by rwa[Nat.mul_comm]at Xh);have hj:i % z<z:=Nat.mod_lt _ hz;have hi:i=i / z*z+i % z:=by
  have:=Nat.div_add_mod i z;rw[Nat.mul_comm]at this;omega
 refine⟨i / z,i % z,hk,hj,hi, ?_⟩;have:=S7 (e:=e) (xs:=List.range n) h (k:=i / z) (j:=i % z) (by simpa using hk) hj;rw[<-hi,hv]at this;rw[this];simp[List.getD,hk]
theorem Ir:∀(s:Sh) (fuel:Nat) (t:TypeId) (cs:List Value) (x:DataW H×List MemPlace),s.chk P none t=true->DataW.trod enc P w 0 (fun _=>true) held fuel t cs=some x->∃ts,s.ok ts/\TRl (allM w) ts cs:=by
 intro s
 -- for fields, too
 have key:(∀(fuel:Nat) (t:TypeId) (cs:List Value) (x:DataW H×List MemPlace),s.chk P none t=true->DataW.trod enc P w 0 (fun _=>true) held fuel t cs=some x->∃ts,s.ok ts/\TRl (allM w) ts cs)/\
  (∀(fl:List Field) (off:Nat) (t:TypeId) (cs:List Value),s.chk P (some (fl,off)) t=true->cs.length=P.cellsOf t->(∀f∈fl,∃fuel x,DataW.trod enc P w 0 (fun _=>true) held fuel f.type ((cs.drop f.offset).take (P.cellsOf f.type))=some x)->∃ts,s.ok ts/\TRl (allM w) ts (cs.drop off)):=by
  induction s with
  |int=>
   refine⟨fun fuel t cs x hc h=> ?_,fun fl off t cs hc=>by simp[Sh.chk]at hc⟩;simp only[Sh.chk]at hc;split at hc
   ·rename_i ht;obtain⟨n,rfl,_,hw⟩:=DataW.trod_int ht h;simp only[Lit.wf,YB,decide_eq_true_eq]at hw;exact⟨_,⟨n,⟨hw.1,hw.2⟩,rfl⟩,TRl.one (.simple rfl)⟩
   ·cases hc
  |bool=>
   refine⟨fun fuel t cs x hc h=> ?_,fun fl off t cs hc=>by simp[Sh.chk]at hc⟩;simp only[Sh.chk]at hc;split at hc
   ·rename_i ht;obtain⟨b,rfl,_⟩:=DataW.trod_bool ht h;exact⟨_,⟨b,rfl⟩,TRl.one (.simple rfl)⟩
   ·cases hc
  |str=>
   refine⟨fun fuel t cs x hc h=> ?_,fun fl off t cs hc=>by simp[Sh.chk]at hc⟩;simp only[Sh.chk]at hc;split at hc
   ·rename_i ht;obtain⟨b,rfl,_,hl⟩:=DataW.trod_string ht h;exact⟨_,⟨b,hl,rfl⟩,TRl.one (.simple rfl)⟩
   ·cases hc
  |unit=>
   refine⟨fun fuel t cs x hc h=>by simp[Sh.chk]at hc,fun fl off t cs hc hl hf=> ?_⟩;cases fl with
   |nil=>
    simp only[Sh.chk]at hc;have:=YE hc;refine⟨[],rfl, ?_⟩;rw[List.drop_eq_nil_of_le (by omega)];exact TRl.nil
   |cons f fl=>simp[Sh.chk]at hc
  |pair a b iha ihb=>
   refine⟨fun fuel t cs x hc h=>by simp[Sh.chk]at hc,fun fl off t cs hc hl hf=> ?_⟩;cases fl with
   |nil=>simp[Sh.chk]at hc
   |cons f fl=>
    simp only[Sh.chk,YB]at hc;obtain⟨h1,h2,h3,h4⟩:=hc;have h1:=YE h1;have h3:=YE h3;subst h1;obtain⟨fuel,x,hx⟩:=hf f (by simp);obtain⟨ta,oa,ra⟩:=iha.1 fuel f.type _ x h2 hx;obtain⟨tb,ob,rb⟩:=ihb.2 fl _ t cs h4 hl (fun g hg=>hf g (by simp[hg]));refine⟨ta++tb,⟨ta,tb,rfl,oa,ob⟩, ?_⟩;have:cs.drop f.offset=(cs.drop f.offset).take (P.cellsOf f.type)++cs.drop (f.offset+P.cellsOf f.type):=by
     rw[<-List.drop_drop,List.take_append_drop]
    rw[this];exact ra.append rb
  |struct f ih=>
   refine⟨fun fuel t cs x hc h=> ?_,fun fl off t cs hc=>by simp[Sh.chk]at hc⟩;simp only[Sh.chk]at hc;split at hc
   ·rename_i fs ht;obtain⟨xs,n,_,_,hl,hlen,hg⟩:=DataW.trod_struct ht h;obtain⟨ts,h1,h2⟩:=ih.2 fs.toList 0 t cs hc hl fun g hg'=>by
     obtain⟨i,hi⟩:=List.getElem?_of_mem hg';have hi':fs[i]? =some g:=by simpa using hi
     have:=hg i g hi';have Xh:i<xs.length:=by
      have:=(Array.getElem?_eq_some_iff.1 hi').1;omega
     rw[List.getElem?_eq_getElem Xh]at this;exact⟨n,_,this⟩
    exact⟨ts,h1,by simpa using h2⟩
   ·cases hc
  |slice e ih=>
   refine⟨fun fuel t cs x hc h=> ?_,fun fl off t cs hc=>by simp[Sh.chk]at hc⟩;simp only[Sh.chk]at hc;split at hc
   ·rename_i u ht;simp only[YB]at hc;obtain⟨hz,hc⟩:=hc;have hz:0<e.sz:=YL hz;rcases Deep.open_slice ht h with ⟨rfl,_⟩|⟨a,len,cap,m,n',D,Pl,rfl,_,hl,hm,hmm,_,hi⟩
    ·exact⟨_,⟨0,fun _=>List.replicate e.sz undef,fun k=>.inr (Nat.zero_le _),fun k=>by simp,rfl⟩,TRl.one .nil⟩
    ·simp only[if_true]at hmm;subst hmm;have each:∀k,∃r:List Value,(k<len->e.ok r/\(∀j,j<P.cellsOf u->w.cell? (a.add (k*P.cellsOf u+j))=none->False)/\∀(j:Nat) v v',r[j]? =some v->w.cell? (a.add (k*P.cellsOf u+j))=some v'->TRv (allM w) v v')/\r.length=e.sz/\(k<len->e.sz=P.cellsOf u):=by
      intro k;by_cases hk:k<len
      ·obtain⟨cs',hc',ht'⟩:=hi k (by omega);obtain⟨ts,ho,hr⟩:=ih.1 n' u cs' _ hc ht';obtain⟨_,hln,hat⟩:=World.cells?_some hc';have Zm:e.sz=P.cellsOf u:=by rw[<-Sh.ok_sz e ts ho,hr.1,hln]
       refine⟨ts,fun _=>⟨ho,fun j hj hnone=> ?_,fun j v v' hv ZY=> ?_⟩,Sh.ok_sz e ts ho,fun _=>Zm⟩
       ·have:=hat j hj;rw[Deep.add_add,hnone,List.getElem?_eq_getElem (by omega)]at this;cases this
       ·have hj:j<ts.length:=(List.getElem?_eq_some_iff.1 hv).1;have:=hat j (by rw[hr.1,hln]at hj;exact hj);rw[Deep.add_add,ZY]at this;exact hr.2 j v v' hv this.symm
      ·exact⟨List.replicate e.sz undef,fun h=>absurd h hk,by simp,fun h=>absurd h hk⟩
     refine⟨_,⟨len,fun k=>Classical.choose (each k),fun k=> ?_,fun k=>(Classical.choose_spec (each k)).2.1,rfl⟩,TRl.one ?_⟩
     ·by_cases hk:k<len
      ·exact .inl ((Classical.choose_spec (each k)).1 hk).1
      ·exact .inr (by omega)
     ·generalize hr:(fun k=>Classical.choose (each k))=r;have hr1:∀k,k<len->e.ok (r k)/\(∀j,j<P.cellsOf u->w.cell? (a.add (k*P.cellsOf u+j))=none->False)/\∀(j:Nat) v v',(r k)[j]? =some v->w.cell? (a.add (k*P.cellsOf u+j))=some v'->TRv (allM w) v v':=fun k hk=>by rw[<-hr];exact(Classical.choose_spec (each k)).1 hk
      have hr2:∀k,(r k).length=e.sz:=fun k=>by rw[<-hr];exact(Classical.choose_spec (each k)).2.1
      have hr3:∀k,k<len->e.sz=P.cellsOf u:=fun k hk=>(Classical.choose_spec (each k)).2.2 hk
      rcases Nat.eq_zero_or_pos len with rfl|hpos
      ·have:Qg r (List.range 0)=#[]:=rfl;rw[this];exact .empty hm
      ·have Zm:=hr3 0 hpos;have hex:∃v,w.cell? a=some v:=by
        have:=(hr1 0 hpos).2.1 0 (by omega);have ea:a.add (0*P.cellsOf u+0)=a:=by simp[Addr.add]
        rw[ea]at this;cases hq:w.cell? a with
        |none=>exact absurd hq this
        |some v=>exact⟨v,rfl⟩
       obtain⟨v0,hv0⟩:=hex;obtain⟨b,o,arr,ty,fl,rfl,hb,_⟩:=AN hv0;have cellE:∀i,w.cell? ⟨b,o+i,none⟩=arr[o+i]? :=fun i=>by simp[World.cell?,hb]
       refine TRv.slice (o:=o) hl hm hb (fun i hi'=> ?_) fun i v v' hv ZY=> ?_
       ·obtain⟨k,j,hk,hj,rfl,_⟩:=px hr2 (i:=i) (v:=(Qg r (List.range len))[i]) (Array.getElem?_eq_getElem hi');have:=(hr1 k hk).2.1 j (by omega);rw[qh,<-Zm,cellE]at this;rcases Nat.lt_or_ge (o+(k*e.sz+j)) arr.size with h1|h1
        ·exact h1
        ·exact absurd (Array.getElem?_eq_none h1) this
       ·obtain⟨k,j,hk,hj,rfl,hkj⟩:=px hr2 hv;refine(hr1 k hk).2.2 j v v' hkj ?_;rw[qh,<-Zm,cellE];exact ZY
   ·cases hc
 exact key.1
def Sh.arg:Sh->Value->Prop
 | .struct f,v=> ∃cs,v=.agg cs.toArray/\f.ok cs
 |s,v=>s.ok [v]
def tx:List Sh->List Value->Prop
 |[],l=>l=[]
 |s::ss,l=> ∃t ts,l=t::ts/\s.arg t/\tx ss ts
theorem Es{s:Sh}{t:TypeId}{v:Value}{d:DataW H}{ps:List MemPlace}{r:Reach}{b0:Nat}(hc:s.chk P none t=true)(hv:Value.okWide P w r b0 t v)(h:DataW.Trod enc P w 0 (fun _=>true) held t v d ps):∃tr,s.arg tr/\TRv (allM w) tr v:=by
 obtain⟨fuel,hf⟩:=h;obtain⟨ts,ho,hr⟩:=Ir s fuel t _ _ hc hf;have one:v.cells=#[v]->s.ok ts->(∀f,s≠.struct f)->∃tr,s.arg tr/\TRv (allM w) tr v:=fun hv1 ho hs=>by
  rw[hv1]at hr;match ts,hr,ho with
  |[tr],hr,ho=>
   refine⟨tr, ?_,hr.2 0 tr v rfl rfl⟩;cases s <;> first|exact ho|exact absurd rfl (hs _)
  |[],hr,_=>have:=hr.1;simp at this
  |_::_::_,hr,_=>have:=hr.1;simp at this
 cases s with
 |int=>
  simp only[Sh.chk]at hc;split at hc
  ·rename_i ht;obtain⟨n,rfl⟩:=okWide_int ht hv;exact one rfl ho fun f h=>by cases h
  ·cases hc
 |bool=>
  simp only[Sh.chk]at hc;split at hc
  ·rename_i ht;obtain⟨n,rfl⟩:=okWide_bool ht hv;exact one rfl ho fun f h=>by cases h
  ·cases hc
 |str=>
  simp only[Sh.chk]at hc;split at hc
  ·rename_i ht;obtain⟨n,rfl⟩:=okWide_string ht hv;exact one rfl ho fun f h=>by cases h
  ·cases hc
 |unit=>simp[Sh.chk]at hc
 |pair a b=>simp[Sh.chk]at hc
 |struct f=>
  simp only[Sh.chk]at hc;split at hc
  ·rename_i fs ht;obtain⟨cs,rfl,_⟩:=okWide_struct ht hv;refine⟨.agg ts.toArray,⟨ts,rfl,ho⟩,.agg ?_ fun i v v' h1 h2=> ?_⟩
   ·have:=hr.1;simpa[Value.cells]using this
   ·exact hr.2 i v v' (by simpa using h1) (by simpa[Value.cells]using h2)
  ·cases hc
 |slice e=>
  simp only[Sh.chk]at hc;split at hc
  ·rename_i u ht;obtain⟨a,l,c,rfl⟩:=okWide_slice ht hv;exact one rfl ho fun f h=>by cases h
  ·cases hc
def bG(P:Program):List Sh->List TypeId->Bool
 |[],[]=>true
 |s::ss,t::ts=>s.chk P none t && bG P ss ts
 |_,_=>false
theorem trodAll_cons{t:TypeId}{ts:List TypeId}{vs:List Value}{ds:List (DataW H)}{ps:List MemPlace}{base:Nat}{spare:Nat->Bool}(h:DataW.TrodAll enc P w base spare held (t::ts) vs ds ps):
 ∃v vs' d ds' p q,vs=v::vs'/\ds=d::ds'/\DataW.Trod enc P w base spare held t v d p/\DataW.TrodAll enc P w base spare held ts vs' ds' q/\ps=p++q:=by
 cases vs with
 |nil=>cases ds <;> simp[DataW.TrodAll]at h
 |cons v vs=>
  cases ds with
  |nil=>simp[DataW.TrodAll]at h
  |cons d ds=>
   simp only[DataW.TrodAll]at h;obtain⟨p,q,h1,h2,h3⟩:=h;exact⟨v,vs,d,ds,p,q,rfl,rfl,h1,h2,h3⟩
theorem trodAll_nil{vs:List Value}{ds:List (DataW H)}{ps:List MemPlace}{base:Nat}{spare:Nat->Bool}(h:DataW.TrodAll enc P w base spare held [] vs ds ps):vs=[]/\ds=[]/\ps=[]:=by
 cases vs <;> cases ds <;> simp[DataW.TrodAll]at h
 exact⟨rfl,rfl,h⟩
theorem Mf:∀(ss:List Sh) (ts:List TypeId) (vs:List Value) (ds:List (DataW H)) (ps:List MemPlace) (r:Reach) (b0:Nat),bG P ss ts=true->DataW.TrodAll enc P w 0 (fun _=>true) held ts vs ds ps->
 (∀(j:Nat) t v,ts[j]? =some t->vs[j]? =some v->Value.okWide P w r b0 t v)->∃trs,tx ss trs/\TRl (allM w) trs vs
 |[],[],vs,ds,ps,r,b0,_,h,_=>by
  obtain⟨rfl,_,_⟩:=trodAll_nil h;exact⟨[],rfl,TRl.nil⟩
 |s::ss,t::ts,vs,ds,ps,r,b0,hc,h,hv=>by
  simp only[bG,YB]at hc;obtain⟨v,vs',d,ds',p,q,rfl,rfl,h1,h2,rfl⟩:=trodAll_cons h;obtain⟨tr,ha,hr⟩:=Es hc.1 (hv 0 t v rfl rfl) h1;obtain⟨trs,ha2,hr2⟩:=Mf ss ts vs' ds' q r b0 hc.2 h2 fun j t v h1 h2=>hv (j+1) t v (by simpa using h1) (by simpa using h2)
  exact⟨tr::trs,⟨tr,trs,rfl,ha,ha2⟩,(TRl.one hr).append hr2⟩
 |[],_::_,_,_,_,_,_,hc,_,_=>by simp[bG]at hc
 |_::_,[],_,_,_,_,_,hc,_,_=>by simp[bG]at hc
theorem Hi{J:World->Prop}{f:FuncId}{ss:List Sh}{ts:List TypeId}{args:Array Value}{ds:List (DataW H)}{ps:List MemPlace}{r:Reach}{b0:Nat}(hJ:J w)(hc:bG P ss ts=true)(h:DataW.TrodAll enc P w 0 (fun _=>true) held ts args.toList ds ps)
 (hv:∀(j:Nat) t v,ts[j]? =some t->args[j]? =some v->Value.okWide P w r b0 t v) (walk:∀trs,tx ss trs->Qx P J f trs.toArray (.bool true)):Calls P f args w fun e w'=>e=.returned (.bool true)/\Below w.heap.size w w':=by
 obtain⟨trs,ha,hr⟩:=Mf ss ts args.toList ds ps r b0 hc h fun j t v h1 h2=>hv j t v h1 (by simpa using h2)
 refine(walk trs ha (allM w) w args hJ (fun b x h=>h) ⟨by simpa using hr.1,fun i v v' h1 h2=>hr.2 i v v' (by simpa using h1) (by simpa using h2)⟩).mono fun e w' ⟨v',he,hb,ht⟩=>⟨?_,hb⟩
 rw[he,TRv.simple_eq rfl ht]
theorem aJ(hl:laidOutB P=true){W W':World}(hb:Below W.heap.size W W'):∀(ts:List TypeId) (vs:List Value) (ds:List (DataW H)) (ps:List MemPlace),(ts.all fun t=>P.readableRec t && decide (t<P.types.size))=true->DataW.TrodAll enc P W 0 (fun _=>true) true ts vs ds ps->(∀x∈ps,x.block<W.heap.size)->
 DataW.TrodAll enc P W' 0 (fun b=>decide (b<W.heap.size)) true ts vs ds ps
 |[],vs,ds,ps,_,h,_=>by
  obtain⟨rfl,rfl,rfl⟩:=trodAll_nil h;exact rfl
 |t::ts,vs,ds,ps,ha,h,Xh=>by
  simp only[List.all_cons,YB,decide_eq_true_eq]at ha;obtain⟨v,vs',d,ds',p,q,rfl,rfl,h1,h2,rfl⟩:=trodAll_cons h;exact⟨p,q,Below.trod hl ha.1.1 ha.1.2 h1 hb fun x hx=>Xh x (List.mem_append_left _ hx),aJ hl hb ts vs' ds' q ha.2 h2 fun x hx=>Xh x (List.mem_append_right _ hx),rfl⟩
theorem Iy{α:Type}{s:Sh}{e:α->List Value}(dec:∀cs,s.ok cs->∃x,cs=e x){n:Nat}{r:Nat->List Value}(h:∀k,s.ok (r k)\/n<=k):∃xs:List α,xs.length=n/\Qg r (List.range n)=Qg e xs:=by
 induction n with
 |zero=>exact⟨[],rfl,rfl⟩
 |succ n ih=>
  obtain⟨xs,hl,hx⟩:=ih fun k=>(h k).imp id fun h=>by omega
  obtain⟨x,hxe⟩:=dec (r n) ((h n).resolve_right (by omega));refine⟨xs++[x],by simp[hl], ?_⟩;unfold Qg at hx ⊢;rw[List.range_succ,List.flatMap_append,List.flatMap_append];have:(List.range n).flatMap r=xs.flatMap e:=by simpa using hx
  rw[this];simp[hxe]
theorem bX{α:Type}{s:Sh}{e:α->List Value}(dec:∀cs,s.ok cs->∃x,cs=e x){cs:List Value}(h:Sh.ok (.slice s) cs):∃xs:List α,cs=[QE xs.length (Qg e xs)]:=by
 obtain⟨n,r,h1,_,rfl⟩:=h;obtain⟨xs,rfl,hx⟩:=Iy dec h1;exact⟨xs,by rw[hx]⟩
theorem MD{cs:List Value}(h:Sh.ok .int cs):∃z:Int,cs=Q9 z:=by
 obtain⟨z,_,rfl⟩:=h;exact⟨z,rfl⟩
def Sh.zero:Sh->List Value
 | .int=>[.int .i64 0]
 | .bool=>[.bool false]
 | .str=>[.string ⟨#[]⟩]
 | .unit=>[]
 | .pair a b=>a.zero++b.zero
 | .struct f=>f.zero
 | .slice _=>[.slice none 0 0]
def Sh.zeroA:Sh->Value
 | .struct f=>.agg f.zero.toArray
 |s=>s.zero.headD undef
def O5(l:List Sh):Sh:=.struct (l.foldr .pair .unit)
end
end Go.CE
