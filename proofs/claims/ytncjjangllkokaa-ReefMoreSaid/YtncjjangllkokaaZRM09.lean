/- TW 3: operations on trees. -/
import Derived.Test.YtncjjangllkokaaZRM08
set_option linter.all false
open Nat renaming beq->Lg,blt->Lp,min->LJ,ble->LI,le_refl->Ly,zero_add->Lz,lt_or_ge->LA
open Array renaming getElem?_extract->LO,mem_of_getElem? ->LD,getElem?_toList->Ln
open Option renaming map_some->LC
open List renaming length->Lc,getElem?_append_right->Lj,range'->LB,mem_append_left->Lk,mem_append_right->Lr,range->Lv,getElem?_cons_zero->Lq,mem_cons_of_mem->Ls
namespace Go.CE
open Go Go.RowKit

inductive Qu where
 |WE (h:Hint)
 |tidx (k:Nat) (es:Array Value)
 |tarr (k:Nat) (es:Array Value)
 |tslc (k m':Nat) (cs':Array Value)
 |tapp (cs':Array Value)
 |tapp0
 |tcpy (cs':Array Value)
 |pure (out:Value) (fz:List Fz)
 |pureK (out:Value) (fz:List Fz)
 |bin (v:Value)
 |call (keys:List Nat) (out:OO) (UC:Q0) (n':Nat) (W:List Nat)
 |eval (s:Rs)
 |wri (κ R:List Nat) (ps qs:List Bool) (out:OO) (outs news:List Obj)
def killL(H:Q0):List Nat->Q0
 |[]=>H
 |k::K=>PI (killL H K) (some k)
def PC:Option Obj->Bool
 |some (.cells _ _ (0,0))=>true
 |_=>false
def sB(P:Program)(T:Tm)(o:Oper):Option (Value×Nat):=match o.op with
 | .call c=>match c.callee with
   | .builtin .len=>match c.args.toList,c.argTypes.toList with
     |[x],[t]=>match Zd T x with
      |some v=>match fH v,YF P t with
       |some (r,k,_),some (.slice _)=>some (.int .i64 k,r)
       |_,_=>none
      |none=>none
     |_,_=>none
   |_=>none
 | .fieldAddr s x f=>match Zd T x with
   |some v=>match oA v with
    |some (r,off,cs)=>match ZU P s f (.pointer (some ⟨0,off,none⟩))with
     |some (.pointer (some ⟨0,off',none⟩))=>some (QF r (Y5 off' cs),r)
     |_=>none
    |none=>none
   |none=>none
 | .load t x=>match Zd T x with
   |some v=>match oA v with
    |some (r,off,cs)=>match UA P t cs off with
     |some v=>bif ni 4 v then some (QG r 4 v,r)else none
     |none=>none
    |none=>none
   |none=>none
 |_=>none
def Jk:Value->Bool
 | .slice none 0 0| .chan (some 0)=>true
 |_=>false
def RG(P:Program)(T:Tm)(o:Oper):Option (Value×Nat×Nat×Array Value×TypeId×Nat×Nat×Value):=match o.op with
 | .call c=>match c.callee with
   | .builtin .append=>match c.args.toList,c.argTypes.toList with
     |[s,x],[t,t']=>match Zd T s,Zd T x with
      |some sv,some xv=>match fH xv,YF P t with
       |some (r,k,cs),some (.slice e)=>match inf P e with
        |some i=>match i.zero,i.size with
         |some zv,z+1=>bif Lg t t' && Jk sv && Lg zv.cells.size (z+1)then some (sv,r,k,cs,e,z+1,i.bytes,zv)else none
         |_,_=>none
        |none=>none
       |_,_=>none
      |_,_=>none
     |_,_=>none
   |_=>none
 |_=>none
def eD(P:Program)(T:Tm)(o:Oper):Option (Nat×Nat×Nat×Nat×Nat×Array Value×Nat):=match o.op with
 | .call c=>match c.callee with
   | .builtin .copy=>match c.args.toList,c.argTypes.toList with
     |[s,x],[t,_]=>match Zd T s,Zd T x with
      |some (.slice (some ⟨b,off,none⟩) k _),some xv=>match fH xv,YF P t with
       |some (r,m,cs2),some (.slice e)=>match Wl P e with
        |some z=>some (b,off,k,r,m,cs2,z)
        |none=>none
       |_,_=>none
      |_,_=>none
     |_,_=>none
   |_=>none
 |_=>none
def kA(P:Program)(op:BinOp)(t:TypeId)(a b v:Value):Prop:=∀(x y:Operand) (w:World),(do eqGuard op t x y a b;binOp op t a b:Sem Value).run P w=.ok v w
def FQ(P:Program)(F:FuncId->Bool)(J:World->Prop)(B:Lo)(T:Tm)(o:Oper)(H:Q0)(n:Nat):Option Qu->Option Told
 |none=>match sB P T o with
  |some (v,r)=>bif Lp r n && X1 (Q4 H r)then some ⟨⟨.ret v,H,n,[r],[]⟩,none⟩else none
  |none=>Fq P F B T o H n none
 |some (.WE h)=>Fq P F B T o H n (some h)
 |some (.tidx k es)=>match o.op with
  | .indexAddr t x i=>match Zd T x,Zd T i with
    |some v,some (.int _ q)=>match fH v,YF P t with
     |some (r,m,cs),some (.slice e)=>match Wl P e with
      |some z=>bif Lp r n && X1 (Q4 H r)then some ⟨⟨.ret (QF r (Y5 0 es)),H,n,[r],[]⟩,some (q=(k:Int)/\k<m/\cs.extract (k*z) (k*z+z)=es)⟩else none
      |none=>none
     |_,_=>none
    |_,_=>none
  |_=>none
 |some (.tarr k es)=>match o.op with
  | .indexAddr t x i=>match Zd T x,Zd T i with
    |some v,some (.int _ q)=>match oA v,YF P t with
     |some (r,off,cs),some (.array m e)=>match Wl P e with
      |some z=>bif Lp r n && X1 (Q4 H r)then some ⟨⟨.ret (QF r (Y5 0 es)),H,n,[r],[]⟩,some (q=(k:Int)/\k<m/\cs.extract (off+k*z) (off+k*z+z)=es)⟩else none
      |none=>none
     |_,_=>none
    |_,_=>none
  |_=>none
 |some (.tslc k m' cs')=>match o.op with
  | .slice t x (some lo) none none=>match Zd T x,Zd T lo with
    |some v,some (.int _ q)=>match fH v,YF P t with
     |some (r,m,cs),some (.slice e)=>match Wl P e with
      |some z=>bif Lp r n && X1 (Q4 H r)then some ⟨⟨.ret (QF r (Xq m' cs')),H,n,[r],[]⟩,some (q=(k:Int)/\k<m/\m'=m-k/\cs.extract (k*z) cs.size=cs')⟩else none
      |none=>none
     |_,_=>none
    |_,_=>none
  |_=>none
 |some (.tapp cs')=>match RG P T o with
  |some (_,r,k,cs,e,z,by',_)=>bif Lp r n && X1 (Q4 H r)then
   some ⟨⟨.ret (.slice (some ⟨n,0,none⟩) k z),(n,.cells cs' e (0,0))::H,n+1,[r],[]⟩,some (0<k/\k<=maxLen/\k*by'<=140737488355328/\cs.size=k*z/\cs.map (Zl r)=cs'/\(cs.all fun v=>simple v || ZX v)=true/\ones cs'=true)⟩else none
  |none=>none
 |some .tapp0=>match RG P T o with
  |some (sv,r,k,_,_,_,_,_)=>bif Lp r n && X1 (Q4 H r)then some ⟨⟨.ret sv,H,n,[r],[]⟩,some (k=0)⟩else none
  |none=>none
 |some (.tcpy cs')=>match eD P T o with
  |some (b,off,k,r,m,cs2,z)=>match Q4 H b with
   |some (.cells cs te (0,0))=>bif Lp r n && X1 (Q4 H r) && Lp b n then
    some ⟨⟨.ret (.int .i64 (LJ m k)),WZ H b (.cells cs' te (0,0)),n,[b,r],[b]⟩,some (0<m/\off+LJ m k*z<=cs.size/\LJ m k*z<=cs2.size/\(cs2.all fun v=>simple v || ZX v)=true/\ones ((cs2.extract 0 (LJ m k*z)).map (Zl r))=true/\splice cs off ((cs2.extract 0 (LJ m k*z)).map (Zl r))=cs')⟩else none
   |_=>none
  |none=>none
 |some (.eval s)=>some ⟨s,some (eA P F X3 (fun _ _ _=>none) T o H n=some s)⟩
 |some (.bin v)=>match o.op with
  | .binOp op t x y _=>match Zd T x,Zd T y with
    |some a,some b=>bif af a && af b && af v then some ⟨⟨.ret v,H,n,[],[]⟩,some (kA P op t a b v)⟩else none
    |_,_=>none
  |_=>none
 |some (.call keys out UC n' W)=>match o.op with
  | .call _=>match Pk P F (Zd T) o H n with
    |some ⟨.enter g args,H1,n1,R,W1⟩=>bif Lg n1 n && W1.isEmpty then
     match ZM P g args with
     |some c1=>some ⟨⟨out,UC++H1,n',R++keys,W⟩,some (FJ P B c1 H1 n out (UC++H1) n' keys W)⟩
     |none=>none
      else none
    |some ⟨.round l fn tm a b,H1,n1,R,W1⟩=>bif Lg n1 n && W1.isEmpty && LI tm.size 16000 then some ⟨⟨out,UC++H1,n',R++keys,W⟩,some (FJ P B ⟨fn,ofList tm.size tm.toList,[.code a,.beginRound,.code b],[],.run,some l⟩ H1 n out (UC++H1) n' keys W)⟩else none
    |_=>none
  |_=>none
 |some (.pure out fz)=>match o.op with
  | .call _=>match Pk P F (Zd T) o H n with
    |some ⟨.enter g args,H1,n1,R,W1⟩=>bif Lg n1 n && W1.isEmpty then
     match VY (Vg H1 fz 3) args.toList with
     |some (ts,R2,L)=>bif R2.all fun i=>Lp i n then
      bif P1 2 out then some ⟨⟨.ret out,H1,n,R++R2,[]⟩,some (Q3 L/\Qz P J g ts.toArray out)⟩
      else bif (R2.all fun i=>X1 (Q4 H1 i)) && ni 4 out then some ⟨⟨.ret (QG n 4 out),(n,XM)::H1,n+1,R++R2,[]⟩,some (Q3 L/\Qz P J g ts.toArray out)⟩else none
       else none
     |none=>none
      else none
    |_=>none
  |_=>none
 |some (.pureK out fz)=>match o.op with
  | .call _=>match Pk P F (Zd T) o H n with
    |some ⟨.enter g args,H1,n1,R,W1⟩=>bif Lg n1 n && W1.isEmpty then
     match VY (Vg H1 fz 3) args.toList with
     |some (ts,R2,L)=>bif (R2.all fun i=>Lp i n) && (R2.all fun i=>X1 (Q4 H1 i) || PC (Q4 H1 i)) && ni 4 out then
      some ⟨⟨.ret (QG n 4 out),(n,XM)::killL H1 (R2.filter fun i=>PC (Q4 H1 i)),n+1,R++R2,R2.filter fun i=>PC (Q4 H1 i)⟩,some (Q3 L/\Qz P J g ts.toArray out)⟩else none
     |none=>none
      else none
    |_=>none
  |_=>none
 |some (.wri κ R ps qs out outs news)=>match o.op with
  | .call _=>match Pk P F (Zd T) o H n with
    |some ⟨.enter g args,H1,n1,R0,W1⟩=>bif Lg n1 n && W1.isEmpty then
     match DU H1 n κ R ps qs args out outs news with
     |some (as,bs,o1,UC,L)=>some ⟨⟨o1,UC++H1,n+1+news.length,R0++(κ++R),κ⟩,some (Q3 L/\WriC P J g as.toArray bs out outs news)⟩
     |none=>none
      else none
    |_=>none
  |_=>none
section
variable {P:Program} {F:FuncId->Bool} {J:World->Prop} {B:Lo} {T:Tm} {o:Oper} {H:Q0} {n:Nat}
theorem Yf(hF:∀g,F g=true->QB P g=true){c:Call}(Zh:o.op=.call c)(hu:Under H n){g:FuncId}{args:Array Value}{H1 H2:Q0}{R keys W:List Nat}{n':Nat}{out:OO}(hcr:Pk P F (Zd T) o H n=some ⟨.enter g args,H1,n,R,[]⟩)(hcj:k9 P B g args H1 n out H2 n' keys W):
 J2 P B o (Zd T) H n out H2 n' (R++keys) W/\Shape H n H2 n' (R++keys) W:=by
 have ZL:Wd P B (fun g' a' H' m'=>open Classical in if g'=g/\a'=args/\H'=H1/\m'=n then some ⟨out,H2,n',keys,W⟩else none):=by
  intro g' a' H' m' s _ h;simp only at h;split at h
  ·rename_i q;obtain⟨rfl,rfl,rfl,rfl⟩:=q;simp only[YO]at h;subst h;exact hcj
  ·cases h
 have:=UK hF K9 ZL hu (T:=T) (o:=o) (s:=⟨out,H2,n',R++keys,W⟩) (by simp[eA,Zh,hcr]);exact this
theorem FJ.callJ{g:FuncId}{args:Array Value}{c0:CF}{H':Q0}{n':Nat}{R W:List Nat}{out:OO}(hc:ZM P g args=some c0)(h:FJ P B c0 H n out H' n' R W):k9 P B g args H n out H' n' R W:=
 ⟨h.shape,fun S μ w args' cs QR hB hS hf ha hR=>h.sem S μ w (Frame.enter P g args' .normal) cs QR hB hS hf (Vz hc ha) hR⟩
theorem FJ.recS{c:CF}{H1:Q0}{n n':Nat}{out:OO}{UC:Q0}{W keys:List Nat}(h:FJ P B c H1 n out (UC++H1) n' keys W):cG P B (JC c H1 n ⟨out,UC++H1,n',keys,W⟩):=by
 intro c' H' m' s _ hs;unfold JC at hs;split at hs
 ·rename_i q;obtain⟨rfl,rfl,rfl⟩:=q;simp only[YO]at hs;subst hs;exact h
 ·cases hs
theorem S7(hJ:∀w,B.has w->J w){g:FuncId}{args:Array Value}{fz:List Fz}{H1:Q0}{ts:List Value}{R2:List Nat}{L:List Prop}{out:Value}(Wn:VY (Vg H1 fz 3) args.toList=some (ts,R2,L))(hL:Q3 L)(hp:Qz P J g ts.toArray out)
 {S:Nat->Prop} {μ:Mu} {w:World} {args':Array Value} (QR:Ok B.B S μ (Q4 H1) w) (hB:B.has w) (hv:VRs μ args args') (hS:∀r∈R2,S r):Calls P g args' w fun e w'=> ∃v',e=.returned v'/\Below w.heap.size w w'/\TRv (St (UD μ H1 w R2) w w') out v':=by
 obtain⟨a,b⟩:=J8 (fun v v' t R L h1 h2 h3 h4=>Kw QR 3 v v' t R L h1 h2 h3 h4) args.toList ts R2 L args'.toList Wn hL hS (by simpa using hv.1) fun i v v' x y=>hv.2 i v v' (by simpa using x) (by simpa using y)
 exact hp (UD μ H1 w R2) w args' (hJ w hB) (fun b x h=>WI h) ⟨by simpa using a,fun i v v' x y=>b i v v' (by simpa using x) (by simpa using y)⟩
theorem sK(hJ:∀w,B.has w->J w){g:FuncId}{args:Array Value}{fz:List Fz}{H1:Q0}{ts:List Value}{R2:List Nat}{L:List Prop}{out:Value}(Wn:VY (Vg H1 fz 3) args.toList=some (ts,R2,L))(hL:Q3 L)(hp:Qz P J g ts.toArray out)(XE:P1 2 out=true)(Xu:(R2.all fun i=>Lp i n)=true):
 k9 P B g args H1 n (.ret out) H1 n R2 []:=by
 refine⟨Shape.same _ _ _,fun S μ w args' cs QR hB hS _ ha hR=> ?_⟩;obtain⟨e,w1,fr,⟨v',rfl,hb,ht⟩,hc,hf,hl⟩:=S7 hJ Wn hL hp QR hB ha (fun r hr=>hR r hr (YL (List.all_eq_true.1 Xu r hr))) cs;refine⟨.ret v',w1,μ,Post.ofBelow QR hb,.ret (cj 2 out v' XE ht),fun _=>⟨fr,hc,by rw[hf];rfl,hl⟩,fun c cs' e=> ?_⟩;subst e;exact Steps.trans hc (.one (step_leave_returned hl))
theorem pD(hJ:∀w,B.has w->J w){g:FuncId}{args:Array Value}{fz:List Fz}{H1:Q0}{ts:List Value}{R2:List Nat}{L:List Prop}{out:Value}(Wn:VY (Vg H1 fz 3) args.toList=some (ts,R2,L))(hL:Q3 L)(hp:Qz P J g ts.toArray out)(Xu:(R2.all fun i=>Lp i n)=true)
 (WG:(R2.all fun i=>X1 (Q4 H1 i))=true) (ho:ni 4 out=true):k9 P B g args H1 n (.ret (QG n 4 out)) ((n,XM)::H1) (n+1) R2 []:=by
 refine⟨Shape.new _ _ _ _,fun S μ w args' cs QR hB hS hf ha hR=> ?_⟩;have hSR:∀r∈R2,S r:=fun r hr=>hR r hr (YL (List.all_eq_true.1 Xu r hr))
 obtain⟨e,w1,fr,⟨v',rfl,hb,ht⟩,hc,hfn,hl⟩:=S7 hJ Wn hL hp QR hB ha hSR cs;have hfm:∀b x,St (UD μ H1 w R2) w w1 b=some x->w1.heap[b]? =some x:=by
  intro b x h;unfold St at h;split at h
  ·rename_i Xu;rw[hb.block b Xu];exact WI h
  ·exact h
 have Zj:=Post.region (n:=n) QR hS (hf n (Ly _) (by omega)) hb (St (UD μ H1 w R2) w w1) hfm fun b x h=>by
  unfold St at h;split at h
  ·refine .inr ?_;have hw:=WI h;unfold UD at h;split at h
   ·rename_i hc;obtain⟨i,hi,o,im,ho,QV,Us⟩:=hc;obtain⟨o',VT,hr'⟩:=Z8 (List.all_eq_true.1 WG i hi);rw[ho]at VT;cases VT;rcases Us with ⟨_,Km⟩|⟨hl,_⟩
    ·cases hx:im.fm b with
     |none=>exact absurd hx Km
     |some y=>
      obtain⟨Z5,Xa,hf'⟩:=QR.K8 i o (hSR i hi) ho hr';rw[QV]at Xa;cases Xa;have:=hf' b y hx;rw[hw]at this;cases this;exact⟨i,im,o,hSR i hi,ho,hr',QV,hx⟩
    ·exact absurd hl (by cases o <;> first|exact id|exact hr'.elim)
   ·cases h
  ·rename_i hge;exact .inl (Nat.le_of_not_lt hge)
 refine⟨.ret v',w1,_,Zj,.ret (YN X0 4 out v' ho ht),fun _=>⟨fr,hc,by rw[hfn];rfl,hl⟩,fun c cs' e=> ?_⟩;subst e;exact Steps.trans hc (.one (step_leave_returned hl))
theorem UM(H:Q0)(K:List Nat)(i:Nat):Q4 (killL H K) i=if i∈K/\(Q4 H i).isSome then some (.pending #[] 0)else Q4 H i:=by
 induction K with
 |nil=>simp[killL]
 |cons k K ih=>
  simp only[killL];rw[Vx,ih];by_cases e:i=k
  ·subst e;cases hs:Q4 H i with
   |none=>simp
   |some o=>by_cases hm:i∈K <;> simp[hm]
  ·simp[e]
theorem Post.regionK{B n:Nat}{S:Nat->Prop}{μ:Mu}{H:Q0}{w w':World}(K:List Nat)(QR:Ok B S μ (Q4 H) w)(hS:∀i,S i->i<n)(hf:μ n=none)(hbel:Below w.heap.size w w')(hK:∀k∈K,S k/\(∃o,Q4 H k=some o/\live o)/\∃im,μ k=some im/\im.rw=true)
 (fm:Nat->Option Obj) (hfm:∀b x,fm b=some x->w'.heap[b]? =some x)
 (X9:∀b x,fm b=some x->w.heap.size<=b\/(∃k V9 ko,S k/\Q4 H k=some ko/\ZQ ko/\μ k=some V9/\V9.fm b=some x)\/∃k∈K,∃im,μ k=some im/\im.Zi=b):Post B S n (n+1) K μ (upd μ n ⟨0,0,0,false,fm⟩) H ((n,XM)::killL H K) w w':=by
 have hp:=Post.ofBelow (n:=n) QR hbel;have Km:∀i,S i->i≠n:=fun i hi=>by have:=hS i hi;omega
 have J4:∀i,S i->upd μ n ⟨0,0,0,false,fm⟩ i=μ i:=fun i hi=>by simp[upd,Km i hi]
 have X7:∀i,S i->Q4 ((n,XM)::killL H K) i=Q4 (killL H K) i:=fun i hi=>by rw[Xe,if_neg (Km i hi)]
 have hgl:∀i o,S i->Q4 ((n,XM)::killL H K) i=some o->live o\/ZQ o->Q4 H i=some o/\(live o->i ∉ K):=fun i o hi ho hl=>by
  rw[X7 i hi,UM]at ho;split at ho
  ·cases ho;exact(hl.elim id id).elim
  ·rename_i hn;exact⟨ho,fun _ hm=>hn ⟨hm,by rw[ho];rfl⟩⟩
 have Yl:Q4 ((n,XM)::killL H K) n=some XM:=by rw[Xe,if_pos rfl]
 have isn:∀i,(n<=i/\i<n+1)->i=n:=fun i hi=>by omega
 refine⟨⟨fun i o hi ho hl=> ?_,fun i o im hi ho hl QV=> ?_,fun i j oi oj a b hi hj JZ ZT ZS hli Vm ha hb Yj V6=> ?_,fun i o hi ho hr=> ?_,fun i j oi oj a b x hi hj ZT ZS Kp Vm ha hb V6 hx=> ?_⟩,by omega,fun i hi=> ?_,fun i hi hw=> ?_,hbel.size,fun b hb _=>hbel.block b hb,fun i hi _=>hK i hi,
  fun i im o h1 h2 ho hl QV=> ?_,fun i im o hi ho hr QV b x hx=> ?_,hbel.os,hbel.tape,hbel.output⟩
 ·rcases hi with hi|hi
  ·have ho:=(hgl i o hi ho (.inl hl)).1;obtain⟨im,QV,hr⟩:=hp.ok.rel i o (.inl hi) ho hl;exact⟨im,by rw[J4 i hi];exact QV,hr.keep (U2 hf) rfl⟩
  ·rw[isn i hi,Yl]at ho;cases ho;exact hl.elim
 ·rcases hi with hi|hi
  ·have ho:=(hgl i o hi ho (.inl hl)).1;rw[J4 i hi]at QV;exact hp.ok.low i o im (.inl hi) ho hl QV
  ·rw[isn i hi,Yl]at ho;cases ho;exact hl.elim
 ·rcases hi with hi|hi
  ·rcases hj with hj|hj
   ·have ZT:=(hgl i oi hi ZT (.inl hli)).1;have ZS:=(hgl j oj hj ZS (.inl Vm)).1;rw[J4 i hi]at ha;rw[J4 j hj]at hb;exact QR.inj i j oi oj a b hi hj JZ ZT ZS hli Vm ha hb Yj V6
   ·rw[isn j hj,Yl]at ZS;cases ZS;exact Vm.elim
  ·rw[isn i hi,Yl]at ZT;cases ZT;exact hli.elim
 ·rcases hi with hi|hi
  ·have ho:=(hgl i o hi ho (.inr hr)).1;obtain⟨im,QV,h⟩:=hp.ok.K8 i o (.inl hi) ho hr;exact⟨im,by rw[J4 i hi];exact QV,h⟩
  ·rw[isn i hi];exact⟨_,X0,hfm⟩
 ·have hjS:S j:=hj.elim id fun h=>by rw[isn j h,Yl]at ZS;cases ZS;exact Vm.elim
  obtain⟨ZS,hjK⟩:=hgl j oj hjS ZS (.inl Vm);rw[J4 j hjS]at hb;rcases hi with hi|hi
  ·have ZT:=(hgl i oi hi ZT (.inr Kp)).1;rw[J4 i hi]at ha;exact QR.sep i j oi oj a b x hi hjS ZT ZS Kp Vm ha hb V6 hx
  ·rw[isn i hi,X0]at ha;cases ha;rcases X9 _ _ hx with h|⟨k,V9,ko,h1,h2,h3,h4,h5⟩|⟨k,hk,V9,h1,h2⟩
   ·have:=(QR.low j oj b hjS ZS Vm hb).1;omega
   ·exact QR.sep k j ko oj V9 b x h1 hjS h2 ZS h3 Vm h4 hb V6 h5
   ·obtain⟨k1,⟨ko,k2,k3⟩,kim',k4,k5⟩:=hK k hk;rw[h1]at k4;cases k4;have hkj:k≠j:=fun e=>hjK Vm (e ▸ hk)
    exact QR.inj k j ko oj V9 b k1 hjS hkj k2 ZS k3 Vm h1 hb k5 V6 h2
 ·simp only[upd];rw[if_neg (by omega)]
 ·rw[Xe,if_neg (by omega),UM,if_neg (fun h=>hw h.1)]
 ·rw[isn i ⟨h1,h2⟩,Yl]at ho;cases ho;exact hl.elim
 ·rcases hi with hi|hi
  ·have Jm:=isn i hi;subst Jm;rw[X0]at QV;cases QV;rcases X9 b x hx with h|⟨k,V9,ko,h1,h2⟩|⟨k,hk,V9,h1,h2⟩
   ·exact .inl h
   ·exact .inr (.inl ⟨k,V9,ko,h1,hS k h1,h2⟩)
   ·refine .inr (.inr ⟨k,hk,hS k (hK k hk).1,⟨V9,h1,h2⟩,fun o' VT=> ?_⟩);have hks:=(hK k hk).1;obtain⟨ko,k2,_⟩:=(hK k hk).2.1;rw[X7 k hks,UM,if_pos ⟨hk,by rw[k2];rfl⟩]at VT;cases VT;exact id
  ·obtain⟨hiK,Jm⟩:=hi;have hks:=(hK i hiK).1;obtain⟨ko,k2,_⟩:=(hK i hiK).2.1;rw[X7 i hks,UM,if_pos ⟨hiK,by rw[k2];rfl⟩]at ho;cases ho;exact hr.elim
theorem Shape.killL{H:Q0}{n:Nat}{K R:List Nat}(o:Obj)(hK:∀k∈K,k<n)(hs:∀k∈K,k∈R):Shape H n ((n,o)::killL H K) (n+1) R K:=by
 refine⟨by omega,fun i hi hw=> ?_,fun i hi=> ?_,hs,fun i hi=>by have:=hK i hi;omega⟩
 ·rw[Xe,if_neg (by omega),UM,if_neg (fun h=>hw h.1)]
 ·rw[Xe,if_neg (by omega),UM,if_neg (fun h=>by have:=hK i h.1;omega)]
theorem tO{o:Option Obj}(h:PC o=true):∃cs t,o=some (.cells cs t (0,0)):=by
 unfold PC at h;split at h
 ·exact⟨_,_,rfl⟩
 ·cases h
theorem mO(hJ:∀w,B.has w->J w){g:FuncId}{args:Array Value}{fz:List Fz}{H1:Q0}{ts:List Value}{R2:List Nat}{L:List Prop}{out:Value}(Wn:VY (Vg H1 fz 3) args.toList=some (ts,R2,L))(hL:Q3 L)(hp:Qz P J g ts.toArray out)(Xu:(R2.all fun i=>Lp i n)=true)
 (WG:(R2.all fun i=>X1 (Q4 H1 i) || PC (Q4 H1 i))=true) (ho:ni 4 out=true):k9 P B g args H1 n (.ret (QG n 4 out)) ((n,XM)::killL H1 (R2.filter fun i=>PC (Q4 H1 i))) (n+1) R2 (R2.filter fun i=>PC (Q4 H1 i)):=by
 have hltn:∀r∈R2,r<n:=fun r hr=>YL (List.all_eq_true.1 Xu r hr)
 refine⟨Shape.killL _ (fun k hk=>hltn k ((List.mem_filter.1 hk).1)) (fun k hk=>(List.mem_filter.1 hk).1),fun S μ w args' cs QR hB hS hf ha hR=> ?_⟩;have hSR:∀r∈R2,S r:=fun r hr=>hR r hr (hltn r hr)
 obtain⟨e,w1,fr,⟨v',rfl,hb,ht⟩,hc,hfn,hl⟩:=S7 hJ Wn hL hp QR hB ha hSR cs;have hfm:∀b x,St (UD μ H1 w R2) w w1 b=some x->w1.heap[b]? =some x:=by
  intro b x h;unfold St at h;split at h
  ·rename_i Xu;rw[hb.block b Xu];exact WI h
  ·exact h
 have hK:∀k∈R2.filter fun i=>PC (Q4 H1 i),S k/\(∃o,Q4 H1 k=some o/\live o)/\∃im,μ k=some im/\im.rw=true:=fun k hk=>by
  obtain⟨h1,h2⟩:=List.mem_filter.1 hk;obtain⟨cs0,t0,h3⟩:=tO h2;obtain⟨im,QV,ZJ⟩:=QR.rel k _ (hSR k h1) h3 trivial;refine⟨hSR k h1,⟨_,h3,trivial⟩,im,QV, ?_⟩;rcases ZJ with ⟨_,h,_⟩|⟨h,_⟩
  ·exact h
  ·exact absurd rfl h
 have Zj:=Post.regionK (n:=n) (R2.filter fun i=>PC (Q4 H1 i)) QR hS (hf n (Ly _) (by omega)) hb hK (St (UD μ H1 w R2) w w1) hfm fun b x h=>by
  unfold St at h;split at h
  ·refine .inr ?_;have hw:=WI h;unfold UD at h;split at h
   ·rename_i hc;obtain⟨i,hi,o,im,ho,QV,Us⟩:=hc;have ZJ:=List.all_eq_true.1 WG i hi;rw[Bool.or_eq_true]at ZJ;rcases Us with ⟨hr',Km⟩|⟨hl,hblk⟩
    ·left;cases hx:im.fm b with
     |none=>exact absurd hx Km
     |some y=>
      obtain⟨Z5,Xa,hf'⟩:=QR.K8 i o (hSR i hi) ho hr';rw[QV]at Xa;cases Xa;have:=hf' b y hx;rw[hw]at this;cases this;exact⟨i,im,o,hSR i hi,ho,hr',QV,hx⟩
    ·right;rcases ZJ with ZJ|ZJ
     ·obtain⟨o',VT,hr'⟩:=Z8 ZJ;rw[ho]at VT;cases VT;exact absurd hl (by cases o <;> first|exact id|exact hr'.elim)
     ·exact⟨i,List.mem_filter.2 ⟨hi,ZJ⟩,im,QV,hblk⟩
   ·cases h
  ·rename_i hge;exact .inl (Nat.le_of_not_lt hge)
 refine⟨.ret v',w1,_,Zj,.ret (YN X0 4 out v' ho ht),fun _=>⟨fr,hc,by rw[hfn];rfl,hl⟩,fun c cs' e=> ?_⟩;subst e;exact Steps.trans hc (.one (step_leave_returned hl))
theorem UQ{r:Nat}{v:Value}(Xu:r<n)(WG:X1 (Q4 H r)=true)(hd:∀c,o.op≠.defer c)
 (h:∀(μ:Mu) (w:World) (ρ:Operand->Value) (im:Tc),μ r=some im->(∀b x,im.fm b=some x->w.heap[b]? =some x)->(∀x∈o.op.operands,∀v,Zd T x=some v->VR μ v (ρ x))->∃v',(execOp ρ o).run P w=.ok (.value v') w/\VR μ v v'):
 J2 P B o (Zd T) H n (.ret v) H n [r] []:=fun S μ w fr _ _ _ _ _ QR hB _ _ XT hR hm ht ho hw=>by
 obtain⟨x,hx,hr⟩:=Z8 WG;obtain⟨im,QV,hf⟩:=QR.K8 r x (hR r (by simp) Xu) hx hr;obtain⟨v',h1,h2⟩:=h μ w fr.eval im QV hf XT;exact⟨.ret v',w,μ,Post.refl QR,.ret h2,KZ hm ht ho hw hd h1⟩
theorem uM{fm:Nat->Option Obj}{w:World}(hw:∀b x,fm b=some x->w.heap[b]? =some x){off:Nat}{cs:Array Value}{u v:Value}{t:TypeId}(hu:TRv fm (Y5 off cs) u)(h:UA P t cs off=some v):∃v',(Instr.loadAt t u).run P w=.ok v' w/\TRv fm v v':=by
 obtain⟨b,o,arr,ty,fl,rfl,h1,h2,h3⟩:=hu.ptr_inv;have hb:=hw _ _ h1;have hcell:∀i,i<cs.size->∃v',w.cell? ⟨b,o+i,none⟩=some v'/\∀v,cs[i]? =some v->TRv fm v v':=by
  intro i hi;have Xu:=h2 i hi;exact⟨arr[o+i],by simp[World.cell?,hb,Xu],fun v hv=>h3 i v _ hv (by simp[Xu])⟩
 unfold UA at h;cases hag:kx P t with
 |none=>rw[hag]at h;cases h
 |some g=>
  rw[hag]at h;cases g with
  |true=>
   cases hz:Wl P t with
   |none=>rw[hz]at h;cases h
   |some z=>
    rw[hz]at h;dsimp only at h;cases hb2:LI (off+z) cs.size with
    |false=>rw[hb2]at h;cases h
    |true=>
     rw[hb2]at h;simp only[cond_true,YO]at h;subst h;have hle:=YL hb2;have hr:=run_loadCells (P:=P) w ⟨b,o+off,none⟩ z (fun j=>(w.cell? ⟨b,o+(off+j),none⟩).getD undef) (fun j hj=>by
      obtain⟨v',ZK,_⟩:=hcell (off+j) (by omega);rw[Wj,show o+off+j=o+(off+j)by omega,ZK];rfl)
     refine⟨.agg _,by simp[Instr.loadAt,Instr.sureAddr,loadVar,VQ hag,Zg hz,hr];rfl,.agg (by simp;omega) fun i v v' hv ZK=> ?_⟩;have hi:i<z:=by
      have:=(Array.getElem?_eq_some_iff.1 hv).1;simp at this;omega
     obtain⟨u,h4,h5⟩:=hcell (off+i) (by omega);simp[hi,h4]at ZK;subst ZK;refine h5 v ?_;rw[LO]at hv;split at hv
     ·exact hv
     ·cases hv
  |false=>
   simp only at h;have hi:=(Array.getElem?_eq_some_iff.1 h).1;obtain⟨v',ZK,ht⟩:=hcell off hi;exact⟨v',by simp[Instr.loadAt,Instr.sureAddr,loadVar,VQ hag,run_load,ZK],ht v h⟩
theorem m9{v:Value}{r:Nat}(e:sB P T o=some (v,r))(Xu:r<n)(WG:X1 (Q4 H r)=true):J2 P B o (Zd T) H n (.ret v) H n [r] []:=by
 unfold sB at e;split at e
 ·rename_i c Zh;split at e
  ·rename_i hc;split at e
   ·rename_i x t ha ht;split at e
    ·rename_i u hx;split at e
     ·rename_i r0 k cs el htop hue;rw[Zt]at hue;simp only[YO,YR]at e;obtain⟨rfl,rfl⟩:=e;refine UQ Xu WG (fun c h=>by rw[Zh]at h;cases h) fun μ w ρ im QV hf XT=> ?_
      have ea:c.args=#[x]:=by rw[<-ha]
      have et:c.argTypes=#[t]:=by rw[<-ht]
      have hv:=XT x (by simp[Zh,Op.operands,Call.operands,hc,ea]) _ hx;rw[Pr htop]at hv;obtain⟨Z5,_,htr⟩:=hv.top_inv;have hlen:∃a c,ρ x=.slice a k c:=by
       rcases htr.slice_inv with ⟨b,o',c',arr,t',fl,h1,_⟩|⟨rfl,_,a',c',h1,_⟩
       ·exact⟨_,_,h1⟩
       ·exact⟨_,_,h1⟩
      obtain⟨a,cp,hv⟩:=hlen;refine⟨.int .i64 k, ?_,.int _ _⟩;simp[execOp,Zh,resolve,hc,invoke,builtin,ea,et,hv,Builtin.len_,run_underlying hue,goInt]
     ·cases e
    ·cases e
   ·cases e
  ·cases e
 ·rename_i s x f Zh;split at e
  ·rename_i u hx;split at e
   ·rename_i r0 off cs htop;split at e
    ·rename_i off' hc;simp only[YO,YR]at e;obtain⟨rfl,rfl⟩:=e;refine UQ Xu WG (fun c h=>by rw[Zh]at h;cases h) fun μ w ρ im QV hf XT=> ?_
     have hv:=XT x (by simp[Zh,Op.operands]) _ hx;rw[fI htop]at hv;obtain⟨Z5,Xa,htr⟩:=hv.top_inv;rw[QV]at Xa;cases Xa;obtain⟨b,o',arr,ty,fl,h1,h2,h3,h4⟩:=htr.ptr_inv;have hc2:∃d,off'=off+d/\ZU P s f (.pointer (some ⟨b,o'+off,none⟩))=some (.pointer (some ⟨b,o'+off+d,none⟩)):=by
      unfold ZU at hc ⊢;simp only at hc ⊢;split at hc
      ·split at hc
       ·split at hc
        ·simp only[YO,Value.pointer.injEq,Addr.mk.injEq,true_and,and_true]at hc;rename_i fd hfd _ _ hz;refine⟨fd.offset,hc.symm, ?_⟩;simp_all
        ·cases hc
       ·cases hc
      ·cases hc
     obtain⟨d,rfl,hc2⟩:=hc2;obtain⟨_,hr⟩:=PR (P:=P) hc2 w;refine⟨.pointer (some ⟨b,o'+off+d,none⟩),by simp[execOp,Zh,h1,hr],.top rfl QV ?_⟩;rw[Nat.add_assoc];exact .ptr h2 h3 h4
    ·cases e
   ·cases e
  ·cases e
 ·rename_i t x Zh;split at e
  ·rename_i u hx;split at e
   ·rename_i r0 off cs htop;split at e
    ·rename_i v0 hc;cases QR:ni 4 v0 with
     |false=>rw[QR]at e;cases e
     |true=>
      rw[QR]at e;simp only[cond_true,YO,YR]at e;obtain⟨rfl,rfl⟩:=e;refine UQ Xu WG (fun c h=>by rw[Zh]at h;cases h) fun μ w ρ im QV hf XT=> ?_
      have hv:=XT x (by simp[Zh,Op.operands]) _ hx;rw[fI htop]at hv;obtain⟨Z5,Xa,htr⟩:=hv.top_inv;rw[QV]at Xa;cases Xa;obtain⟨v',h1,h2⟩:=uM hf htr hc;exact⟨v',by simp[execOp,Zh,h1],YN QV 4 v0 v' QR h2⟩
    ·cases e
   ·cases e
  ·cases e
 ·cases e
theorem oG{P:Program}{t e:TypeId}{b off m c z k:Nat}{q:Int}{kk:IntKind}(hu:YF P t=some (.slice e))(hz:Wl P e=some z)(hq:q=(k:Int))(hk:k<m)(hc:m<=c)(w:World):
 (Instr.sliceAt t (.slice (some ⟨b,off,none⟩) m c) (some (.int kk q)) none none).run P w=.ok (.slice (some ⟨b,off+k*z,none⟩) (m-k) (c-k)) w:=by
 rw[Zt]at hu;subst hq;have hb:z6 m (some (.int kk (k:Int))) none=some (k,m):=by
  simp only[z6,z8,decide_eq_true (show(0:Int)<=(k:Int)by omega),decide_eq_true (show(k:Int)<=(m:Int)by omega),Bool.and_self,cond_true,Int.toNat_natCast]
 obtain⟨hr,_,_⟩:=kr (P:=P) (μ:=fun _=>none) (sl:=true) (lo':=some (.int kk (k:Int))) (hi':=none) hb (show VR _ _ _ from .int _ _) trivial hc w;simp only[Instr.sliceAt,Instr.slice,Sem.run_bind,run_underlying hu,Result.andThen_ok,hr,Zg hz,Sem.run_pure,LC,Wj];rw[if_neg (by omega)]
theorem cL{sv:Value}{r k z by':Nat}{cs:Array Value}{e:TypeId}{zv:Value}(h:RG P T o=some (sv,r,k,cs,e,z,by',zv)):
 ∃c s x t i,o.op=.call c/\c.callee=.builtin .append/\c.args=#[s,x]/\c.argTypes=#[t,t]/\Zd T s=some sv/\Zd T x=some (QF r (Xq k cs))/\Jk sv=true/\P.underlying t=some (.slice e)/\P.info? e=some i/\i.zero=some zv/\i.size=z/\i.bytes=by'/\zv.cells.size=z/\0<z:=by
 unfold RG at h;split at h
 ·rename_i c Zh;split at h
  ·rename_i hc;split at h
   ·rename_i s x t t' ha ht;split at h
    ·rename_i sv' xv hs hx;split at h
     ·rename_i r' k' cs' e' htop hu;split at h
      ·rename_i i hi;split at h
       ·rename_i zv' z' hz Xy;cases hq:(Lg t t' && Jk sv' && Lg zv'.cells.size (z'+1))with
        |false=>rw[hq]at h;cases h
        |true=>
         rw[hq]at h;simp only[cond_true,YO,YR]at h;obtain⟨rfl,rfl,rfl,rfl,rfl,rfl,rfl,rfl⟩:=h;simp only[YB]at hq;obtain⟨⟨q1,q2⟩,q3⟩:=hq;obtain rfl:=YE q1;rw[Zt]at hu;rw[Ko]at hi;exact⟨c,s,x,t,i,Zh,hc,by rw[<-ha],by rw[<-ht],hs,by rw[hx,Pr htop],q2,hu,hi,hz,Xy,rfl,YE q3,by omega⟩
       ·cases h
      ·cases h
     ·cases h
    ·cases h
   ·cases h
  ·cases h
 ·cases h
theorem dI{μ:Mu}{s s':Value}(h:Jk s=true)(hs:VR μ s s'):∃a,s'=.slice a 0 0:=by
 unfold Jk at h;split at h
 ·cases hs;exact⟨_,rfl⟩
 ·cases hs;exact⟨_,rfl⟩
 ·cases h
theorem mB{sv:Value}{r k z by':Nat}{cs cs':Array Value}{e:TypeId}{zv:Value}(h:RG P T o=some (sv,r,k,cs,e,z,by',zv))(Xu:r<n)(WG:X1 (Q4 H r)=true)
 (hp:0<k/\k<=maxLen/\k*by'<=140737488355328/\cs.size=k*z/\cs.map (Zl r)=cs'/\(cs.all fun v=>simple v || ZX v)=true/\ones cs'=true):
 J2 P B o (Zd T) H n (.ret (.slice (some ⟨n,0,none⟩) k z)) ((n,.cells cs' e (0,0))::H) (n+1) [r] []:=by
 intro S μ w fr _ _ _ _ _ QR hB hS hf XT hR hm ht ho hw;obtain⟨c,s,x,t,i,Zh,hc,ea,et,hs,hx,hbn,hu,hi,hz,Xy,hby,hzs,hzp⟩:=cL h;obtain⟨p1,p2,p3,p4,p5,p6,p7⟩:=hp;obtain⟨xr,hxr,hr⟩:=Z8 WG;obtain⟨im,QV,hfm⟩:=QR.K8 r xr (hR r (by simp) Xu) hxr hr;have hvs:=XT s (by simp[Zh,Op.operands,Call.operands,hc,ea]) _ hs;have hvx:=XT x (by simp[Zh,Op.operands,Call.operands,hc,ea]) _ hx;obtain⟨a,hsa⟩:=dI hbn hvs;obtain⟨Z5,Xa,htr⟩:=hvx.top_inv;rw[QV]at Xa;cases Xa;rcases htr.slice_inv with ⟨b,o',c',arr,ty,fl,h1,h2,h3,h4,h5,h6⟩|⟨h0,_⟩
 ·have hb:=hfm _ _ h4;obtain⟨news,hnews⟩:∃news,news=(arr.toList.drop o').take (k*z):=⟨_,rfl⟩
  have hnl:news.length=k*z:=by
   rw[hnews,List.length_take,List.length_drop,Array.length_toList];have:∀j,j<k*z->o'+j<arr.size:=fun j hj=>h5 j (by omega)
   have:=this (k*z-1) (by have:=Nat.mul_pos p1 hzp;omega);have:=Nat.mul_pos p1 hzp;omega
  have Q4:∀(j:Nat) u,news[j]? =some u->arr[o'+j]? =some u:=by
   intro j u hj;rw[hnews,List.getElem?_take]at hj;split at hj
   ·rw[List.getElem?_drop]at hj;simpa using hj
   ·cases hj
  have hcell:∀(j:Nat) u,news[j]? =some u->w.cell? ((⟨b,o',none⟩:Addr).add j)=some u:=by
   intro j u hj;rw[Wj];have:=Q4 j u hj;simp[World.cell?,hb];exact this
  have hV:VRs μ cs' news.toArray:=by
   refine⟨by rw[<-p5];simp[hnl,p4],fun j v v' hv ZK=> ?_⟩;rw[<-p5,Array.getElem?_map]at hv;cases hy:cs[j]? with
   |none=>rw[hy]at hv;cases hv
   |some y=>
    rw[hy]at hv;simp only[LC,YO]at hv;subst hv;exact Px QV (Array.all_eq_true'.1 p6 y (LD hy)) (h6 j y v' hy (Q4 j v' (by simpa using ZK)))
  have Vh:∃C,k<=C/\C<=maxLen/\(Builtin.append_ #[t,t] o.type #[fr.eval s,fr.eval x]).run P w=.ok (.slice (some ⟨w.heap.size,0,none⟩) k C) (w.drew.alloc (.cells (news.toArray++Builtin.zeroCells zv.cells (C-k)) e)):=by
   have hk63:(k:Int)<=9223372036854775807:=by simp only[maxLen]at p2;omega
   have hr0:=run_append_nil (P:=P) w t o.type e i zv hu hi hz ⟨b,o',none⟩ k c' news (by rw[hnl,Xy]) hcell p1 hk63 (by rw[hby];omega);refine⟨grownCap w k 0 e,grownCap_ge w k 0 e,grownCap_le_maxLen w k 0 e p2, ?_⟩;rw[hsa,h1];cases a with
   |none=>exact hr0
   |some a=>rw[dK hu hi hz w a ⟨b,o',none⟩ k c' news (by rw[hnl,Xy]) hcell p1 p2 (by rw[hby];exact p3)];exact hr0
  obtain⟨C,hC1,hC2,Vh⟩:=Vh;have hfn:=hf n (Ly _) (by omega);have harr:(news.toArray++Builtin.zeroCells zv.cells (C-k)).size=C*z:=by
   rw[Array.size_append,size_zeroCells,hzs,List.size_toArray,hnl,<-Nat.add_mul];congr 1;omega
  refine⟨.ret (.slice (some ⟨w.heap.size,0,none⟩) k C),_,_,cg QR hS hfn none (fun _ h=>by cases h) w.heap.size (news.toArray++Builtin.zeroCells zv.cells (C-k)).size _ hB.le (by simp) (.inl (Ly _)) (by simp) (fun b hb _=>Below.heap_alloc w.drew _ b hb) (.ofCells (heap_alloc_new w.drew _) ?_ rfl fun j v hv=> ?_) ⟨rfl,rfl,rfl⟩,.ret ?_,KZ hm ht ho hw (fun c h=>by rw[Zh]at h;cases h) (w':=w.drew.alloc _) ?_⟩
  ·rw[Array.size_append];have:=hV.1;simp only[List.size_toArray]at this ⊢;omega
  ·obtain⟨u,e1,e2⟩:=hV.get hv;have hj:j<news.toArray.size:=(Array.getElem?_eq_some_iff.1 e1).1;exact⟨u,by rw[Array.getElem?_append_left hj];exact e1,e2.mono (U2 hfn)⟩
  ·refine .slice ⟨_,X0,rfl,rfl⟩ hC1 hC2 (fun _ im QV _ _=> ?_);rw[X0]at QV;cases QV;exact harr.symm
  ·simp[execOp,Zh,resolve,hc,invoke,builtin,ea,et,Vh]
 ·omega
theorem kC{sv:Value}{r k z by':Nat}{cs:Array Value}{e:TypeId}{zv:Value}(h:RG P T o=some (sv,r,k,cs,e,z,by',zv))(Xu:r<n)(WG:X1 (Q4 H r)=true)(hk:k=0):
 J2 P B o (Zd T) H n (.ret sv) H n [r] []:=by
 obtain⟨c,s,x,t,i,Zh,hc,ea,et,hs,hx,hbn,hu,hi,hz,Xy,hby,hzs,hzp⟩:=cL h;refine UQ Xu WG (fun c h=>by rw[Zh]at h;cases h) fun μ w ρ im QV hf XT=> ?_
 have hvs:=XT s (by simp[Zh,Op.operands,Call.operands,hc,ea]) _ hs;have hvx:=XT x (by simp[Zh,Op.operands,Call.operands,hc,ea]) _ hx;obtain⟨a,hsa⟩:=dI hbn hvs;obtain⟨Z5,Xa,htr⟩:=hvx.top_inv;rw[QV]at Xa;cases Xa;subst hk;have hxx:∃b d,ρ x=.slice b 0 d:=by
  rcases htr.slice_inv with ⟨b,o',c',arr,ty,fl,h1,_⟩|⟨_,_,a',c',h1,_⟩
  ·exact⟨_,_,h1⟩
  ·exact⟨_,_,h1⟩
 obtain⟨b,d,hxx⟩:=hxx;refine⟨.slice a 0 0, ?_,by rw[<-hsa];exact hvs⟩;have hszp:Wl P e=some z:=by simp[Wl,Ko,hi,Xy]
 have hr:=dL (ty:=o.type) hu hszp w a b 0 0 d (Ly _);simp[execOp,Zh,resolve,hc,invoke,builtin,ea,et,hsa,hxx,hr]
theorem o8{b off k r m z:Nat}{cs2:Array Value}(h:eD P T o=some (b,off,k,r,m,cs2,z)):
 ∃c s x t t2 e s1,o.op=.call c/\c.callee=.builtin .copy/\c.args=#[s,x]/\c.argTypes=#[t,t2]/\Zd T s=some (.slice (some ⟨b,off,none⟩) k s1)/\Zd T x=some (QF r (Xq m cs2))/\P.underlying t=some (.slice e)/\Wl P e=some z:=by
 unfold eD at h;split at h
 ·rename_i c Zh;split at h
  ·rename_i hc;split at h
   ·rename_i s x t t2 ha ht;split at h
    ·rename_i b' off' k' s1 xv hs hx;split at h
     ·rename_i r' m' cs' e' htop hu;split at h
      ·rename_i z' hz;simp only[YO,YR]at h;obtain⟨rfl,rfl,rfl,rfl,rfl,rfl,rfl⟩:=h;rw[Zt]at hu;exact⟨c,s,x,t,t2,e',s1,Zh,hc,by rw[<-ha],by rw[<-ht],hs,by rw[hx,Pr htop],hu,hz⟩
      ·cases h
     ·cases h
    ·cases h
   ·cases h
  ·cases h
 ·cases h
theorem mA{b off k r m z:Nat}{cs cs2 cs':Array Value}{te:TypeId}(h:eD P T o=some (b,off,k,r,m,cs2,z))(hg:Q4 H b=some (.cells cs te (0,0)))(Xu:r<n)(WG:X1 (Q4 H r)=true)(hbn:b<n)
 (hp:0<m/\off+LJ m k*z<=cs.size/\LJ m k*z<=cs2.size/\(cs2.all fun v=>simple v || ZX v)=true/\ones ((cs2.extract 0 (LJ m k*z)).map (Zl r))=true/\splice cs off ((cs2.extract 0 (LJ m k*z)).map (Zl r))=cs'):
 J2 P B o (Zd T) H n (.ret (.int .i64 (LJ m k))) (WZ H b (.cells cs' te (0,0))) n [b,r] [b]:=by
 intro S μ w fr _ _ _ _ _ QR hB hS hf XT hR hm ht ho hw;obtain⟨c,s,x,t,t2,e,s1,Zh,hc,ea,et,hs,hx,hu,hz⟩:=o8 h;obtain⟨p0,h1,h2,p4,h3,rfl⟩:=hp;obtain⟨xr,hxr,hr⟩:=Z8 WG;obtain⟨imr,himr,hfm⟩:=QR.K8 r xr (hR r (by simp) Xu) hxr hr;have hb:S b:=hR b (by simp) hbn;obtain⟨im,QV,ZJ⟩:=QR.rel b _ hb hg trivial;have hvs:=XT s (by simp[Zh,Op.operands,Call.operands,hc,ea]) _ hs;have hvx:=XT x (by simp[Zh,Op.operands,Call.operands,hc,ea]) _ hx;obtain⟨imr',himr',htr⟩:=hvx.top_inv;rw[himr]at himr';cases himr';generalize hsv:fr.eval s=sv at hvs;cases hvs with
 |slice har q1 q2 q3=>
  obtain⟨Z5,Xa,_,rfl⟩:=har;simp only at Xa;rw[QV]at Xa;cases Xa;rcases htr.slice_inv with ⟨b2,o',c',arr2,ty,fl,g1,g2,g3,g4,g5,g6⟩|⟨h0,_⟩
  ·have hb2:=hfm _ _ g4;have hcell:∀j,j<LJ m k*z->w.cell? ((⟨b2,o',none⟩:Addr).add j)=some (arr2.getD (o'+j) undef):=by
    intro j hj;have hlt2:=g5 j (by omega);rw[Wj];simp[World.cell?,hb2,hlt2]
   have hload:=run_loadCells (P:=P) w ⟨b2,o',none⟩ (LJ m k*z) (fun j=>arr2.getD (o'+j) undef) hcell;generalize hxsd:(((Array.range (LJ m k*z)).map fun j=>arr2.getD (o'+j) undef):Array Value)=xs0;obtain⟨xs,hload,hxs⟩:∃xs,(loadCells ⟨b2,o',none⟩ (LJ m k*z)).run P w=.ok xs w/\VRs μ ((cs2.extract 0 (LJ m k*z)).map (Zl r)) xs:=by
    refine⟨_,hload,⟨by simp;omega,fun i v v' hv ZK=> ?_⟩⟩;rw[Array.getElem?_map]at hv;cases hy:(cs2.extract 0 (LJ m k*z))[i]? with
    |none=>rw[hy]at hv;cases hv
    |some y=>
     rw[hy]at hv;simp only[LC,YO]at hv;subst hv;rw[LO]at hy;split at hy
     ·rename_i hlt3;have hi:i<LJ m k*z:=by omega
      have hy2:cs2[i]? =some y:=by simpa using hy
      simp[hi]at ZK;have hlt2:=g5 i (by omega);refine Px himr (Array.all_eq_true'.1 p4 y (LD hy2)) (g6 i y v' hy2 ?_);rw[<-ZK];simp[hlt2]
     ·cases hy
   have hxsz:xs.size=LJ m k*z:=by rw[<-hxs.1];simp;omega
   have hexsz:((cs2.extract 0 (LJ m k*z)).map (Zl r)).size=LJ m k*z:=by simp;omega
   rcases ZJ with ⟨_,hrw,hoo,arr,ha,hle,hcap,hcs⟩|⟨hz0,_⟩
   ·have Wn:=run_storeCells_at (P:=P) im.Zi off te xs.toList 0 arr w ha (by simp[hxsz];omega) (hxs.ones h3);simp only[Nat.add_zero]at Wn;refine⟨.ret (.int .i64 (LJ m k)),w.setRow im.Zi (CE.splice arr off xs),μ,Post.write QR hS b _ (.cells (CE.splice cs off ((cs2.extract 0 (LJ m k*z)).map (Zl r))) te (0,0)) im hb hg trivial QV hrw (w':=w.setRow im.Zi (CE.splice arr off xs)) ?_ ?_ ?_ ⟨rfl,rfl,rfl⟩,.ret (.int _ _),KZ hm ht ho hw (fun c h=>by rw[Zh]at h;cases h) ?_⟩
    ·simp[World.setRow]
    ·intro y hy;exact setRow_other w im.Zi y _ hy
    ·refine .inl ⟨rfl,hrw,hoo,CE.splice arr off xs,setRow_heap w im.Zi arr _ te _ ha, ?_, ?_, ?_⟩
     ·rw[Wp (by rw[hexsz];omega),Wp (by rw[hxsz];omega)];exact hle
     ·rw[Wp (by rw[hxsz];omega)];exact hcap
     ·exact VRs.splice (by rw[hexsz];omega) hle hcs hxs
    ·simp[execOp,Zh,resolve,hc,invoke,builtin,ea,et,hsv,g1,Builtin.copy_,Builtin.lenOf,Builtin.firstCells,Sem.run_bind,Sem.run_pure,Result.andThen_ok,run_underlying hu,Zg hz,hload,hoo,Wn,CE.splice,goInt]
   ·exact absurd rfl hz0
  ·omega
theorem ma(hF:∀g,F g=true->QB P g=true)(hJ:∀w,B.has w->J w)(hu:Under H n){h:Option Qu}{a:Told}(e:FQ P F J B T o H n h=some a)(hp:∀p,a.p=some p->p):
 J2 P B o (Zd T) H n a.s.out a.s.H a.s.n a.s.R a.s.W/\Shape H n a.s.H a.s.n a.s.R a.s.W:=by
 unfold FQ at e;split at e
 ·split at e
  ·rename_i v r htr;cases hq:(Lp r n && X1 (Q4 H r))with
   |false=>rw[hq]at e;cases e
   |true=>
    rw[hq]at e;simp only[cond_true,YO]at e;subst e;simp only[YB]at hq;exact⟨m9 htr (YL hq.1) hq.2,Shape.same _ _ _⟩
  ·exact mb hF hu e hp
 ·exact mb hF hu e hp
 ·rename_i k es;split at e
  ·rename_i t x i Zh;split at e
   ·rename_i u kk q hx hi;split at e
    ·rename_i r m cs el htop hue;split at e
     ·rename_i z hz;cases hq:(Lp r n && X1 (Q4 H r))with
      |false=>rw[hq]at e;cases e
      |true=>
       rw[hq]at e;simp only[cond_true,YO]at e;subst e;simp only[YB]at hq;obtain⟨Xu,WG⟩:=hq;obtain⟨hqk,hkm,hes⟩:=hp _ rfl;refine⟨UQ (YL Xu) WG (fun c h=>by rw[Zh]at h;cases h) fun μ w ρ im QV hf XT=> ?_,Shape.same _ _ _⟩;have hv:=XT x (by simp[Zh,Op.operands]) _ hx;have hiv:=jI (XT i (by simp[Zh,Op.operands]) _ hi);rw[Pr htop]at hv;obtain⟨Z5,Xa,htr⟩:=hv.top_inv;rw[QV]at Xa;cases Xa;have Us:=htr.slice_inv;rcases Us with ⟨b,o',c',arr,ty,fl,h1,h2,h3,h4,h5,h6⟩|⟨rfl,_⟩
       ·have hess:k*z+es.size<=cs.size\/es.size=0:=by rw[<-hes];simp;omega
        refine⟨.pointer (some ⟨b,o'+k*z,none⟩),by simp[execOp,Zh,h1,hiv,mh hue hz hqk hkm],.top rfl QV ?_⟩;refine TRv.ptr (o:=o'+k*z) (off:=0) h4 (fun i hi=> ?_) fun i v v' hv ZK=> ?_
        ·have:=h5 (k*z+i) (by omega);omega
        ·rw[<-hes,LO]at hv;split at hv
         ·refine h6 (k*z+i) v v' hv ?_;rw[<-ZK,Nat.add_assoc]
         ·cases hv
       ·omega
     ·cases e
    ·cases e
   ·cases e
  ·cases e
 ·rename_i k es;split at e
  ·rename_i t x i Zh;split at e
   ·rename_i u kk q hx hi;split at e
    ·rename_i r off cs m el htop hue;split at e
     ·rename_i z hz;cases hq:(Lp r n && X1 (Q4 H r))with
      |false=>rw[hq]at e;cases e
      |true=>
       rw[hq]at e;simp only[cond_true,YO]at e;subst e;simp only[YB]at hq;obtain⟨Xu,WG⟩:=hq;obtain⟨hqk,hkm,hes⟩:=hp _ rfl;refine⟨UQ (YL Xu) WG (fun c h=>by rw[Zh]at h;cases h) fun μ w ρ im QV hf XT=> ?_,Shape.same _ _ _⟩;have hv:=XT x (by simp[Zh,Op.operands]) _ hx;have hiv:=jI (XT i (by simp[Zh,Op.operands]) _ hi);rw[fI htop]at hv;obtain⟨Z5,Xa,htr⟩:=hv.top_inv;rw[QV]at Xa;cases Xa;obtain⟨b,o',arr,ty,fl,h1,h2,h3,h4⟩:=htr.ptr_inv;refine⟨.pointer (some ⟨b,o'+off+k*z,none⟩),by simp[execOp,Zh,h1,hiv,av hue hz hqk hkm],.top rfl QV ?_⟩;rw[Nat.add_assoc o'];refine TRv.ptr (o:=o'+(off+k*z)) (off:=0) h2 (fun i hi=> ?_) fun i v v' hv ZK=> ?_
       ·have Xy:es.size<=cs.size-(off+k*z):=by rw[<-hes];simp;omega
        have:=h3 (off+k*z+i) (by omega);omega
       ·rw[<-hes,LO]at hv;split at hv
        ·refine h4 (off+k*z+i) v v' hv ?_;rw[<-ZK,Nat.add_assoc o']
        ·cases hv
     ·cases e
    ·cases e
   ·cases e
  ·cases e
 ·rename_i k m' cs';split at e
  ·rename_i t x lo Zh;split at e
   ·rename_i u kk q hx hi;split at e
    ·rename_i r m cs el htop hue;split at e
     ·rename_i z hz;cases hq:(Lp r n && X1 (Q4 H r))with
      |false=>rw[hq]at e;cases e
      |true=>
       rw[hq]at e;simp only[cond_true,YO]at e;subst e;simp only[YB]at hq;obtain⟨Xu,WG⟩:=hq;obtain⟨hqk,hkm,hm',hes⟩:=hp _ rfl;refine⟨UQ (YL Xu) WG (fun c h=>by rw[Zh]at h;cases h) fun μ w ρ im QV hf XT=> ?_,Shape.same _ _ _⟩;have hv:=XT x (by simp[Zh,Op.operands]) _ hx;have hiv:=jI (XT lo (by simp[Zh,Op.operands]) _ hi);rw[Pr htop]at hv;obtain⟨Z5,Xa,htr⟩:=hv.top_inv;rw[QV]at Xa;cases Xa;have Us:=htr.slice_inv;rcases Us with ⟨b,o',c',arr,ty,fl,h1,h2,h3,h4,h5,h6⟩|⟨rfl,_⟩
       ·refine⟨.slice (some ⟨b,o'+k*z,none⟩) (m-k) (c'-k),by simp[execOp,Zh,h1,hiv,oG hue hz hqk hkm h2],.top rfl QV ?_⟩;rw[hm'];refine TRv.slice (o:=o'+k*z) (by omega) (by omega) h4 (fun i hi=> ?_) fun i v v' hv ZK=> ?_
        ·rw[<-hes,Array.size_extract]at hi;have:=h5 (k*z+i) (by omega);omega
        ·rw[<-hes,LO]at hv;split at hv
         ·refine h6 (k*z+i) v v' hv ?_;rw[<-ZK,Nat.add_assoc]
         ·cases hv
       ·omega
     ·cases e
    ·cases e
   ·cases e
  ·cases e
 ·rename_i cs';split at e
  ·rename_i u1 r k cs el z by' u2 hta
   cases hq:(Lp r n && X1 (Q4 H r))with
   |false=>rw[hq]at e;cases e
   |true=>
    rw[hq]at e;simp only[cond_true,YO]at e;subst e;simp only[YB]at hq;exact⟨mB hta (YL hq.1) hq.2 (hp _ rfl),Shape.new _ _ _ _⟩
  ·cases e
 ·split at e
  ·rename_i sv r k cs el z by' u2 hta
   cases hq:(Lp r n && X1 (Q4 H r))with
   |false=>rw[hq]at e;cases e
   |true=>
    rw[hq]at e;simp only[cond_true,YO]at e;subst e;simp only[YB]at hq;exact⟨kC hta (YL hq.1) hq.2 (hp _ rfl),Shape.same _ _ _⟩
  ·cases e
 ·rename_i cs';split at e
  ·rename_i b off k r m cs2 z hta;split at e
   ·rename_i cs te hg;cases hq:(Lp r n && X1 (Q4 H r) && Lp b n)with
    |false=>rw[hq]at e;cases e
    |true=>
     rw[hq]at e;simp only[cond_true,YO]at e;subst e;simp only[YB]at hq;have hb:=YL hq.2;exact⟨mA hta hg (YL hq.1.1) hq.1.2 hb (hp _ rfl),(Shape.set _ hb).moreR (fun i hi=>by simp at hi ⊢;exact .inl hi)⟩
   ·cases e
  ·cases e
 ·rename_i s;simp only[YO]at e;subst e;exact UK hF K9 (QU P B) hu (hp _ rfl)
 ·rename_i v;split at e
  ·rename_i op t x y yt Zh;split at e
   ·rename_i a b hx hy;cases hq:(af a && af b && af v)with
    |false=>rw[hq]at e;cases e
    |true=>
     rw[hq]at e;simp only[cond_true,YO]at e;subst e;simp only[YB]at hq;have hb:=hp _ rfl;refine⟨VP (fun c h=>by rw[Zh]at h;cases h) fun μ w ρ _ XT=> ?_,Shape.same _ _ _⟩;have e1:=J1 hq.1.1 (XT x (by simp[Zh,Op.operands]) _ hx);have e2:=J1 hq.1.2 (XT y (by simp[Zh,Op.operands]) _ hy);refine⟨v, ?_,KI hq.2⟩;simp only[execOp,Zh,e1,e2];rw[Sem.run_bind,hb x y w];rfl
   ·cases e
  ·cases e
 ·rename_i keys out UC n' W;split at e
  ·rename_i c Zh;split at e
   ·rename_i g args H1 n1 R W1 hcr;cases hn:(Lg n1 n && W1.isEmpty)with
    |false=>rw[hn]at e;cases e
    |true=>
     rw[hn]at e;simp only[cond_true]at e;simp only[YB,List.isEmpty_iff]at hn;obtain⟨K0,rfl⟩:=hn;have K0:=YE K0;subst K0;split at e
     ·rename_i c1 hc1;simp only[YO]at e;subst e;exact Yf hF Zh hu hcr ((hp _ rfl).callJ hc1)
     ·cases e
   ·rename_i l fn tm cda cdb H1 n1 R W1 hcr;cases hn:(Lg n1 n && W1.isEmpty && LI tm.size 16000)with
    |false=>rw[hn]at e;cases e
    |true=>
     rw[hn]at e;simp only[cond_true,YO]at e;subst e;simp only[YB,List.isEmpty_iff]at hn;obtain⟨⟨K0,rfl⟩,Xy⟩:=hn;have K0:=YE K0;subst K0;have WJ:=FJ.recS (hp _ rfl);have:=UK hF WJ (QU P B) hu (T:=T) (o:=o) (s:=⟨out,UC++H1,n',R++keys,W⟩) (by
      simp[eA,Zh,hcr,Xy,YM])
     exact this
   ·cases e
  ·cases e
 ·rename_i out fz;split at e
  ·rename_i c Zh;split at e
   ·rename_i g args H1 n1 R W1 hcr;cases hn:(Lg n1 n && W1.isEmpty)with
    |false=>rw[hn]at e;cases e
    |true=>
     rw[hn]at e;simp only[cond_true]at e;simp only[YB,List.isEmpty_iff]at hn;obtain⟨K0,rfl⟩:=hn;have K0:=YE K0;subst K0;split at e
     ·rename_i ts R2 L Wn;cases Xu:(R2.all fun i=>Lp i n1)with
      |false=>rw[Xu]at e;cases e
      |true=>
       rw[Xu]at e;simp only[cond_true]at e;cases XE:P1 2 out with
       |true=>
        rw[XE]at e;simp only[cond_true,YO]at e;subst e;obtain⟨hL,XN⟩:=hp _ rfl;exact Yf hF Zh hu hcr (sK hJ Wn hL XN XE Xu)
       |false=>
        rw[XE]at e;simp only[cond_false]at e;cases hq:((R2.all fun i=>X1 (Q4 H1 i)) && ni 4 out)with
        |false=>rw[hq]at e;cases e
        |true=>
         rw[hq]at e;simp only[cond_true,YO]at e;subst e;simp only[YB]at hq;obtain⟨hL,XN⟩:=hp _ rfl;exact Yf hF Zh hu hcr (pD hJ Wn hL XN Xu hq.1 hq.2)
     ·cases e
   ·cases e
  ·cases e
 ·rename_i out fz;split at e
  ·rename_i c Zh;split at e
   ·rename_i g args H1 n1 R W1 hcr;cases hn:(Lg n1 n && W1.isEmpty)with
    |false=>rw[hn]at e;cases e
    |true=>
     rw[hn]at e;simp only[cond_true]at e;simp only[YB,List.isEmpty_iff]at hn;obtain⟨K0,rfl⟩:=hn;have K0:=YE K0;subst K0;split at e
     ·rename_i ts R2 L Wn;cases hq:((R2.all fun i=>Lp i n1) && (R2.all fun i=>X1 (Q4 H1 i) || PC (Q4 H1 i)) && ni 4 out)with
      |false=>rw[hq]at e;cases e
      |true=>
       rw[hq]at e;simp only[cond_true,YO]at e;subst e;simp only[YB]at hq;obtain⟨hL,XN⟩:=hp _ rfl;exact Yf hF Zh hu hcr (mO hJ Wn hL XN hq.1.1 hq.1.2 hq.2)
     ·cases e
   ·cases e
  ·cases e
 ·rename_i κ R ps qs out outs news;split at e
  ·rename_i c Zh;split at e
   ·rename_i g args H1 n1 R0 W1 hcr;cases hn:(Lg n1 n && W1.isEmpty)with
    |false=>rw[hn]at e;cases e
    |true=>
     rw[hn]at e;simp only[cond_true]at e;simp only[YB,List.isEmpty_iff]at hn;obtain⟨K0,rfl⟩:=hn;have K0:=YE K0;subst K0;split at e
     ·rename_i as bs o1 UC L hw;simp only[YO]at e;subst e;obtain⟨hL,hwr⟩:=hp _ rfl;exact Yf hF Zh hu hcr (hwr.callJ hJ κ R ps qs hw hL rfl rfl)
     ·cases e
   ·cases e
  ·cases e
end
abbrev Vj(k:Int)(n:Nat)(xs:Array Value)(t:Nat)(v:Array Value):Prop:=k=(↑k.toNat:Int)/\k.toNat<n/\xs.extract (k.toNat*t) (k.toNat*t+t)=v
abbrev FV(a v r:Array Value)(n f z:Nat):Prop:=a.size=n*f/\n+1<=maxLen/\(n+1)*z<=140737488355328/\a++v=r
end Go.CE

namespace Go.CE
open Go Go.RowKit

abbrev QA:=List (Nat×Qu)
def DC(sc:QA)(q:Nat):Option Qu×QA:=match sc with
 |(k,h)::l=>bif Lg k q then(some h,l)else(none,sc)
 |[]=>(none,[])
structure F8 where
 Q6:List Rec
 T:Tm
 H:Q0
 n:Nat
 sc:QA
 q:Nat
 L:List Prop
 ZW:Option (Value×List Nat×List Nat)
def Tw(P:Program)(F:FuncId->Bool)(J:World->Prop)(B:Lo)(ops:Array Oper):List Oper->Tm->Q0->Nat->QA->Nat->List Prop->Option F8
 |[],T,H,n,sc,q,L=>some ⟨[],T,H,n,sc,q,L,none⟩
 |o::l,T,H,n,sc,q,L=>
  bif Ye T o.dst then
   bif Region.wanted o (XD ops T)then
    match DC sc q with
    |(h,sc')=>match FQ P F J B T o H n h with
     |some ⟨⟨.ret v,H1,n1,R,W⟩,p⟩=>match Tw P F J B ops l (Va T o.dst v) H1 n1 sc' (q+1) (more p L)with
      |some r=>some {r with Q6:=⟨o,true,v,T,H,H1,n,n1,R,W⟩::r.Q6}
      |none=>none
     |some ⟨⟨.ZW v,H1,n1,R,W⟩,p⟩=>some ⟨[],T,H1,n1,sc',q+1,more p L,some (v,R,W)⟩
     |none=>none
   else match Tw P F J B ops l (Va T o.dst undef) H n sc (q+1) L with
    |some r=>some {r with Q6:=⟨o,false,undef,T,H,H,n,n,[],[]⟩::r.Q6}
    |none=>none
  else none
def B2(P:Program)(F:FuncId->Bool)(B:Lo)(c:CF)(H:Q0)(n:Nat)(f:Operand)(params:Array Tmp)(assign body:Code)(k:List Item)(keys:List Nat)(out:OO)(UC:Q0)(n':Nat)(W:List Nat):Option (CF×Q0×Prop):=
 match Zd c.tmps f with
 |some fv=>match VM c H n params assign body with
  |some (H1,l,ds,_)=>match Yz F H1 fv #[.func (.yield l) #[] #[]]with
   |some (.enter g args,_)=>match ZM P g args with
    |some c1=>match out with
     | .ret _=>some ({c with todo:=.endRangeFunc l::k,defers:=ds++c.defers},UC++H1,FJ P B c1 H1 (l+1) out (UC++H1) n' keys W)
     | .ZW v=>some ({c with mode:=.ZW v,defers:=ds++c.defers},UC++H1,FJ P B c1 H1 (l+1) out (UC++H1) n' keys W)
    |none=>none
   |_=>none
  |none=>none
 |none=>none
def Q2(P:Program)(F:FuncId->Bool)(J:World->Prop)(B:Lo):Nat->Nat->CF->Q0->Nat->QA->Nat->List Nat->List Prop->Option ST
 |0,_,c,H,n,_,_,W,L=>some ⟨.at c H n,W,L⟩
 |k+1,b,c,H,n,sc,q,W,L=>
  match c.mode,c.todo with
  | .run,.code (.region _ ops draw)::todo=>match Tw P F J B ops ops.toList c.tmps H n sc q L with
    |some r=>match r.ZW with
     |none=>bif !draw || (W8 0 ops.toList && indep ops 0 r.Q6 (K6 ops.toList []))then Q2 P F J B k b {c with tmps:=r.T,todo:=todo} r.H r.n r.sc r.q (ZI b (Vl r.Q6) W) r.L else none
     |some (v,_,W1)=>bif !draw || JQ ops r.Q6 r.T then Q2 P F J B k b {c with tmps:=r.T,mode:=.ZW v} r.H r.n r.sc r.q (ZI b (Vl r.Q6++W1) W) r.L else none
    |none=>none
  | .run,.code (.rangeFunc f params assign body)::todo=>match DC sc q with
    |(some (.WE (.call keys out UC n1 W1)),sc')=>match B3 P F B c H n f params assign body todo keys out UC n1 W1 with
     |some (c',H',p)=>Q2 P F J B k b c' H' n1 sc' q (ZI b W1 W) (p::L)
     |none=>none
    |(some (.call keys out UC n1 W1),sc')=>match B2 P F B c H n f params assign body todo keys out UC n1 W1 with
     |some (c',H',p)=>Q2 P F J B k b c' H' n1 sc' q (ZI b W1 W) (p::L)
     |none=>none
    |_=>none
  |_,_=>match Yv P F X3 (fun _ _ _=>none) c H n with
   |some (.go c' H' n' _ W')=>Q2 P F J B k b c' H' n' sc q (ZI b W' W) L
   |some (.done out H' n' _ W')=>some ⟨.fin out H' n',ZI b W' W,L⟩
   |none=>none
section
variable {P:Program} {F:FuncId->Bool} {J:World->Prop} {B:Lo}
theorem KK{ops:Array Oper}:∀(l:List Oper) (T:Tm) (H:Q0) (n:Nat) (sc:QA) (q:Nat) (L:List Prop) (r:F8),Tw P F J B ops l T H n sc q L=some r->Q3 r.L->Q3 L
 |[],T,H,n,sc,q,L,r,h,ha=>by
  simp only[Tw,YO]at h;subst h;exact ha
 |o::l,T,H,n,sc,q,L,r,h,ha=>by
  simp only[Tw]at h;cases hd:Ye T o.dst with
  |false=>rw[hd]at h;cases h
  |true=>
   rw[hd]at h;simp only[cond_true]at h;cases hw:Region.wanted o (XD ops T)with
   |true=>
    rw[hw]at h;simp only[cond_true]at h;split at h
    ·rename_i v H1 n1 R W p Zh;split at h
     ·rename_i r' hr;simp only[YO]at h;subst h;exact(Zp (KK l _ _ _ _ _ _ r' hr ha)).2
     ·cases h
    ·simp only[YO]at h;subst h;exact(Zp ha).2
    ·cases h
   |false=>
    rw[hw]at h;simp only[cond_false]at h;split at h
    ·rename_i r' hr;simp only[YO]at h;subst h;exact KK l _ _ _ _ _ _ r' hr ha
    ·cases h
def RegOk(P:Program)(B:Lo)(ops:Array Oper)(l:List Oper)(T:Tm)(H:Q0)(n:Nat)(r:F8):Prop:=match r.ZW with
 |none=>Uv r.Q6 T H n r.T r.H r.n/\r.Q6.map (·.o)=l/\Under r.H r.n
 |some (v,R,W)=> ∃H1 n1 o l2,Uv r.Q6 T H n r.T H1 n1/\r.Q6.map (·.o)++o::l2=l/\Region.wanted o (XD ops r.T)=true/\J2 P B o (Zd r.T) H1 n1 (.ZW v) r.H r.n R W/\Shape H1 n1 r.H r.n R W/\Under r.H r.n
theorem RegOk.cons{ops:Array Oper}{l:List Oper}{T:Tm}{H:Q0}{n:Nat}{r:F8}{x:Rec}(h:RegOk P B ops l (Va T x.o.dst x.v) x.H' x.n' r)(hT:x.T=T)(hH:x.H=H)(hn:x.n=n):RegOk P B ops (x.o::l) T H n {r with Q6:=x::r.Q6}:=by
 unfold RegOk at h ⊢;cases hp:r.ZW with
 |none=>
  rw[hp]at h;obtain⟨h3,h4,h5⟩:=h;exact⟨⟨hT,hH,hn,h3⟩,by simp[h4],h5⟩
 |some p=>
  obtain⟨v,R,W⟩:=p;rw[hp]at h;obtain⟨H1,n1,o,l2,h1,h2,h3⟩:=h;exact⟨H1,n1,o,l2,⟨hT,hH,hn,h1⟩,by simp[h2],h3⟩
theorem Yp(hF:∀g,F g=true->QB P g=true)(hJ:∀w,B.has w->J w){ops:Array Oper}{len:Nat}:∀(l:List Oper) (T:Tm) (H:Q0) (n:Nat) (sc:QA) (q:Nat) (L:List Prop) (r:F8),T.len=len->Under H n->Tw P F J B ops l T H n sc q L=some r->Q3 r.L->
 (∀x∈r.Q6,Su len x)/\(∀x∈r.Q6,Y2 P B ops x)/\RegOk P B ops l T H n r
 |[],T,H,n,sc,q,L,r,hl,hu,h,ha=>by
  simp only[Tw,YO]at h;subst h;exact⟨fun r hr=>by simp at hr,fun r hr=>by simp at hr,⟨rfl,rfl,rfl⟩,rfl,hu⟩
 |o::l,T,H,n,sc,q,L,r,hl,hu,h,ha=>by
  simp only[Tw]at h;cases hd:Ye T o.dst with
  |false=>rw[hd]at h;cases h
  |true=>
   have hdst:=Yd hd;rw[hl]at hdst;rw[hd]at h;simp only[cond_true]at h;cases hw:Region.wanted o (XD ops T)with
   |true=>
    rw[hw]at h;simp only[cond_true]at h;split at h
    ·rename_i v H1 n1 R W p Zh;split at h
     ·rename_i r' hr;simp only[YO]at h;subst h;have hpL:=Zp (KK l _ _ _ _ _ _ r' hr ha);obtain⟨hdo,Yu⟩:=ma hF hJ hu Zh hpL.1;obtain⟨h1,h2,h3⟩:=Yp hF hJ (ops:=ops) (len:=len) l (Va T o.dst v) H1 n1 _ _ _ r' (by rw[VH];exact hl) (hu.shape Yu) hr ha;refine⟨fun x hx=> ?_,fun x hx=> ?_,RegOk.cons (x:=⟨o,true,v,T,H,H1,n,n1,R,W⟩) h3 rfl rfl rfl⟩
      ·rcases List.mem_cons.1 hx with rfl|hx
       ·exact⟨Yu.le,Yu.keep,Yu.top,Yu.sub,Yu.wlt,hdst⟩
       ·exact h1 x hx
      ·rcases List.mem_cons.1 hx with rfl|hx
       ·exact⟨hw.symm,(fun _=>hdo),(fun e=>by cases e)⟩
       ·exact h2 x hx
     ·cases h
    ·rename_i v H1 n1 R W p Zh;simp only[YO]at h;subst h;obtain⟨hdo,Yu⟩:=ma hF hJ hu Zh (Zp ha).1;exact⟨fun r hr=>by simp at hr,fun r hr=>by simp at hr,H,n,o,l,⟨rfl,rfl,rfl⟩,rfl,hw,hdo,Yu,hu.shape Yu⟩
    ·cases h
   |false=>
    rw[hw]at h;simp only[cond_false]at h;split at h
    ·rename_i r' hr;simp only[YO]at h;subst h;obtain⟨h1,h2,h3⟩:=Yp hF hJ (ops:=ops) (len:=len) l (Va T o.dst undef) H n _ _ _ r' (by rw[VH];exact hl) hu hr ha;refine⟨fun x hx=> ?_,fun x hx=> ?_,RegOk.cons (x:=⟨o,false,undef,T,H,H,n,n,[],[]⟩) h3 rfl rfl rfl⟩
     ·rcases List.mem_cons.1 hx with rfl|hx
      ·exact⟨Ly _,fun _ _ _=>rfl,fun _ _=>rfl,fun i hi=>by simp at hi,fun i hi=>by simp at hi,hdst⟩
      ·exact h1 x hx
     ·rcases List.mem_cons.1 hx with rfl|hx
      ·exact⟨hw.symm,(fun e=>by cases e),fun _=>⟨rfl,rfl,rfl,rfl⟩⟩
      ·exact h2 x hx
    ·cases h
theorem jM{c:CF}{H:Q0}{n:Nat}{id:Nat}{ops:Array Oper}{k:List Item}{Q6:List Rec}{v:Value}{H':Q0}{n':Nat}{R W:List Nat}{T':Tm}(hm:c.mode=.run)
 (ht:c.todo=.code (.region id ops false)::k) (hs:∀x∈Q6,Su c.tmps.len x) (hk:∀x∈Q6,Y2 P B ops x)
 (h:∃H1 n1 o l2,Uv Q6 c.tmps H n T' H1 n1/\Q6.map (·.o)++o::l2=ops.toList/\Region.wanted o (XD ops T')=true/\J2 P B o (Zd T') H1 n1 (.ZW v) H' n' R W/\Shape H1 n1 H' n' R W/\Under H' n'):
 GoJ P B c H n {c with tmps:=T',mode:=.ZW v} H' n' (UB Q6++R) (Vl Q6++W):=by
 obtain⟨H1,n1,o,l2,Y9,hmap,Uq,hdo,Yu,_⟩:=h;have hown:=Ue (l2:=o::l2) hmap rfl;have hlen:ops.size=Q6.length+(l2.length+1):=by have:=congrArg Lc hmap;simp at this;omega
 have hat:ops[Q6.length]? =some o:=by
  rw[<-Ln,<-hmap,Lj (by simp)];simp
 have hsh1:=ZN Q6 _ _ _ _ _ _ Y9 hs;have l1:=hsh1.le;have l3:=Yu.le;refine⟨hsh1.trans Yu,fun S μ w fr cs Z QR hB hS hf X9 hR=> ?_⟩;obtain⟨a,b,d⟩:=X9.running hm;rw[ht]at d;obtain⟨L',e,hL⟩:=d.code;have hf1:K7 μ n n1:=fun q x y=>hf q x (by omega)
 obtain⟨μ1,A1,w1,hp,hT,Wn⟩:=RO (fr:=fr) (cs:=cs) (k:=L') a Q6 0 c.tmps H n T' H1 n1 (LB Q6.length (l2.length+1)) Y9 hs hk (fun j r hj=>by rw[Lz];exact hown j r hj) rfl S μ w fr.tmps QR hB hS hf1
  (fun q hq Xu=>hR q (Lk _ hq) Xu) b
 have hr:LB 0 Q6.length++LB Q6.length (l2.length+1)=LB 0 ops.size:=by
  rw[hlen];have:=List.range'_append_1 (s:=0) (m:=Q6.length) (n:=l2.length+1);simpa using this
 rw[hr,List.range'_succ]at Wn;obtain⟨Za,w2,μ2,hp2,ho,hst2⟩:=hdo _ μ1 w1 (Xv fr A1 ops (Q6.length::LB (Q6.length+1) l2.length) L') cs L' ops Q6.length _ hp.ok (hB.post QR hp) (fun q hq=>hq.elim (fun e=>by have:=hS q e;omega) (fun e=>e.2))
  (fun q x y=>by rw[hp.ext q (by omega)];exact hf q (by omega) y) (fun x _ v hv=>ml (fr:=Xv fr A1 ops (Q6.length::LB (Q6.length+1) l2.length) L') hT x v hv) (fun q hq Xu=>by
   rcases LA q n with h1|h1
   ·exact .inl (hR q (Lr _ hq) h1)
   ·exact .inr ⟨h1,Xu⟩) a rfl hat (by rw[show(Xv fr A1 ops (Q6.length::LB (Q6.length+1) l2.length) L').tmps=A1 from rfl,UE hT];exact Uq)
 have hpp:=hp.trans hp2;cases ho with
 |ZW hv=>
  rename_i v';refine⟨{Xv fr A1 ops (Q6.length::LB (Q6.length+1) l2.length) L' with mode:=.panicking [{v:=v',recovered:=false}]},w2,μ2,hpp,⟨X9.fn,hT.mono (hp2.mu fun q x y=>by rw[hp.ext q (by omega)];exact hf q (by omega) y),(fun h=>by cases h),X9.defers.mono (hpp.mu hf),.ZW hv,X9.kind,X9.round.mono (hpp.mu hf)⟩,rfl,rfl,
   .head (Wc a e) (Wn.trans (hst2.trans ?_))⟩
  simp only[OO.on,Frame.raise,Xv,a];exact Steps.refl _ _
theorem rF(hF:∀g,F g=true->QB P g=true)(Ze:P.follows .mixedOrders=true){c c':CF}{H H':Q0}{n n':Nat}{f:Operand}{params:Array Tmp}{assign body:Code}{k:List Item}{keys W:List Nat}{out:OO}{UC:Q0}{p:Prop}(hu:Under H n)(hm:c.mode=.run)(ht:c.todo=.code (.rangeFunc f params assign body)::k)
 (h:B2 P F B c H n f params assign body k keys out UC n' W=some (c',H',p)) (hp:p):∃R,GoJ P B c H n c' H' n' R W:=by
 unfold B2 at h;split at h
 ·rename_i fv hfv;split at h
  ·rename_i H1 l ds R1 ho;split at h
   ·rename_i g args R2 hc;split at h
    ·rename_i c1 he;refine⟨R1++R2++keys, ?_⟩;split at h
     ·rename_i v;simp only[YO,YR]at h;obtain⟨rfl,rfl,rfl⟩:=h;have:Yv P F X3 (JC c1 H1 (l+1) ⟨.ret v,UC++H1,n',keys,W⟩) c H n=some (.go {c with todo:=.endRangeFunc l::k,defers:=ds++c.defers} (UC++H1) n' (R1++R2++keys) W):=by
       unfold Yv;simp only[hm,ht,hfv,ho,hc,he,YM]
      exact WN hF Ze (QU P B) (FJ.recS hp) hu this
     ·rename_i v;simp only[YO,YR]at h;obtain⟨rfl,rfl,rfl⟩:=h;have:Yv P F X3 (JC c1 H1 (l+1) ⟨.ZW v,UC++H1,n',keys,W⟩) c H n=some (.go {c with mode:=.ZW v,defers:=ds++c.defers} (UC++H1) n' (R1++R2++keys) W):=by
       unfold Yv;simp only[hm,ht,hfv,ho,hc,he,YM]
      exact WN hF Ze (QU P B) (FJ.recS hp) hu this
    ·cases h
   ·cases h
  ·cases h
 ·cases h
theorem JA(b:Nat):∀(fuel:Nat) (c:CF) (H:Q0) (n:Nat) (sc:QA) (q:Nat) (W0:List Nat) (L:List Prop) (s:ST),Q2 P F J B fuel b c H n sc q W0 L=some s->Q3 s.L->Q3 L:=by
 intro fuel;induction fuel with
 |zero=>intro c H n sc q W0 L s h ha;simp only[Q2,YO]at h;subst h;exact ha
 |succ k ih=>
  intro c H n sc q W0 L s h ha;simp only[Q2]at h;split at h
  ·split at h
   ·rename_i r' hr';split at h
    ·have h:=UT h;exact KK _ _ _ _ _ _ _ _ hr' (ih _ _ _ _ _ _ _ _ h ha)
    ·exact KK _ _ _ _ _ _ _ _ hr' (ih _ _ _ _ _ _ _ _ (UT h) ha)
   ·cases h
  ·split at h
   ·split at h
    ·exact(ih _ _ _ _ _ _ _ _ h ha).2
    ·cases h
   ·split at h
    ·exact(ih _ _ _ _ _ _ _ _ h ha).2
    ·cases h
   ·cases h
  ·split at h
   ·exact ih _ _ _ _ _ _ _ _ h ha
   ·simp only[YO]at h;subst h;exact ha
   ·cases h
theorem Wo(hF:∀g,F g=true->QB P g=true)(hJ:∀w,B.has w->J w)(Ze:P.follows .mixedOrders=true):∀(fuel b:Nat) (c:CF) (H:Q0) (n:Nat) (sc:QA) (q:Nat) (W0:List Nat) (L:List Prop) (s:ST),Under H n->Q2 P F J B fuel b c H n sc q W0 L=some s->Q3 s.L->
 ∃R W,FG P B c H n R W s.r/\∀i,i<b->(i∈s.W<->i∈W0\/i∈W)
 |0,b,c,H,n,sc,q,W0,L,s,hu,h,ha=>by
  simp only[Q2,YO]at h;subst h;exact⟨[],[],GoJ.refl c H n,fun i _=>by simp⟩
 |k+1,b,c,H,n,sc,q,W0,L,s,hu,h,ha=>by
  have plain:(match Yv P F X3 (fun _ _ _=>none) c H n with
   |some (.go c' H' n' _ W')=>Q2 P F J B k b c' H' n' sc q (ZI b W' W0) L
   |some (.done out H' n' _ W')=>some ⟨.fin out H' n',ZI b W' W0,L⟩
   |none=>none)=some s->∃R W,FG P B c H n R W s.r/\∀i,i<b->(i∈s.W<->i∈W0\/i∈W):=by
   intro h;split at h
   ·rename_i c' H' n' R' W' hs;have Pa:GoJ P B c H n c' H' n' R' W':=WN hF Ze (QU P B) K9 hu hs;obtain⟨R,W,h1,h2⟩:=Wo hF hJ Ze k b c' H' n' sc q _ L s (hu.shape Pa.shape) h ha;refine⟨_,_,Pa.srj h1,fun i hi=> ?_⟩;rw[h2 i hi,Zr hi,List.mem_append,or_assoc]
   ·rename_i out H' n' R' W' hs;have hdone:FJ P B c H n out H' n' R' W':=WN hF Ze (QU P B) K9 hu hs;simp only[YO]at h;subst h;exact⟨R',W',hdone,fun i hi=>Zr hi⟩
   ·cases h
  simp only[Q2]at h;split at h
  ·rename_i id ops draw todo hm ht;split at h
   ·rename_i r hr;cases hpan:r.ZW with
    |none=>
     rw[hpan]at h;simp only at h;cases hd:(!draw || (W8 0 ops.toList && indep ops 0 r.Q6 (K6 ops.toList [])))with
     |false=>rw[hd]at h;cases h
     |true=>
      rw[hd]at h;simp only[cond_true]at h;have hL:Q3 r.L:=by
       exact JA b k _ _ _ _ _ _ _ s h ha
      obtain⟨h1,h2,WG⟩:=Yp hF hJ (len:=c.tmps.len) ops.toList c.tmps H n sc q L r rfl hu hr hL;unfold RegOk at WG;rw[hpan]at WG;obtain⟨h3,h4,h5⟩:=WG;have Pa:=nE Ze hm ht h1 h2 h3 h4 hd;obtain⟨R,W,k1,k2⟩:=Wo hF hJ Ze k b _ _ _ _ _ _ _ s h5 h ha;refine⟨_,_,Pa.srj k1,fun i hi=> ?_⟩;rw[k2 i hi,Zr hi,List.mem_append,or_assoc]
    |some p=>
     obtain⟨v,R1,W1⟩:=p;rw[hpan]at h;simp only at h;cases hd:(!draw || JQ ops r.Q6 r.T)with
     |false=>rw[hd]at h;cases h
     |true=>
      rw[hd]at h;simp only[cond_true]at h;have hL:Q3 r.L:=by
       exact JA b k _ _ _ _ _ _ _ s h ha
      obtain⟨h1,h2,WG⟩:=Yp hF hJ (len:=c.tmps.len) ops.toList c.tmps H n sc q L r rfl hu hr hL;unfold RegOk at WG;rw[hpan]at WG;have Pa:GoJ P B c H n {c with tmps:=r.T,mode:=.ZW v} r.H r.n (UB r.Q6++R1) (Vl r.Q6++W1):=by
       cases draw with
       |true=>
        obtain⟨H1,n1,o,l2,x1,x2,x3,x4,x5,_⟩:=WG;exact dx Ze hm ht h1 h2 ⟨H1,n1,o,l2,x1,x2,x3,x4,x5⟩ (by simpa using hd)
       |false=>exact jM hm ht h1 h2 WG
      obtain⟨_,_,_,_,_,_,_,_,_,h5⟩:=WG;obtain⟨R,W,k1,k2⟩:=Wo hF hJ Ze k b _ _ _ _ _ _ _ s h5 h ha;refine⟨_,_,Pa.srj k1,fun i hi=> ?_⟩;rw[k2 i hi,Zr hi,List.mem_append (s:=Vl r.Q6++W1),or_assoc]
   ·cases h
  ·rename_i f params assign body todo hm ht;split at h
   ·rename_i keys out UC n1 W1 sc' htold;split at h
    ·rename_i c' H' p hi;have hL:=JA b k _ _ _ _ _ _ _ s h ha;obtain⟨R0,Pa⟩:=rG hF Ze hu hm ht hi hL.1;obtain⟨R,W,h1,h2⟩:=Wo hF hJ Ze k b _ _ _ _ _ _ _ s (hu.shape Pa.shape) h ha;refine⟨_,_,Pa.srj h1,fun i hi=> ?_⟩;rw[h2 i hi,Zr hi,List.mem_append,or_assoc]
    ·cases h
   ·rename_i keys out UC n1 W1 sc' htold;split at h
    ·rename_i c' H' p hi;have hL:=JA b k _ _ _ _ _ _ _ s h ha;obtain⟨R0,Pa⟩:=rF hF Ze hu hm ht hi hL.1;obtain⟨R,W,h1,h2⟩:=Wo hF hJ Ze k b _ _ _ _ _ _ _ s (hu.shape Pa.shape) h ha;refine⟨_,_,Pa.srj h1,fun i hi=> ?_⟩;rw[h2 i hi,Zr hi,List.mem_append,or_assoc]
    ·cases h
   ·cases h
  ·exact plain h
end
end Go.CE

namespace Go.CE
open Go Go.RowKit

def Kr(H:Q0)(n:Nat):List Nat:=(Lv n).filter fun r=>X1 (Q4 H r)
theorem lA{H:Q0}{n r:Nat}:r∈Kr H n<->r<n/\X1 (Q4 H r)=true:=by simp[Kr]
noncomputable def eB(n n1:Nat)(ρ:Nat->Nat)(μ μ':Mu)(fm:Nat->Option Obj):Mu:=fun i=>if i=n then some ⟨0,0,0,false,fm⟩else if n<i/\i<n1 then μ' (ρ i)else μ i
structure vd (n n' n1:Nat) (W:List Nat) (μ μ':Mu) (H H' H1:Q0) (w':World) (ρ:Nat->Nat) (fk:List Nat):Prop where
 le:n<n1
 id:∀i,i<n->ρ i=i
 rng:∀i,n<i->i<n1->n<=ρ i/\ρ i<n'
 inj:∀i j,n<i->i<n1->n<j->j<n1->ρ i=ρ j->i=j
 under:Under H1 n1
 WE:∀i,i<n->i ∉ W->Q4 H1 i=Q4 H i
 K8:Q4 H1 n=some XM
 obj:∀i o1,i<n1->(n<i\/i∈W/\i<n)->Q4 H1 i=some o1->¬ZQ o1/\(live o1->∃o,Q4 H' (ρ i)=some o/\live o/\∀im,μ' (ρ i)=some im->OR μ' w' im o->OR (eB n n1 ρ μ μ' (UD μ' H' w' (Kr H' n'++fk))) w' im o1)
 fz:∀k∈fk,n<=k/\k<n'/\(∃o,Q4 H' k=some o/\live o)/\∀i,n<i->i<n1->ρ i≠k
theorem Post.merge{B n n' n1:Nat}{W:List Nat}{μ μ':Mu}{H H' H1:Q0}{w w':World}{ρ:Nat->Nat}{fk:List Nat}(QR:Ok B (fun i=>i<n) μ (Q4 H) w)(hf:∀i,n<=i->μ i=none)(hp:Post B (fun i=>i<n) n n' W μ μ' H H' w w')(k:vd n n' n1 W μ μ' H H' H1 w' ρ fk):
 Post B (fun i=>i<n) n n1 W μ (eB n n1 ρ μ μ' (UD μ' H' w' (Kr H' n'++fk))) H H1 w w':=by
 have le1:=k.le;have hlow:∀i,i<n->eB n n1 ρ μ μ' (UD μ' H' w' (Kr H' n'++fk)) i=μ i:=fun i hi=>by unfold eB;rw[if_neg (by omega),if_neg (by omega)]
 have hhigh:∀i,n<i->i<n1->eB n n1 ρ μ μ' (UD μ' H' w' (Kr H' n'++fk)) i=μ' (ρ i):=fun i h1 h2=>by unfold eB;rw[if_neg (by omega),if_pos ⟨h1,h2⟩]
 have hmid:eB n n1 ρ μ μ' (UD μ' H' w' (Kr H' n'++fk)) n=some ⟨0,0,0,false,UD μ' H' w' (Kr H' n'++fk)⟩:=by unfold eB;rw[if_pos rfl]
 have hext:Ext μ (eB n n1 ρ μ μ' (UD μ' H' w' (Kr H' n'++fk))):=by
  intro i im QV;rcases LA i n with h|h
  ·rw[hlow i h];exact QV
  ·rw[hf i h]at QV;cases QV
 generalize hM:eB n n1 ρ μ μ' (UD μ' H' w' (Kr H' n'++fk))=μ1 at *;have obj:=k.obj;rw[hM]at obj
 -- an object of the new heap: an WE one YJ was left, the region, or one of the run
 have other:∀i o im,i<n->i ∉ W->Q4 H i=some o->live o->μ i=some im->w'.heap[im.Zi]? =w.heap[im.Zi]? :=by
  intro i o im hi hw ho hl QV;refine hp.frame _ (QR.low i o im hi ho hl QV).1 fun q hq hqn Z5 Xa hb=> ?_
  obtain⟨_,⟨oq,hoq,hlq⟩,im2,W4,hr⟩:=hp.wr q hq hqn;rw[Xa]at W4;cases W4;by_cases Yj:im.rw=true
  ·exact QR.inj q i oq o Z5 im hqn hi (fun e=>hw (e ▸ hq)) hoq ho hlq hl Xa QV hr Yj hb
  ·have a:=(QR.low i o im hi ho hl QV).2.2 (by simpa using Yj);have b:=(QR.low q oq Z5 hqn hoq hlq Xa).2.1 hr;omega
 have hS':∀i,i<n1->i≠n->(ρ i<n\/n<=ρ i/\ρ i<n'):=by
  intro i hi Km;rcases LA i n with h|h
  ·exact .inl (by rw[k.id i h];exact h)
  ·exact .inr (k.rng i (by omega) hi)
 have hmuR:∀i,i<n1->i≠n->μ1 i=μ' (ρ i):=by
  intro i hi Km;rcases LA i n with h|h
  ·rw[hlow i h,k.id i h,hp.ext i (by omega)]
  ·exact hhigh i (by omega) hi
 have Ww:∀i,(i<n\/n<=i/\i<n1)->i<n1:=fun i hi=>hi.elim (fun e=>by omega) (fun e=>e.2)
 have liveH':∀i o1,i<n1->Q4 H1 i=some o1->live o1->i≠n/\∃o,Q4 H' (ρ i)=some o/\live o:=by
  intro i o1 hi ho hl;have Km:i≠n:=fun e=>by rw[e,k.K8]at ho;cases ho;exact hl.elim
  refine⟨Km, ?_⟩;by_cases h:n<i\/i∈W/\i<n
  ·obtain⟨o,h1,h2,_⟩:=(obj i o1 hi h ho).2 hl;exact⟨o,h1,h2⟩
  ·have h1:i<n:=by omega
   have h2:i ∉ W:=fun e=>h (.inr ⟨e,h1⟩)
   rw[k.WE i h1 h2]at ho;exact⟨o1,by rw[k.id i h1,hp.keep i h1 h2];exact ho,hl⟩
 have hinj:∀i j,i<n1->j<n1->i≠n->j≠n->ρ i=ρ j->i=j:=by
  intro i j hi hj Jm hjn e;rcases LA i n with h|h <;> rcases LA j n with h'|h'
  ·rw[k.id i h,k.id j h']at e;exact e
  ·have:=k.rng j (by omega) hj;rw[k.id i h]at e;omega
  ·have:=k.rng i (by omega) hi;rw[k.id j h']at e;omega
  ·exact k.inj i j (by omega) hi (by omega) hj e
 have regH1:∀i o,i<n1->Q4 H1 i=some o->ZQ o->i=n\/(i<n/\i ∉ W/\Q4 H i=some o/\Q4 H' i=some o):=by
  intro i o hi ho hr;by_cases Km:i=n
  ·exact .inl Km
  ·by_cases h:n<i\/i∈W/\i<n
   ·exact absurd hr (obj i o hi h ho).1
   ·have h1:i<n:=by omega
    have h2:i ∉ W:=fun e=>h (.inr ⟨e,h1⟩)
    rw[k.WE i h1 h2]at ho;exact .inr ⟨h1,h2,ho,by rw[hp.keep i h1 h2];exact ho⟩
 have deadW:∀q,q∈W->q<n->(∀o,Q4 H' q=some o->¬live o)->∀o,Q4 H1 q=some o->¬live o:=by
  intro q hq hqn hd o ho hl;obtain⟨_,o',h5,h6⟩:=liveH' q o (by omega) ho hl;rw[k.id q hqn]at h5;exact hd o' h5 h6
 -- what stands in the region
 have fmCase:∀b x,UD μ' H' w' (Kr H' n'++fk) b=some x->w'.heap[b]? =some x/\((∃r o im,r<n'/\Q4 H' r=some o/\ZQ o/\μ' r=some im/\im.fm b=some x)\/∃q o im,q∈fk/\Q4 H' q=some o/\live o/\μ' q=some im/\im.Zi=b):=by
  intro b x h;have hw:=WI h;refine⟨hw, ?_⟩;unfold UD at h;split at h
  ·rename_i hc;obtain⟨i,hi,o,im,ho,QV,Us⟩:=hc;rcases List.mem_append.1 hi with hi|hi
   ·obtain⟨Xu,V6⟩:=lA.1 hi;obtain⟨o',VT,hr'⟩:=Z8 V6;rw[ho]at VT;cases VT;rcases Us with ⟨_,Km⟩|⟨hl,_⟩
    ·cases hx:im.fm b with
     |none=>exact absurd hx Km
     |some y=>
      obtain⟨Z5,Xa,hf'⟩:=hp.ok.K8 i o (by rcases LA i n with h|h;exact .inl h;exact .inr ⟨h,Xu⟩) ho hr'
      rw[QV]at Xa;cases Xa;have:=hf' b y hx;rw[hw]at this;cases this;exact .inl ⟨i,o,im,Xu,ho,hr',QV,hx⟩
    ·exact absurd hl (by cases o <;> first|exact id|exact hr'.elim)
   ·obtain⟨h1,h2,⟨o',VT,hl'⟩,_⟩:=k.fz i hi;rw[ho]at VT;cases VT;rcases Us with ⟨hr,_⟩|⟨hl,hb⟩
    ·exact absurd hl' (by cases o <;> first|exact id|exact hr.elim)
    ·exact .inr ⟨i,o,im,hi,ho,hl,QV,hb⟩
  ·cases h
 have hin':∀r,r<n'->(r<n\/n<=r/\r<n'):=fun r h=>by omega
 refine⟨⟨fun i o hi ho hl=> ?_,fun i o im hi ho hl QV=> ?_,fun i j oi oj a b hi hj JZ ZT ZS hli Vm ha hb Yj V6=> ?_,fun i o hi ho hr=> ?_,fun i j oi oj a b x hi hj ZT ZS Kp Vm ha hb V6 hx=> ?_⟩,by omega,fun i hi=> ?_,fun i hi hw=>k.WE i hi hw,hp.grow,hp.frame,hp.wr,fun i im o h1 h2 ho hl QV=> ?_,fun i im o hi ho hr QV b x hx=> ?_,hp.os,hp.tape,hp.output⟩
 ·have hi1:=Ww i hi;have Km:=(liveH' i o hi1 ho hl).1;by_cases h:n<i\/i∈W/\i<n
  ·obtain⟨o',h1,h2,h4⟩:=(obj i o hi1 h ho).2 hl;obtain⟨im,QV,ZJ⟩:=hp.ok.rel (ρ i) o' (hS' i hi1 Km) h1 h2;exact⟨im,by rw[hmuR i hi1 Km];exact QV,h4 im QV ZJ⟩
  ·have h1:i<n:=by omega
   have h2:i ∉ W:=fun e=>h (.inr ⟨e,h1⟩)
   rw[k.WE i h1 h2]at ho;obtain⟨im,QV,ZJ⟩:=QR.rel i o h1 ho hl;exact⟨im,hext _ _ QV,ZJ.keep hext (other i o im h1 h2 ho hl QV)⟩
 ·have hi1:=Ww i hi;obtain⟨Km,o',h1,h2⟩:=liveH' i o hi1 ho hl;rw[hmuR i hi1 Km]at QV;exact hp.ok.low (ρ i) o' im (hS' i hi1 Km) h1 h2 QV
 ·have hi1:=Ww i hi;have hj1:=Ww j hj;obtain⟨hni,o1,h1,h2⟩:=liveH' i oi hi1 ZT hli;obtain⟨hnj,o2,h3,h4⟩:=liveH' j oj hj1 ZS Vm;rw[hmuR i hi1 hni]at ha;rw[hmuR j hj1 hnj]at hb;exact hp.ok.inj (ρ i) (ρ j) o1 o2 a b (hS' i hi1 hni) (hS' j hj1 hnj) (fun e=>JZ (hinj i j hi1 hj1 hni hnj e)) h1 h3 h2 h4 ha hb Yj V6
 ·rcases regH1 i o (Ww i hi) ho hr with Jm|⟨h1,h2,h3,h4⟩
  ·rw[Jm];exact⟨_,hmid,fun b x h=>WI h⟩
  ·obtain⟨im,QV,hf'⟩:=hp.ok.K8 i o (.inl h1) h4 hr;rw[hp.ext i (by omega)]at QV;exact⟨im,hext _ _ QV,hf'⟩
 ·have hj1:=Ww j hj;obtain⟨hnj,o2,h3,h4⟩:=liveH' j oj hj1 ZS Vm;rw[hmuR j hj1 hnj]at hb;rcases regH1 i oi (Ww i hi) ZT Kp with Jm|⟨h1,h2,h5,h6⟩
  ·rw[Jm,hmid]at ha;cases ha;obtain⟨_,Us⟩:=fmCase _ _ hx;rcases Us with ⟨r,o,im,Xu,ho,hr,QV,hfx⟩|⟨q,o,im,hq,ho,hl,QV,hbb⟩
   ·exact hp.ok.sep r (ρ j) o o2 im b x (hin' r Xu) (hS' j hj1 hnj) ho h3 hr h4 QV hb V6 hfx
   ·obtain⟨q1,q2,_,q3⟩:=k.fz q hq;have Km:q≠ρ j:=by
     intro e;rcases LA j n with h|h
     ·rw[k.id j h]at e;omega
     ·exact q3 j (by omega) hj1 e.symm
    have hrw:=(hp.fresh q im o q1 q2 ho hl QV).1;exact hp.ok.inj q (ρ j) o o2 im b (hin' q q2) (hS' j hj1 hnj) Km ho h3 hl h4 QV hb hrw V6 hbb
  ·rw[hlow i h1]at ha;exact hp.ok.sep i (ρ j) oi o2 a b x (.inl h1) (hS' j hj1 hnj) h6 h3 Kp h4 (by rw[hp.ext i (by omega)];exact ha) hb V6 hx
 ·rw[<-hM];unfold eB;rw[if_neg (by omega),if_neg (by omega)]
 ·obtain⟨Km,o',h3,h4⟩:=liveH' i o h2 ho hl;rw[hmuR i h2 Km]at QV;obtain⟨a,b⟩:=k.rng i (by omega) h2;obtain⟨hr,X9⟩:=hp.fresh (ρ i) im o' a b h3 h4 QV;exact⟨hr,X9.imp id fun⟨q,hq,hqn,hb,hd⟩=>⟨q,hq,hqn,hb,deadW q hq hqn hd⟩⟩
 ·have hi1:i<n1:=by omega
  rcases regH1 i o hi1 ho hr with Jm|⟨h1,h2,_⟩
  ·rw[Jm,hmid]at QV;cases QV;obtain⟨_,Us⟩:=fmCase _ _ hx;rcases Us with ⟨r,o,im,Xu,ho,hr,QV,hfx⟩|⟨q,o,im,hq,ho,hl,QV,hbb⟩
   ·by_cases hx:n<=r/\r<n'\/r∈W/\r<n
    ·rcases hp.rf r im o hx ho hr QV b x hfx with c|c|⟨q,hq,hqn,hb,hd⟩
     ·exact .inl c
     ·exact .inr (.inl c)
     ·exact .inr (.inr ⟨q,hq,hqn,hb,deadW q hq hqn hd⟩)
    ·have h:r<n:=by omega
     rw[hp.keep r h fun e=>hx (.inr ⟨e,h⟩)]at ho;rw[hp.ext r (by omega)]at QV;exact .inr (.inl ⟨r,im,o,h,h,ho,hr,QV,hfx⟩)
   ·obtain⟨q1,q2,_,_⟩:=k.fz q hq;rcases(hp.fresh q im o q1 q2 ho hl QV).2 with c|⟨q',hq',hqn,⟨Z5,Xa,hb'⟩,hd⟩
    ·exact .inl (by omega)
    ·exact .inr (.inr ⟨q',hq',hqn,⟨Z5,Xa,by omega⟩,deadW q' hq' hqn hd⟩)
  ·rcases hi with hi|hi
   ·omega
   ·exact absurd hi.1 h2
end Go.CE

namespace Go.CE
open Go Go.RowKit

section
variable (H:Q0) (m:Nat) (pos:Nat->Option Nat) (fz:List Fz)
def DP(v:Value):Option (Value×List Prop):=bif simple v then some (v,[])else match v with
 | .func (.via r ⟨[]⟩ 0 true) ⟨[t]⟩ ⟨[]⟩=>bif X1 (Q4 H r) && ZX t then some (QF ((pos r).getD m) t,[])else none
 | .pointer (some ⟨k,o,none⟩)=>match pos k with
   |some j=>some (.pointer (some ⟨j,o,none⟩),[])
   |none=>match dz fz k,Q4 H k with
    |some x,some (.cells cs _ (0,0))=>bif x.rs.all fun r=>X1 (Q4 H r)then some (QF m (Y5 o x.cs),[QC x.rs cs x.cs])else none
    |_,_=>some (.chan none,[])
 | .slice (some ⟨k,o,none⟩) n z=>match pos k with
   |some j=>some (.slice (some ⟨j,o,none⟩) n z,[])
   |none=>match o,dz fz k,Q4 H k with
    |0,some x,some (.cells cs _ (0,0))=>bif x.rs.all fun r=>X1 (Q4 H r)then some (QF m (Xq n x.cs),[QC x.rs cs x.cs])else none
    |_,_,_=>some (.chan none,[])
 | .map (some r)=>match pos r with
   |some j=>some (.map (some j),[])
   |none=>some (.chan none,[])
 | .func (.yield l) ⟨[]⟩ ⟨[]⟩=>match pos l with
   |some j=>some (.func (.yield j) #[] #[],[])
   |none=>some (.chan none,[])
 | .chan none=>some (.chan none,[])
 |_=>none
def nL(f:Value->Option (Value×List Prop)):List Value->Option (List Value×List Prop)
 |[]=>some ([],[])
 |v::l=>match f v with
  |some (t,L)=>match nL f l with
   |some (ts,L2)=>some (t::ts,L++L2)
   |none=>none
  |none=>none
def rS:Nat->Value->Option (Value×List Prop)
 |0,v=>DP H m pos fz v
 |f+1,v=>match v with
  | .agg xs=>match nL (rS f) xs.toList with
    |some (l,L)=>some (.agg l.toArray,L)
    |none=>none
  | .tuple xs=>match nL (rS f) xs.toList with
    |some (l,L)=>some (.tuple l.toArray,L)
    |none=>none
  | .iface t x=>match rS f x with
    |some (x,L)=>some (.iface t x,L)
    |none=>none
  | .func (.func g) xs ys=>match nL (rS f) xs.toList with
    |some (l,L)=>match nL (rS f) ys.toList with
     |some (k,L2)=>some (.func (.func g) l.toArray k.toArray,L++L2)
     |none=>none
    |none=>none
  |v=>DP H m pos fz v
def FB(rs:List Nat)(v v1:Value):Prop:=(simple v=true/\v1=v)\/∃r∈rs,∃t,v=QF r t/\v1=QF m t/\ZX t=true
def ZG(rs:List Nat)(cs cs1:Array Value):Prop:=cs.size=cs1.size/\∀(i:Nat) v v1,cs[i]? =some v->cs1[i]? =some v1->FB m rs v v1
end
theorem Xk{m:Nat}{rs:List Nat}{cs:Array Value}(h:∀v∈cs,simple v=true):ZG m rs cs cs:=⟨rfl,fun i v v1 h1 h2=>by
 rw[h1]at h2;cases h2;exact .inl ⟨h v (LD h1),rfl⟩⟩
inductive dN (m:Nat) (rs:List (Nat×Nat)) (UY:List (Nat×Array Value)) (ow:List (Nat×Nat)):Value->Value->Prop
 |simple {v}:CE.simple v=true->dN m rs UY ow v v
 |K8 {r j t}:(r,j)∈rs->ZX t=true->dN m rs UY ow (QF r t) (QF j t)
 |own {k cs n c}:(k,cs)∈UY->dN m rs UY ow (.slice (some ⟨k,0,none⟩) n c) (QF m (Xq n cs))
 |nil:dN m rs UY ow (.slice none 0 0) (QF m (Xq 0 #[]))
 |keep {k j n c}:(k,j)∈ow->dN m rs UY ow (.slice (some ⟨k,0,none⟩) n c) (.slice (some ⟨j,0,none⟩) n c)
def AllX(m:Nat)(rs:List (Nat×Nat))(UY:List (Nat×Array Value))(ow:List (Nat×Nat)):List Value->List Value->Prop
 |[],[]=>True
 |v::l,u::k=>dN m rs UY ow v u/\AllX m rs UY ow l k
 |_,_=>False
def ZO(m:Nat)(rs:List (Nat×Nat))(UY:List (Nat×Array Value))(ow:List (Nat×Nat))(cs cs1:Array Value):Prop:=AllX m rs UY ow cs.toList cs1.toList
theorem AllX.get{m:Nat}{rs:List (Nat×Nat)}{UY:List (Nat×Array Value)}{ow:List (Nat×Nat)}:∀{l k:List Value},AllX m rs UY ow l k->k.length=l.length/\∀(i:Nat) v u,l[i]? =some v->k[i]? =some u->dN m rs UY ow v u
 |[],[],_=>⟨rfl,fun i v u h=>by simp at h⟩
 |v::l,u::k,h=>by
  obtain⟨a,b⟩:=AllX.get h.2;refine⟨by simp[a],fun i x y hx hy=> ?_⟩;cases i with
  |zero=>
   simp only[Lq,YO]at hx hy;subst hx hy;exact h.1
  |succ i=>exact b i x y (by simpa using hx) (by simpa using hy)
 |[],_::_,h=>h.elim
 |_::_,[],h=>h.elim
theorem AllX.append{m:Nat}{rs:List (Nat×Nat)}{UY:List (Nat×Array Value)}{ow:List (Nat×Nat)}:∀{l k l2 k2:List Value},AllX m rs UY ow l k->AllX m rs UY ow l2 k2->AllX m rs UY ow (l++l2) (k++k2)
 |[],[],_,_,_,h2=>h2
 |_::_,_::_,_,_,h,h2=>⟨h.1,AllX.append h.2 h2⟩
 |[],_::_,_,_,h,_=>h.elim
 |_::_,[],_,_,h,_=>h.elim
section
variable {B:Nat} {S:Nat->Prop} {H:Q0} {m:Nat} {pos:Nat->Option Nat} {fz:List Fz} {μ μ1:Mu} {w:World} {n':Nat} {fk:List Nat} {im1:Tc}
structure se (H:Q0) (m:Nat) (pos:Nat->Option Nat) (fz:List Fz) (μ μ1:Mu) (w:World) (n':Nat) (fk:List Nat) (im1:Tc):Prop where
 ok:∃B S,Ok B S μ (Q4 H) w/\∀i,i<n'->S i
 under:Under H n'
 here:∀k j,pos k=some j->μ1 j=μ k
 K8:μ1 m=some im1
 fm:im1.fm=UD μ H w (Kr H n'++fk)
 sub:∀x∈fz,x.k∈fk
theorem cz:∀(l:List Fz) (k:Nat) (x:Fz),dz l k=some x->x∈l/\x.k=k
 |[],k,x,h=>by cases h
 |y::l,k,x,h=>by
  simp only[dz]at h;cases e:Lg y.k k with
  |true=>
   rw[e]at h;simp only[cond_true,YO]at h;subst h;exact⟨by simp,YE e⟩
  |false=>
   rw[e]at h;obtain⟨h1,h2⟩:=cz l k x h;exact⟨Ls _ h1,h2⟩
theorem zl(hu:Under H n'){r:Nat}(h:X1 (Q4 H r)=true):r<n':=by
 obtain⟨o,ho,_⟩:=Z8 h;exact hu.lt ho
theorem bQ(c:se H m pos fz μ μ1 w n' fk im1){r:Nat}(hr:X1 (Q4 H r)=true){im:Tc}(QV:μ r=some im){b:Nat}{x:Obj}(hx:im.fm b=some x):im1.fm b=some x:=by
 obtain⟨B,S,QR,hS⟩:=c.ok;rw[c.fm];have Xu:=zl c.under hr;exact eS QR (Lk _ (lA.2 ⟨Xu,hr⟩)) (hS r Xu) hr QV hx
theorem dE(c:se H m pos fz μ μ1 w n' fk im1){rs:List Nat}(WG:(rs.all fun r=>X1 (Q4 H r))=true){v v1 v':Value}(h:k8 rs v v1)(hv:VR μ v v'):TRv im1.fm v1 v':=by
 rcases h with ⟨h1,rfl⟩|⟨r,hr,rfl,_⟩
 ·rw[simple_eq h1 hv];exact .simple h1
 ·obtain⟨im,QV,ht⟩:=hv.top_inv;exact ht.mono fun b x hx=>bQ c (List.all_eq_true.1 WG r hr) QV hx
theorem Ju(c:se H m pos fz μ μ1 w n' fk im1){v v' t:Value}{L:List Prop}(h:DP H m pos fz v=some (t,L))(hL:Q3 L)(hv:VR μ v v'):VR μ1 t v':=by
 obtain⟨B,S,QR,hS⟩:=c.ok;have addr:∀{k j o:Nat} {a':Addr},pos k=some j->AR μ ⟨k,o,none⟩ a'->AR μ1 ⟨j,o,none⟩ a':=by
  rintro k j o a' hp ⟨im,h1,h2,h3⟩;exact⟨im,by rw[c.here k j hp];exact h1,rfl,h3⟩
 unfold DP at h;cases hs:simple v with
 |true=>
  rw[hs]at h;simp only[cond_true,YO,YR]at h;obtain⟨rfl,rfl⟩:=h;rw[simple_eq hs hv];exact ZD hs
 |false=>
  rw[hs]at h;simp only[cond_false]at h;split at h
  ·rename_i r t0;cases hg:(X1 (Q4 H r) && ZX t0)with
   |false=>rw[hg]at h;cases h
   |true=>
    rw[hg]at h;simp only[cond_true,YO,YR]at h;obtain⟨rfl,rfl⟩:=h;simp only[YB]at hg;obtain⟨im,QV,ht⟩:=VR.top_inv (r:=r) (t:=t0) hv;cases hp:pos r with
    |none=>exact .top hg.2 c.K8 (ht.mono fun b x hx=>bQ c hg.1 QV hx)
    |some j=>exact .top hg.2 (by rw[Option.getD_some,c.here r j hp];exact QV) ht
  ·rename_i k o;split at h
   ·rename_i j hj;simp only[YO,YR]at h;obtain⟨rfl,rfl⟩:=h;cases hv with
    |ptr har=>exact .ptr (addr hj har)
   ·split at h
    ·rename_i x cs ty hx hg;cases hr:(x.rs.all fun r=>X1 (Q4 H r))with
     |false=>rw[hr]at h;cases h
     |true=>
      rw[hr]at h;simp only[cond_true,YO,YR]at h;obtain⟨rfl,rfl⟩:=h;obtain⟨⟨h2,h3⟩,_⟩:=hL;obtain⟨hxm,hxk⟩:=cz _ _ _ hx;have hkf:k∈fk:=hxk ▸ c.sub x hxm;obtain⟨im,arr,QV,_,hoff,harr,hle,_,hcells⟩:=Sk QR (hS k (c.under.lt hg)) hg;cases hv with
      |ptr har=>
       obtain⟨im2,W4,_,rfl⟩:=har;rw[QV]at W4;cases W4;rw[hoff];refine .top rfl c.K8 (TRv.ptr (o:=0) (by rw[c.fm];exact(eT (Lr _ hkf) hg trivial QV).trans harr) (fun i hi=>by omega) fun i v v' hv ZK=> ?_);simp only[Lz]at ZK;have hi:i<cs.size:=by rw[h2];exact(Array.getElem?_eq_some_iff.1 hv).1
       obtain⟨u,hu1,hu2⟩:=hcells i cs[i] (by simp[hi]);rw[ZK]at hu1;cases hu1;exact dE c hr (h3 i _ _ (by simp[hi]) hv) hu2
    ·simp only[YO,YR]at h;obtain⟨rfl,rfl⟩:=h;cases hv;exact .U9 (fun b e=>by cases e) rfl rfl
  ·rename_i k o n z;split at h
   ·rename_i j hj;simp only[YO,YR]at h;obtain⟨rfl,rfl⟩:=h;cases hv with
    |slice har a b d=>
     refine .slice (addr hj har) a b fun hz im QV hrw hoff=>d hz im ?_ hrw hoff
     rw[<-c.here k j hj];exact QV
   ·split at h
    ·rename_i x cs ty hx hg;cases hr:(x.rs.all fun r=>X1 (Q4 H r))with
     |false=>rw[hr]at h;cases h
     |true=>
      rw[hr]at h;simp only[cond_true,YO,YR]at h;obtain⟨rfl,rfl⟩:=h;obtain⟨⟨h2,h3⟩,_⟩:=hL;obtain⟨hxm,hxk⟩:=cz _ _ _ hx;have hkf:k∈fk:=hxk ▸ c.sub x hxm;obtain⟨im,arr,QV,_,hoff,harr,hle,_,hcells⟩:=Sk QR (hS k (c.under.lt hg)) hg;cases hv with
      |slice har a b _=>
       obtain⟨im2,W4,_,rfl⟩:=har;rw[QV]at W4;cases W4;rw[hoff];refine .top rfl c.K8 (TRv.slice (o:=0) a b (by rw[c.fm];exact(eT (Lr _ hkf) hg trivial QV).trans harr) (fun i hi=>by omega) fun i v v' hv ZK=> ?_);simp only[Lz]at ZK;have hi:i<cs.size:=by rw[h2];exact(Array.getElem?_eq_some_iff.1 hv).1
       obtain⟨u,hu1,hu2⟩:=hcells i cs[i] (by simp[hi]);rw[ZK]at hu1;cases hu1;exact dE c hr (h3 i _ _ (by simp[hi]) hv) hu2
    ·simp only[YO,YR]at h;obtain⟨rfl,rfl⟩:=h;cases hv;exact .U9 (fun b e=>by cases e) rfl rfl
  ·rename_i r;split at h
   ·rename_i j hj;simp only[YO,YR]at h;obtain⟨rfl,rfl⟩:=h;cases hv with
    |map hr=>exact .map (by rw[c.here r j hj];exact hr)
   ·simp only[YO,YR]at h;obtain⟨rfl,rfl⟩:=h;cases hv;exact .U9 (fun b e=>by cases e) rfl rfl
  ·rename_i l;split at h
   ·rename_i j hj;simp only[YO,YR]at h;obtain⟨rfl,rfl⟩:=h;cases hv with
    |yield hl=>exact .yield (by rw[c.here l j hj];exact hl)
   ·simp only[YO,YR]at h;obtain⟨rfl,rfl⟩:=h;cases hv;exact .U9 (fun b e=>by cases e) rfl rfl
  ·simp only[YO,YR]at h;obtain⟨rfl,rfl⟩:=h;cases hv with
   |U9 a b c=>exact .U9 a b c
  ·cases h
theorem cA{f:Value->Option (Value×List Prop)}(hf:∀v v' t L,f v=some (t,L)->Q3 L->VR μ v v'->VR μ1 t v'):∀(l ts:List Value) (L:List Prop) (l':List Value),nL f l=some (ts,L)->Q3 L->l.length=l'.length->(∀(i:Nat) v v',l[i]? =some v->l'[i]? =some v'->VR μ v v')->
 ts.length=l'.length/\∀(i:Nat) v v',ts[i]? =some v->l'[i]? =some v'->VR μ1 v v'
 |[],ts,L,l',h,hL,hl,hv=>by
  simp only[nL,YO,YR]at h;obtain⟨rfl,rfl⟩:=h;exact⟨hl,fun i v v' h=>by simp at h⟩
 |v::l,ts,L,[],h,hL,hl,hv=>by simp at hl
 |v::l,ts,L,v'::l',h,hL,hl,hv=>by
  simp only[nL]at h;split at h
  ·rename_i t L1 h1;split at h
   ·rename_i ts2 L2 h2;simp only[YO,YR]at h;obtain⟨rfl,rfl⟩:=h;obtain⟨a,b⟩:=X2 hL;have k1:=hf v v' t L1 h1 a (hv 0 v v' rfl rfl);obtain⟨k2,k3⟩:=cA hf l ts2 L2 l' h2 b (by simpa using hl) fun i u u' x y=>hv (i+1) u u' (by simpa using x) (by simpa using y)
    refine⟨by simp[k2],fun i u u' x y=> ?_⟩;cases i with
    |zero=>
     simp only[Lq,YO]at x y;subst x y;exact k1
    |succ i=>exact k3 i u u' (by simpa using x) (by simpa using y)
   ·cases h
  ·cases h
theorem Uu(c:se H m pos fz μ μ1 w n' fk im1):∀(f:Nat) (v v' t:Value) (L:List Prop),rS H m pos fz f v=some (t,L)->Q3 L->VR μ v v'->VR μ1 t v'
 |0,v,v',t,L,h,hL,hv=>Ju c h hL hv
 |f+1,v,v',t,L,h,hL,hv=>by
  have arr:∀{xs xs':Array Value} {l:List Value} {L:List Prop},nL (rS H m pos fz f) xs.toList=some (l,L)->Q3 L->xs.size=xs'.size->(∀(i:Nat) v v',xs[i]? =some v->xs'[i]? =some v'->VR μ v v')->l.toArray.size=xs'.size/\∀(i:Nat) v v',l.toArray[i]? =some v->xs'[i]? =some v'->VR μ1 v v':=by
   intro xs xs' l L h hL hs hx;obtain⟨a,b⟩:=cA (fun v v' t L=>Uu c f v v' t L) xs.toList l L xs'.toList h hL (by simpa using hs) fun i v v' x y=>hx i v v' (by simpa using x) (by simpa using y)
   exact⟨by simpa using a,fun i v v' x y=>b i v v' (by simpa using x) (by simpa using y)⟩
  cases v with
  |agg xs=>
   simp only[rS]at h;split at h
   ·rename_i l L1 hl;simp only[YO,YR]at h;obtain⟨rfl,rfl⟩:=h;cases hv with
    |agg h1 h2=>exact .agg (arr hl hL h1 h2).1 (arr hl hL h1 h2).2
   ·cases h
  |tuple xs=>
   simp only[rS]at h;split at h
   ·rename_i l L1 hl;simp only[YO,YR]at h;obtain⟨rfl,rfl⟩:=h;cases hv with
    |tuple h1 h2=>exact .tuple (arr hl hL h1 h2).1 (arr hl hL h1 h2).2
   ·cases h
  |iface ty x=>
   simp only[rS]at h;split at h
   ·rename_i l L1 hl;simp only[YO,YR]at h;obtain⟨rfl,rfl⟩:=h;cases hv with
    |iface hv=>exact .iface (Uu c f _ _ _ _ hl hL hv)
   ·cases h
  |func fn xs ys=>
   cases fn with
   |func g=>
    simp only[rS]at h;split at h
    ·rename_i l L1 hl;split at h
     ·rename_i k L2 hk;simp only[YO,YR]at h;obtain⟨rfl,rfl⟩:=h;obtain⟨a,b⟩:=X2 hL;cases hv with
      |func h1 h2 h3 h4=>
       have k1:=arr hl a h1 h3;have k2:=arr hk b h2 h4;exact .func k1.1 k2.1 k1.2 k2.2
     ·cases h
    ·cases h
   |_=>exact Ju (fz:=fz) c (by exact h) hL hv
  |_=>exact Ju (fz:=fz) c (by exact h) hL hv
end
inductive KS where
 |auto
 |cells (rs:List Nat) (cs:Array Value)
 |same
 |dead
 |rows (rs:List (Nat×Nat)) (ks:List Nat) (ow:List (Nat×Nat)) (cs:Array Value)
def B1(pos:Nat->Option Nat)(p:Nat×Nat):Bool:=match pos p.1 with
 |some j=>Lg j p.2
 |none=>false
def BS(H:Q0)(pos:Nat->Option Nat)(fz:List Fz):List Nat->Option (List (Nat×Array Value)×List Prop)
 |[]=>some ([],[])
 |k::l=>match pos k,dz fz k,Q4 H k with
  |none,some x,some (.cells cs _ (0,0))=>bif x.rs.all fun r=>X1 (Q4 H r)then match BS H pos fz l with
   |some (UY,L)=>some ((k,x.cs)::UY,QC x.rs cs x.cs::L)
   |none=>none
    else none
  |_,_,_=>none
theorem rT{H:Q0}{m:Nat}{pos:Nat->Option Nat}{fz:List Fz}:∀(ks:List Nat) (UY:List (Nat×Array Value)) (L:List Prop),BS H pos fz ks=some (UY,L)->Q3 L->∀k cs n c,(k,cs)∈UY->∃L',DP H m pos fz (.slice (some ⟨k,0,none⟩) n c)=some (QF m (Xq n cs),L')/\Q3 L'
 |[],UY,L,h,hL,k,cs,n,c,hm=>by
  simp only[BS,YO,YR]at h;obtain⟨rfl,rfl⟩:=h;simp at hm
 |k0::l,UY,L,h,hL,k,cs,n,c,hm=>by
  simp only[BS]at h;split at h
  ·rename_i x cs0 t0 h1 h2 h3;cases hr:(x.rs.all fun r=>X1 (Q4 H r))with
   |false=>rw[hr]at h;cases h
   |true=>
    rw[hr]at h;simp only[cond_true]at h;split at h
    ·rename_i frs2 L2 h4;simp only[YO,YR]at h;obtain⟨rfl,rfl⟩:=h;rcases List.mem_cons.1 hm with e|e
     ·simp only[YR]at e;obtain⟨rfl,rfl⟩:=e;refine⟨[QC x.rs cs0 x.cs], ?_,hL.1,trivial⟩;unfold DP;have hs:simple (.slice (some ⟨k,0,none⟩) n c)=false:=rfl;rw[hs];simp only[cond_false,h1,h2,h3,hr,cond_true]
     ·exact rT l frs2 L2 h4 hL.2 k cs n c e
    ·cases h
  ·cases h
def ET(H:Q0)(m:Nat)(pos:Nat->Option Nat)(fz:List Fz):Option Obj->KS->Option (Obj×List Prop)
 |some (.cells cs t fl),.auto=>match nL (rS H m pos fz 3) cs.toList with
  |some (l,L)=>some (.cells l.toArray t fl,L)
  |none=>none
 |some (.cells cs t fl),.cells rs cs1=>bif rs.all fun r=>X1 (Q4 H r)then some (.cells cs1 t fl,[ZG m rs cs cs1])else none
 |some (.cells cs t fl),.rows rs ks ow cs1=>bif (rs.all fun p=>X1 (Q4 H p.1) && Lg ((pos p.1).getD m) p.2) && ow.all (B1 pos)then match BS H pos fz ks with
  |some (UY,L)=>some (.cells cs1 t fl,ZO m rs UY ow cs cs1::L)
  |none=>none
   else none
 |some (.map es Yy),.same=>some (.map es Yy,[pJ es])
 |some (.loop r),.auto=>match nL (rS H m pos fz 3) r.tmps.toList with
  |some (l,L)=>some (.loop {r with tmps:=l.toArray},L)
  |none=>none
 |some (.deferred ds),.same=>some (.deferred ds,[])
 |some (.pending _ _),.dead=>some (.pending #[] 0,[])
 |_,_=>none
theorem Jv{H:Q0}{m:Nat}{pos:Nat->Option Nat}{fz:List Fz}{μ μ1:Mu}{w:World}{n':Nat}{fk:List Nat}{im1:Tc}(c:se H m pos fz μ μ1 w n' fk im1){o:Option Obj}{s:KS}{o1:Obj}{L:List Prop}(h:ET H m pos fz o s=some (o1,L))(hL:Q3 L):
 (∃x,o=some x)/\¬ZQ o1/\(live o1->∃x,o=some x/\live x/\∀im,OR μ w im x->OR μ1 w im o1):=by
 have cells:∀{cs cs1:Array Value} {t:TypeId} {fl:Nat×Nat},cs1.size=cs.size->(∀(i:Nat) v v1 v',cs[i]? =some v->cs1[i]? =some v1->VR μ v v'->VR μ1 v1 v')->∀im,OR μ w im (.cells cs t fl)->OR μ1 w im (.cells cs1 t fl):=by
  intro cs cs1 t fl hs hc im ZJ;have get:∀(i:Nat) v1,cs1[i]? =some v1->∃v,cs[i]? =some v:=fun i v1 h=>by
   have:=(Array.getElem?_eq_some_iff.1 h).1;exact⟨cs[i],by simp[show i<cs.size by omega]⟩
  rcases ZJ with ⟨h1,h2,h3,arr,h4,h5,h6,h7⟩|⟨h1,h2⟩
  ·refine .inl ⟨h1,h2,h3,arr,h4,by omega,h6,fun i v1 hv1=> ?_⟩;obtain⟨v,hv⟩:=get i v1 hv1;obtain⟨v',a,b⟩:=h7 i v hv;exact⟨v',a,hc i v v1 v' hv hv1 b⟩
  ·refine .inr ⟨h1,fun i v1 hv1=> ?_⟩;obtain⟨v,hv⟩:=get i v1 hv1;obtain⟨v',a,b⟩:=h2 i v hv;exact⟨v',a,hc i v v1 v' hv hv1 b⟩
 unfold ET at h;split at h
 ·rename_i cs t fl;split at h
  ·rename_i l L1 hl;simp only[YO,YR]at h;obtain⟨rfl,rfl⟩:=h;have key:∀(l ts:List Value) (L:List Prop),nL (rS H m pos fz 3) l=some (ts,L)->Q3 L->ts.length=l.length/\∀(i:Nat) v v1 v',l[i]? =some v->ts[i]? =some v1->VR μ v v'->VR μ1 v1 v':=by
    intro l;induction l with
    |nil=>
     intro ts L h hL;simp only[nL,YO,YR]at h;obtain⟨rfl,rfl⟩:=h;exact⟨rfl,fun i v v1 v' h=>by simp at h⟩
    |cons v l ih=>
     intro ts L h hL;simp only[nL]at h;split at h
     ·rename_i t L1 h1;split at h
      ·rename_i ts2 L2 h2;simp only[YO,YR]at h;obtain⟨rfl,rfl⟩:=h;obtain⟨a,b⟩:=X2 hL;obtain⟨k1,k2⟩:=ih ts2 L2 h2 b;refine⟨by simp[k1],fun i u u1 u' x y hr=> ?_⟩;cases i with
       |zero=>
        simp only[Lq,YO]at x y;subst x y;exact Uu c 3 _ _ _ _ h1 a hr
       |succ i=>exact k2 i u u1 u' (by simpa using x) (by simpa using y) hr
      ·cases h
     ·cases h
   obtain⟨k1,k2⟩:=key _ _ _ hl hL;refine⟨⟨_,rfl⟩,id,fun _=> ?_⟩;exact⟨_,rfl,trivial,cells (by simpa using k1) fun i v v1 v' x y=>k2 i v v1 v' (by simpa using x) (by simpa using y)⟩
  ·cases h
 ·rename_i cs t fl rs cs1;cases hr:(rs.all fun r=>X1 (Q4 H r))with
  |false=>rw[hr]at h;cases h
  |true=>
   rw[hr]at h;simp only[cond_true,YO,YR]at h;obtain⟨rfl,rfl⟩:=h;obtain⟨⟨h1,h2⟩,_⟩:=hL;refine⟨⟨_,rfl⟩,id,fun _=> ?_⟩;refine⟨_,rfl,trivial,cells h1.symm fun i v v1 v' x y hv=> ?_⟩;rcases h2 i v v1 x y with ⟨hs,rfl⟩|⟨r,hrm,t,rfl,rfl,ht⟩
   ·rw[simple_eq hs hv];exact ZD hs
   ·obtain⟨im,QV,htr⟩:=hv.top_inv;exact .top ht c.K8 (htr.mono fun b x hx=>bQ c (List.all_eq_true.1 hr r hrm) QV hx)
 ·rename_i cs t fl rs ks ow cs1;cases hr0:((rs.all fun p=>X1 (Q4 H p.1) && Lg ((pos p.1).getD m) p.2) && ow.all (B1 pos))with
  |false=>rw[hr0]at h;cases h
  |true=>
   rw[hr0]at h;simp only[cond_true]at h;simp only[YB]at hr0;obtain⟨hr,how⟩:=hr0;split at h
   ·rename_i UY L2 hks;simp only[YO,YR]at h;obtain⟨rfl,rfl⟩:=h;obtain⟨hx,hL2⟩:=hL;obtain⟨h1,h2⟩:=AllX.get hx;refine⟨⟨_,rfl⟩,id,fun _=> ?_⟩;refine⟨_,rfl,trivial,cells (by simpa using h1) fun i v v1 v' x y hv=> ?_⟩;have hc:=h2 i v v1 (by simpa using x) (by simpa using y);cases hc with
    |simple hs=>rw[simple_eq hs hv];exact ZD hs
    |K8 hm ht=>
     rename_i r j t0;have:=List.all_eq_true.1 hr _ hm;simp only[YB]at this;have e:DP H m pos fz (QF r t0)=some (QF j t0,[]):=by
      have hs:simple (QF r t0)=false:=rfl;unfold DP;rw[hs];simp only[cond_false,QF,this.1,ht,Bool.and_self,cond_true,YE this.2]
     exact Ju c e trivial hv
    |own hm=>
     obtain⟨L',e,hL'⟩:=rT ks UY L2 hks hL2 _ _ _ _ hm;exact Ju c e hL' hv
    |nil=>
     cases hv;exact .top rfl c.K8 .nil
    |keep hm=>
     have hk:=List.all_eq_true.1 how _ hm;unfold B1 at hk;split at hk
     ·rename_i j0 hj0;have hk:=YE hk;have e:=c.here _ _ hj0;rw[hk]at e;cases hv with
      |slice har h1 h2 h3=>
       obtain⟨im,hi,_,rfl⟩:=har;refine .slice ⟨im,e.trans hi,rfl,rfl⟩ h1 h2 fun hs Z5 Xa=> ?_
       rw[e]at Xa;exact h3 hs Z5 Xa
     ·cases hk
   ·cases h
 ·rename_i es Yy;simp only[YO,YR]at h;obtain⟨rfl,rfl⟩:=h;obtain⟨hp,_⟩:=hL;refine⟨⟨_,rfl⟩,id,fun _=> ?_⟩;refine⟨_,rfl,trivial,fun im ZJ=> ?_⟩;obtain⟨h1,Uh,h2,h3,h4⟩:=ZJ;refine⟨h1,Uh,h2,h3,fun i e e' x y=> ?_⟩;obtain⟨p,q,r,s⟩:=h4 i e e' x y;have hs:=hp i e x;exact⟨p,q,r,by rw[J1 hs s];exact KI hs⟩
 ·rename_i r;split at h
  ·rename_i l L1 hl;simp only[YO,YR]at h;obtain⟨rfl,rfl⟩:=h;refine⟨⟨_,rfl⟩,id,fun _=> ?_⟩;refine⟨_,rfl,trivial,fun im ZJ=> ?_⟩;obtain⟨h1,tm,df,h2,h3⟩:=ZJ;obtain⟨a,b⟩:=cA (fun v v' t L=>Uu c 3 v v' t L) r.tmps.toList l L1 tm.toList hl hL (by simpa using h3.1) fun i v v' x y=>h3.2 i v v' (by simpa using x) (by simpa using y)
   exact⟨h1,tm,df,h2,by simpa using a,fun i v v' x y=>b i v v' (by simpa using x) (by simpa using y)⟩
  ·cases h
 ·rename_i ds;simp only[YO,YR]at h;obtain⟨rfl,rfl⟩:=h;exact⟨⟨_,rfl⟩,id,fun _=>⟨_,rfl,trivial,fun im ZJ=>ZJ⟩⟩
 ·simp only[YO,YR]at h;obtain⟨rfl,rfl⟩:=h;exact⟨⟨_,rfl⟩,id,fun hl=>hl.elim⟩
 ·cases h
end Go.CE
