/- TW 3: operations on trees. -/
import Derived.Test.YtncjjangllkokaaZRC08
set_option linter.all false
open Nat renaming beq->MQ,blt->MY,min->Nw,ble->Nr,le_refl->Nh,zero_add->Nj,lt_or_ge->Nm
open Array renaming getElem?_extract->NB,mem_of_getElem? ->Nq,getElem?_toList->MX
open Option renaming map_some->Nn
open List renaming length->MO,getElem?_append_right->MZ,range'->Ni,mem_append_left->MV,mem_append_right->Nd,mem_append->NG,range->MP,getElem?_cons_zero->Nb,mem_cons_of_mem->Nc
namespace Go.CE
open Go Go.RowKit

inductive Ql where
 |WM (h:Hint)
 |tidx (k:Nat) (es:Array Value)
 |tarr (k:Nat) (es:Array Value)
 |tslc (k m':Nat) (cs':Array Value)
 |tapp (cs':Array Value)
 |tapp0
 |tcpy (cs':Array Value)
 |pure (out:Value) (fz:List Fz)
 |pureK (out:Value) (fz:List Fz)
 |bin (v:Value)
 |call (keys:List Nat) (out:OO) (UM:Qm) (n':Nat) (W:List Nat)
 |eval (s:Rs)
 |wri (κ R:List Nat) (ps qs:List Bool) (out:OO) (outs news:List Obj)
def killL(H:Qm):List Nat->Qm
 |[]=>H
 |k::K=>Ta (killL H K) (some k)
def TJ:Option Obj->Bool
 |some (.cells _ _ (0,0))=>true
 |_=>false
def ya(P:Program)(T:Tm)(o:Oper):Option (Value×Nat):=match o.op with
 | .call c=>match c.callee with
   | .builtin .len=>match c.args.toList,c.argTypes.toList with
     |[x],[t]=>match Zi T x with
      |some v=>match jL v,J4 P t with
       |some (r,k,_),some (.slice _)=>some (.int .i64 k,r)
       |_,_=>none
      |none=>none
     |_,_=>none
   |_=>none
 | .fieldAddr s x f=>match Zi T x with
   |some v=>match tH v with
    |some (r,off,cs)=>match Wz P s f (.pointer (some ⟨0,off,none⟩))with
     |some (.pointer (some ⟨0,off',none⟩))=>some (Qv r (PH off' cs),r)
     |_=>none
    |none=>none
   |none=>none
 | .load t x=>match Zi T x with
   |some v=>match tH v with
    |some (r,off,cs)=>match KH P t cs off with
     |some v=>bif rX 4 v then some (Q5 r 4 v,r)else none
     |none=>none
    |none=>none
   |none=>none
 |_=>none
def KX:Value->Bool
 | .slice none 0 0| .chan (some 0)=>true
 |_=>false
def ao(P:Program)(T:Tm)(o:Oper):Option (Value×Nat×Nat×Array Value×TypeId×Nat×Nat×Value):=match o.op with
 | .call c=>match c.callee with
   | .builtin .append=>match c.args.toList,c.argTypes.toList with
     |[s,x],[t,t']=>match Zi T s,Zi T x with
      |some sv,some xv=>match jL xv,J4 P t with
       |some (r,k,cs),some (.slice e)=>match inf P e with
        |some i=>match i.zero,i.size with
         |some zv,z+1=>bif MQ t t' && KX sv && MQ zv.cells.size (z+1)then some (sv,r,k,cs,e,z+1,i.bytes,zv)else none
         |_,_=>none
        |none=>none
       |_,_=>none
      |_,_=>none
     |_,_=>none
   |_=>none
 |_=>none
def je(P:Program)(T:Tm)(o:Oper):Option (Nat×Nat×Nat×Nat×Nat×Array Value×Nat):=match o.op with
 | .call c=>match c.callee with
   | .builtin .copy=>match c.args.toList,c.argTypes.toList with
     |[s,x],[t,_]=>match Zi T s,Zi T x with
      |some (.slice (some ⟨b,off,none⟩) k _),some xv=>match jL xv,J4 P t with
       |some (r,m,cs2),some (.slice e)=>match WH P e with
        |some z=>some (b,off,k,r,m,cs2,z)
        |none=>none
       |_,_=>none
      |_,_=>none
     |_,_=>none
   |_=>none
 |_=>none
def o4(P:Program)(op:BinOp)(t:TypeId)(a b v:Value):Prop:=∀(x y:Operand) (w:World),(do eqGuard op t x y a b;binOp op t a b:Sem Value).run P w=.ok v w
def M3(P:Program)(F:FuncId->Bool)(J:World->Prop)(B:Lo)(T:Tm)(o:Oper)(H:Qm)(n:Nat):Option Ql->Option Told
 |none=>match ya P T o with
  |some (v,r)=>bif MY r n && XE (Qs H r)then some ⟨⟨.ret v,H,n,[r],[]⟩,none⟩else none
  |none=>LW P F B T o H n none
 |some (.WM h)=>LW P F B T o H n (some h)
 |some (.tidx k es)=>match o.op with
  | .indexAddr t x i=>match Zi T x,Zi T i with
    |some v,some (.int _ q)=>match jL v,J4 P t with
     |some (r,m,cs),some (.slice e)=>match WH P e with
      |some z=>bif MY r n && XE (Qs H r)then some ⟨⟨.ret (Qv r (PH 0 es)),H,n,[r],[]⟩,some (q=(k:Int)/\k<m/\cs.extract (k*z) (k*z+z)=es)⟩else none
      |none=>none
     |_,_=>none
    |_,_=>none
  |_=>none
 |some (.tarr k es)=>match o.op with
  | .indexAddr t x i=>match Zi T x,Zi T i with
    |some v,some (.int _ q)=>match tH v,J4 P t with
     |some (r,off,cs),some (.array m e)=>match WH P e with
      |some z=>bif MY r n && XE (Qs H r)then some ⟨⟨.ret (Qv r (PH 0 es)),H,n,[r],[]⟩,some (q=(k:Int)/\k<m/\cs.extract (off+k*z) (off+k*z+z)=es)⟩else none
      |none=>none
     |_,_=>none
    |_,_=>none
  |_=>none
 |some (.tslc k m' cs')=>match o.op with
  | .slice t x (some lo) none none=>match Zi T x,Zi T lo with
    |some v,some (.int _ q)=>match jL v,J4 P t with
     |some (r,m,cs),some (.slice e)=>match WH P e with
      |some z=>bif MY r n && XE (Qs H r)then some ⟨⟨.ret (Qv r (QJ m' cs')),H,n,[r],[]⟩,some (q=(k:Int)/\k<m/\m'=m-k/\cs.extract (k*z) cs.size=cs')⟩else none
      |none=>none
     |_,_=>none
    |_,_=>none
  |_=>none
 |some (.tapp cs')=>match ao P T o with
  |some (_,r,k,cs,e,z,by',_)=>bif MY r n && XE (Qs H r)then
   some ⟨⟨.ret (.slice (some ⟨n,0,none⟩) k z),(n,.cells cs' e (0,0))::H,n+1,[r],[]⟩,some (0<k/\k<=maxLen/\k*by'<=140737488355328/\cs.size=k*z/\cs.map (Wn r)=cs'/\(cs.all fun v=>simple v || Vo v)=true/\ones cs'=true)⟩else none
  |none=>none
 |some .tapp0=>match ao P T o with
  |some (sv,r,k,_,_,_,_,_)=>bif MY r n && XE (Qs H r)then some ⟨⟨.ret sv,H,n,[r],[]⟩,some (k=0)⟩else none
  |none=>none
 |some (.tcpy cs')=>match je P T o with
  |some (b,off,k,r,m,cs2,z)=>match Qs H b with
   |some (.cells cs te (0,0))=>bif MY r n && XE (Qs H r) && MY b n then
    some ⟨⟨.ret (.int .i64 (Nw m k)),VE H b (.cells cs' te (0,0)),n,[b,r],[b]⟩,some (0<m/\off+Nw m k*z<=cs.size/\Nw m k*z<=cs2.size/\(cs2.all fun v=>simple v || Vo v)=true/\ones ((cs2.extract 0 (Nw m k*z)).map (Wn r))=true/\splice cs off ((cs2.extract 0 (Nw m k*z)).map (Wn r))=cs')⟩else none
   |_=>none
  |none=>none
 |some (.eval s)=>some ⟨s,some (bh P F X7 (fun _ _ _=>none) T o H n=some s)⟩
 |some (.bin v)=>match o.op with
  | .binOp op t x y _=>match Zi T x,Zi T y with
    |some a,some b=>bif af a && af b && af v then some ⟨⟨.ret v,H,n,[],[]⟩,some (o4 P op t a b v)⟩else none
    |_,_=>none
  |_=>none
 |some (.call keys out UM n' W)=>match o.op with
  | .call _=>match Pj P F (Zi T) o H n with
    |some ⟨.enter g args,H1,n1,R,W1⟩=>bif MQ n1 n && W1.isEmpty then
     match Wt P g args with
     |some c1=>some ⟨⟨out,UM++H1,n',R++keys,W⟩,some (FJ P B c1 H1 n out (UM++H1) n' keys W)⟩
     |none=>none
      else none
    |some ⟨.round l fn tm a b,H1,n1,R,W1⟩=>bif MQ n1 n && W1.isEmpty && Nr tm.size 16000 then some ⟨⟨out,UM++H1,n',R++keys,W⟩,some (FJ P B ⟨fn,ofList tm.size tm.toList,[.code a,.beginRound,.code b],[],.run,some l⟩ H1 n out (UM++H1) n' keys W)⟩else none
    |_=>none
  |_=>none
 |some (.pure out fz)=>match o.op with
  | .call _=>match Pj P F (Zi T) o H n with
    |some ⟨.enter g args,H1,n1,R,W1⟩=>bif MQ n1 n && W1.isEmpty then
     match Ki (Ub H1 fz 3) args.toList with
     |some (ts,R2,L)=>bif R2.all fun i=>MY i n then
      bif Tw 2 out then some ⟨⟨.ret out,H1,n,R++R2,[]⟩,some (Q3 L/\Q0 P J g ts.toArray out)⟩
      else bif (R2.all fun i=>XE (Qs H1 i)) && rX 4 out then some ⟨⟨.ret (Q5 n 4 out),(n,Xo)::H1,n+1,R++R2,[]⟩,some (Q3 L/\Q0 P J g ts.toArray out)⟩else none
       else none
     |none=>none
      else none
    |_=>none
  |_=>none
 |some (.pureK out fz)=>match o.op with
  | .call _=>match Pj P F (Zi T) o H n with
    |some ⟨.enter g args,H1,n1,R,W1⟩=>bif MQ n1 n && W1.isEmpty then
     match Ki (Ub H1 fz 3) args.toList with
     |some (ts,R2,L)=>bif (R2.all fun i=>MY i n) && (R2.all fun i=>XE (Qs H1 i) || TJ (Qs H1 i)) && rX 4 out then
      some ⟨⟨.ret (Q5 n 4 out),(n,Xo)::killL H1 (R2.filter fun i=>TJ (Qs H1 i)),n+1,R++R2,R2.filter fun i=>TJ (Qs H1 i)⟩,some (Q3 L/\Q0 P J g ts.toArray out)⟩else none
     |none=>none
      else none
    |_=>none
  |_=>none
 |some (.wri κ R ps qs out outs news)=>match o.op with
  | .call _=>match Pj P F (Zi T) o H n with
    |some ⟨.enter g args,H1,n1,R0,W1⟩=>bif MQ n1 n && W1.isEmpty then
     match Ix H1 n κ R ps qs args out outs news with
     |some (as,bs,o1,UM,L)=>some ⟨⟨o1,UM++H1,n+1+news.length,R0++(κ++R),κ⟩,some (Q3 L/\WriC P J g as.toArray bs out outs news)⟩
     |none=>none
      else none
    |_=>none
  |_=>none
section
variable {P:Program} {F:FuncId->Bool} {J:World->Prop} {B:Lo} {T:Tm} {o:Oper} {H:Qm} {n:Nat}
theorem JZ(hF:∀g,F g=true->Q8 P g=true){c:Call}(Zw:o.op=.call c)(hu:Under H n){g:FuncId}{args:Array Value}{H1 H2:Qm}{R keys W:List Nat}{n':Nat}{out:OO}(hcr:Pj P F (Zi T) o H n=some ⟨.enter g args,H1,n,R,[]⟩)(hcj:o3 P B g args H1 n out H2 n' keys W):
 Sm P B o (Zi T) H n out H2 n' (R++keys) W/\Shape H n H2 n' (R++keys) W:=by
 have Ws:WE P B (fun g' a' H' m'=>open Classical in if g'=g/\a'=args/\H'=H1/\m'=n then some ⟨out,H2,n',keys,W⟩else none):=by
  intro g' a' H' m' s _ h;simp only at h;split at h
  ·rename_i q;obtain⟨rfl,rfl,rfl,rfl⟩:=q;simp only[YO]at h;subst h;exact hcj
  ·cases h
 have:=KW hF Jh Ws hu (T:=T) (o:=o) (s:=⟨out,H2,n',R++keys,W⟩) (by simp[bh,Zw,hcr]);exact this
theorem FJ.callJ{g:FuncId}{args:Array Value}{c0:CF}{H':Qm}{n':Nat}{R W:List Nat}{out:OO}(hc:Wt P g args=some c0)(h:FJ P B c0 H n out H' n' R W):o3 P B g args H n out H' n' R W:=
 ⟨h.shape,fun S μ w args' cs QF hB hS hf ha hR=>h.sem S μ w (Frame.enter P g args' .normal) cs QF hB hS hf (Ux hc ha) hR⟩
theorem FJ.recS{c:CF}{H1:Qm}{n n':Nat}{out:OO}{UM:Qm}{W keys:List Nat}(h:FJ P B c H1 n out (UM++H1) n' keys W):fX P B (S5 c H1 n ⟨out,UM++H1,n',keys,W⟩):=by
 intro c' H' m' s _ hs;unfold S5 at hs;split at hs
 ·rename_i q;obtain⟨rfl,rfl,rfl⟩:=q;simp only[YO]at hs;subst hs;exact h
 ·cases hs
theorem bC(hJ:∀w,B.has w->J w){g:FuncId}{args:Array Value}{fz:List Fz}{H1:Qm}{ts:List Value}{R2:List Nat}{L:List Prop}{out:Value}(ZQ:Ki (Ub H1 fz 3) args.toList=some (ts,R2,L))(hL:Q3 L)(hp:Q0 P J g ts.toArray out)
 {S:Nat->Prop} {μ:Mu} {w:World} {args':Array Value} (QF:Ok B.B S μ (Qs H1) w) (hB:B.has w) (hv:VRs μ args args') (hS:∀r∈R2,S r):Calls P g args' w fun e w'=> ∃v',e=.returned v'/\Below w.heap.size w w'/\TRv (PS (KJ μ H1 w R2) w w') out v':=by
 obtain⟨a,b⟩:=S1 (fun v v' t R L h1 h2 h3 h4=>K9 QF 3 v v' t R L h1 h2 h3 h4) args.toList ts R2 L args'.toList ZQ hL hS (by simpa using hv.1) fun i v v' x y=>hv.2 i v v' (by simpa using x) (by simpa using y)
 exact hp (KJ μ H1 w R2) w args' (hJ w hB) (fun b x h=>WW h) ⟨by simpa using a,fun i v v' x y=>b i v v' (by simpa using x) (by simpa using y)⟩
theorem yr(hJ:∀w,B.has w->J w){g:FuncId}{args:Array Value}{fz:List Fz}{H1:Qm}{ts:List Value}{R2:List Nat}{L:List Prop}{out:Value}(ZQ:Ki (Ub H1 fz 3) args.toList=some (ts,R2,L))(hL:Q3 L)(hp:Q0 P J g ts.toArray out)(hpl:Tw 2 out=true)(X2:(R2.all fun i=>MY i n)=true):
 o3 P B g args H1 n (.ret out) H1 n R2 []:=by
 refine⟨Shape.same _ _ _,fun S μ w args' cs QF hB hS _ ha hR=> ?_⟩;obtain⟨e,w1,fr,⟨v',rfl,hb,ht⟩,hc,hf,hl⟩:=bC hJ ZQ hL hp QF hB ha (fun r hr=>hR r hr (YL (List.all_eq_true.1 X2 r hr))) cs;refine⟨.ret v',w1,μ,Post.ofBelow QF hb,.ret (ft 2 out v' hpl ht),fun _=>⟨fr,hc,by rw[hf];rfl,hl⟩,fun c cs' e=> ?_⟩;subst e;exact Steps.trans hc (.one (step_leave_returned hl))
theorem uI(hJ:∀w,B.has w->J w){g:FuncId}{args:Array Value}{fz:List Fz}{H1:Qm}{ts:List Value}{R2:List Nat}{L:List Prop}{out:Value}(ZQ:Ki (Ub H1 fz 3) args.toList=some (ts,R2,L))(hL:Q3 L)(hp:Q0 P J g ts.toArray out)(X2:(R2.all fun i=>MY i n)=true)
 (WZ:(R2.all fun i=>XE (Qs H1 i))=true) (ho:rX 4 out=true):o3 P B g args H1 n (.ret (Q5 n 4 out)) ((n,Xo)::H1) (n+1) R2 []:=by
 refine⟨Shape.new _ _ _ _,fun S μ w args' cs QF hB hS hf ha hR=> ?_⟩;have hSR:∀r∈R2,S r:=fun r hr=>hR r hr (YL (List.all_eq_true.1 X2 r hr))
 obtain⟨e,w1,fr,⟨v',rfl,hb,ht⟩,hc,hfn,hl⟩:=bC hJ ZQ hL hp QF hB ha hSR cs;have hfm:∀b x,PS (KJ μ H1 w R2) w w1 b=some x->w1.heap[b]? =some x:=by
  intro b x h;unfold PS at h;split at h
  ·rename_i X2;rw[hb.block b X2];exact WW h
  ·exact h
 have XO:=Post.region (n:=n) QF hS (hf n (Nh _) (by omega)) hb (PS (KJ μ H1 w R2) w w1) hfm fun b x h=>by
  unfold PS at h;split at h
  ·refine .inr ?_;have hw:=WW h;unfold KJ at h;split at h
   ·rename_i hc;obtain⟨i,hi,o,im,ho,QK,UF⟩:=hc;obtain⟨o',Kb,hr'⟩:=ZU (List.all_eq_true.1 WZ i hi);rw[ho]at Kb;cases Kb;rcases UF with ⟨_,KG⟩|⟨hl,_⟩
    ·cases hx:im.fm b with
     |none=>exact absurd hx KG
     |some y=>
      obtain⟨ZC,QW,hf'⟩:=QF.Yg i o (hSR i hi) ho hr';rw[QK]at QW;cases QW;have:=hf' b y hx;rw[hw]at this;cases this;exact⟨i,im,o,hSR i hi,ho,hr',QK,hx⟩
    ·exact absurd hl (by cases o <;> first|exact id|exact hr'.elim)
   ·cases h
  ·rename_i hge;exact .inl (Nat.le_of_not_lt hge)
 refine⟨.ret v',w1,_,XO,.ret (Rg XC 4 out v' ho ht),fun _=>⟨fr,hc,by rw[hfn];rfl,hl⟩,fun c cs' e=> ?_⟩;subst e;exact Steps.trans hc (.one (step_leave_returned hl))
theorem KZ(H:Qm)(K:List Nat)(i:Nat):Qs (killL H K) i=if i∈K/\(Qs H i).isSome then some (.pending #[] 0)else Qs H i:=by
 induction K with
 |nil=>simp[killL]
 |cons k K ih=>
  simp only[killL];rw[Uw,ih];by_cases e:i=k
  ·subst e;cases hs:Qs H i with
   |none=>simp
   |some o=>by_cases hm:i∈K <;> simp[hm]
  ·simp[e]
theorem Post.regionK{B n:Nat}{S:Nat->Prop}{μ:Mu}{H:Qm}{w w':World}(K:List Nat)(QF:Ok B S μ (Qs H) w)(hS:∀i,S i->i<n)(hf:μ n=none)(SN:Below w.heap.size w w')(hK:∀k∈K,S k/\(∃o,Qs H k=some o/\live o)/\∃im,μ k=some im/\im.rw=true)
 (fm:Nat->Option Obj) (hfm:∀b x,fm b=some x->w'.heap[b]? =some x)
 (XK:∀b x,fm b=some x->w.heap.size<=b\/(∃k Uj ko,S k/\Qs H k=some ko/\Wv ko/\μ k=some Uj/\Uj.fm b=some x)\/∃k∈K,∃im,μ k=some im/\im.Z1=b):Post B S n (n+1) K μ (upd μ n ⟨0,0,0,false,fm⟩) H ((n,Xo)::killL H K) w w':=by
 have hp:=Post.ofBelow (n:=n) QF SN;have KG:∀i,S i->i≠n:=fun i hi=>by have:=hS i hi;omega
 have So:∀i,S i->upd μ n ⟨0,0,0,false,fm⟩ i=μ i:=fun i hi=>by simp[upd,KG i hi]
 have Zk:∀i,S i->Qs ((n,Xo)::killL H K) i=Qs (killL H K) i:=fun i hi=>by rw[Xe,if_neg (KG i hi)]
 have hgl:∀i o,S i->Qs ((n,Xo)::killL H K) i=some o->live o\/Wv o->Qs H i=some o/\(live o->i ∉ K):=fun i o hi ho hl=>by
  rw[Zk i hi,KZ]at ho;split at ho
  ·cases ho;exact(hl.elim id id).elim
  ·rename_i hn;exact⟨ho,fun _ hm=>hn ⟨hm,by rw[ho];rfl⟩⟩
 have K5:Qs ((n,Xo)::killL H K) n=some Xo:=by rw[Xe,if_pos rfl]
 have isn:∀i,(n<=i/\i<n+1)->i=n:=fun i hi=>by omega
 refine⟨⟨fun i o hi ho hl=> ?_,fun i o im hi ho hl QK=> ?_,fun i j oi oj a b hi hj P4 Wl Wj P2 Uk ha hb hra K4=> ?_,fun i o hi ho hr=> ?_,fun i j oi oj a b x hi hj Wl Wj YG Uk ha hb K4 hx=> ?_⟩,by omega,fun i hi=> ?_,fun i hi hw=> ?_,SN.size,fun b hb _=>SN.block b hb,fun i hi _=>hK i hi,
  fun i im o h1 h2 ho hl QK=> ?_,fun i im o hi ho hr QK b x hx=> ?_,SN.os,SN.tape,SN.output⟩
 ·rcases hi with hi|hi
  ·have ho:=(hgl i o hi ho (.inl hl)).1;obtain⟨im,QK,hr⟩:=hp.ok.rel i o (.inl hi) ho hl;exact⟨im,by rw[So i hi];exact QK,hr.keep (K7 hf) rfl⟩
  ·rw[isn i hi,K5]at ho;cases ho;exact hl.elim
 ·rcases hi with hi|hi
  ·have ho:=(hgl i o hi ho (.inl hl)).1;rw[So i hi]at QK;exact hp.ok.low i o im (.inl hi) ho hl QK
  ·rw[isn i hi,K5]at ho;cases ho;exact hl.elim
 ·rcases hi with hi|hi
  ·rcases hj with hj|hj
   ·have Wl:=(hgl i oi hi Wl (.inl P2)).1;have Wj:=(hgl j oj hj Wj (.inl Uk)).1;rw[So i hi]at ha;rw[So j hj]at hb;exact QF.inj i j oi oj a b hi hj P4 Wl Wj P2 Uk ha hb hra K4
   ·rw[isn j hj,K5]at Wj;cases Wj;exact Uk.elim
  ·rw[isn i hi,K5]at Wl;cases Wl;exact P2.elim
 ·rcases hi with hi|hi
  ·have ho:=(hgl i o hi ho (.inr hr)).1;obtain⟨im,QK,h⟩:=hp.ok.Yg i o (.inl hi) ho hr;exact⟨im,by rw[So i hi];exact QK,h⟩
  ·rw[isn i hi];exact⟨_,XC,hfm⟩
 ·have hjS:S j:=hj.elim id fun h=>by rw[isn j h,K5]at Wj;cases Wj;exact Uk.elim
  obtain⟨Wj,hjK⟩:=hgl j oj hjS Wj (.inl Uk);rw[So j hjS]at hb;rcases hi with hi|hi
  ·have Wl:=(hgl i oi hi Wl (.inr YG)).1;rw[So i hi]at ha;exact QF.sep i j oi oj a b x hi hjS Wl Wj YG Uk ha hb K4 hx
  ·rw[isn i hi,XC]at ha;cases ha;rcases XK _ _ hx with h|⟨k,Uj,ko,h1,h2,h3,h4,h5⟩|⟨k,hk,Uj,h1,h2⟩
   ·have:=(QF.low j oj b hjS Wj Uk hb).1;omega
   ·exact QF.sep k j ko oj Uj b x h1 hjS h2 Wj h3 Uk h4 hb K4 h5
   ·obtain⟨k1,⟨ko,k2,k3⟩,kim',k4,k5⟩:=hK k hk;rw[h1]at k4;cases k4;have hkj:k≠j:=fun e=>hjK Uk (e ▸ hk)
    exact QF.inj k j ko oj Uj b k1 hjS hkj k2 Wj k3 Uk h1 hb k5 K4 h2
 ·simp only[upd];rw[if_neg (by omega)]
 ·rw[Xe,if_neg (by omega),KZ,if_neg (fun h=>hw h.1)]
 ·rw[isn i ⟨h1,h2⟩,K5]at ho;cases ho;exact hl.elim
 ·rcases hi with hi|hi
  ·have P3:=isn i hi;subst P3;rw[XC]at QK;cases QK;rcases XK b x hx with h|⟨k,Uj,ko,h1,h2⟩|⟨k,hk,Uj,h1,h2⟩
   ·exact .inl h
   ·exact .inr (.inl ⟨k,Uj,ko,h1,hS k h1,h2⟩)
   ·refine .inr (.inr ⟨k,hk,hS k (hK k hk).1,⟨Uj,h1,h2⟩,fun o' Kb=> ?_⟩);have hks:=(hK k hk).1;obtain⟨ko,k2,_⟩:=(hK k hk).2.1;rw[Zk k hks,KZ,if_pos ⟨hk,by rw[k2];rfl⟩]at Kb;cases Kb;exact id
  ·obtain⟨hiK,P3⟩:=hi;have hks:=(hK i hiK).1;obtain⟨ko,k2,_⟩:=(hK i hiK).2.1;rw[Zk i hks,KZ,if_pos ⟨hiK,by rw[k2];rfl⟩]at ho;cases ho;exact hr.elim
theorem Shape.killL{H:Qm}{n:Nat}{K R:List Nat}(o:Obj)(hK:∀k∈K,k<n)(hs:∀k∈K,k∈R):Shape H n ((n,o)::killL H K) (n+1) R K:=by
 refine⟨by omega,fun i hi hw=> ?_,fun i hi=> ?_,hs,fun i hi=>by have:=hK i hi;omega⟩
 ·rw[Xe,if_neg (by omega),KZ,if_neg (fun h=>hw h.1)]
 ·rw[Xe,if_neg (by omega),KZ,if_neg (fun h=>by have:=hK i h.1;omega)]
theorem yT{o:Option Obj}(h:TJ o=true):∃cs t,o=some (.cells cs t (0,0)):=by
 unfold TJ at h;split at h
 ·exact⟨_,_,rfl⟩
 ·cases h
theorem r9(hJ:∀w,B.has w->J w){g:FuncId}{args:Array Value}{fz:List Fz}{H1:Qm}{ts:List Value}{R2:List Nat}{L:List Prop}{out:Value}(ZQ:Ki (Ub H1 fz 3) args.toList=some (ts,R2,L))(hL:Q3 L)(hp:Q0 P J g ts.toArray out)(X2:(R2.all fun i=>MY i n)=true)
 (WZ:(R2.all fun i=>XE (Qs H1 i) || TJ (Qs H1 i))=true) (ho:rX 4 out=true):o3 P B g args H1 n (.ret (Q5 n 4 out)) ((n,Xo)::killL H1 (R2.filter fun i=>TJ (Qs H1 i))) (n+1) R2 (R2.filter fun i=>TJ (Qs H1 i)):=by
 have hltn:∀r∈R2,r<n:=fun r hr=>YL (List.all_eq_true.1 X2 r hr)
 refine⟨Shape.killL _ (fun k hk=>hltn k ((List.mem_filter.1 hk).1)) (fun k hk=>(List.mem_filter.1 hk).1),fun S μ w args' cs QF hB hS hf ha hR=> ?_⟩;have hSR:∀r∈R2,S r:=fun r hr=>hR r hr (hltn r hr)
 obtain⟨e,w1,fr,⟨v',rfl,hb,ht⟩,hc,hfn,hl⟩:=bC hJ ZQ hL hp QF hB ha hSR cs;have hfm:∀b x,PS (KJ μ H1 w R2) w w1 b=some x->w1.heap[b]? =some x:=by
  intro b x h;unfold PS at h;split at h
  ·rename_i X2;rw[hb.block b X2];exact WW h
  ·exact h
 have hK:∀k∈R2.filter fun i=>TJ (Qs H1 i),S k/\(∃o,Qs H1 k=some o/\live o)/\∃im,μ k=some im/\im.rw=true:=fun k hk=>by
  obtain⟨h1,h2⟩:=List.mem_filter.1 hk;obtain⟨cs0,t0,h3⟩:=yT h2;obtain⟨im,QK,Wd⟩:=QF.rel k _ (hSR k h1) h3 trivial;refine⟨hSR k h1,⟨_,h3,trivial⟩,im,QK, ?_⟩;rcases Wd with ⟨_,h,_⟩|⟨h,_⟩
  ·exact h
  ·exact absurd rfl h
 have XO:=Post.regionK (n:=n) (R2.filter fun i=>TJ (Qs H1 i)) QF hS (hf n (Nh _) (by omega)) hb hK (PS (KJ μ H1 w R2) w w1) hfm fun b x h=>by
  unfold PS at h;split at h
  ·refine .inr ?_;have hw:=WW h;unfold KJ at h;split at h
   ·rename_i hc;obtain⟨i,hi,o,im,ho,QK,UF⟩:=hc;have Wd:=List.all_eq_true.1 WZ i hi;rw[Bool.or_eq_true]at Wd;rcases UF with ⟨hr',KG⟩|⟨hl,hblk⟩
    ·left;cases hx:im.fm b with
     |none=>exact absurd hx KG
     |some y=>
      obtain⟨ZC,QW,hf'⟩:=QF.Yg i o (hSR i hi) ho hr';rw[QK]at QW;cases QW;have:=hf' b y hx;rw[hw]at this;cases this;exact⟨i,im,o,hSR i hi,ho,hr',QK,hx⟩
    ·right;rcases Wd with Wd|Wd
     ·obtain⟨o',Kb,hr'⟩:=ZU Wd;rw[ho]at Kb;cases Kb;exact absurd hl (by cases o <;> first|exact id|exact hr'.elim)
     ·exact⟨i,List.mem_filter.2 ⟨hi,Wd⟩,im,QK,hblk⟩
   ·cases h
  ·rename_i hge;exact .inl (Nat.le_of_not_lt hge)
 refine⟨.ret v',w1,_,XO,.ret (Rg XC 4 out v' ho ht),fun _=>⟨fr,hc,by rw[hfn];rfl,hl⟩,fun c cs' e=> ?_⟩;subst e;exact Steps.trans hc (.one (step_leave_returned hl))
theorem Yd{r:Nat}{v:Value}(X2:r<n)(WZ:XE (Qs H r)=true)(hd:∀c,o.op≠.defer c)
 (h:∀(μ:Mu) (w:World) (ρ:Operand->Value) (im:bZ),μ r=some im->(∀b x,im.fm b=some x->w.heap[b]? =some x)->(∀x∈o.op.operands,∀v,Zi T x=some v->VR μ v (ρ x))->∃v',(execOp ρ o).run P w=.ok (.value v') w/\VR μ v v'):
 Sm P B o (Zi T) H n (.ret v) H n [r] []:=fun S μ w fr _ _ _ _ _ QF hB _ _ Zb hR hm ht ho hw=>by
 obtain⟨x,hx,hr⟩:=ZU WZ;obtain⟨im,QK,hf⟩:=QF.Yg r x (hR r (by simp) X2) hx hr;obtain⟨v',h1,h2⟩:=h μ w fr.eval im QK hf Zb;exact⟨.ret v',w,μ,Post.refl QF,.ret h2,JM hm ht ho hw hd h1⟩
theorem zF{fm:Nat->Option Obj}{w:World}(hw:∀b x,fm b=some x->w.heap[b]? =some x){off:Nat}{cs:Array Value}{u v:Value}{t:TypeId}(hu:TRv fm (PH off cs) u)(h:KH P t cs off=some v):∃v',(Instr.loadAt t u).run P w=.ok v' w/\TRv fm v v':=by
 obtain⟨b,o,arr,ty,fl,rfl,h1,h2,h3⟩:=hu.ptr_inv;have hb:=hw _ _ h1;have hcell:∀i,i<cs.size->∃v',w.cell? ⟨b,o+i,none⟩=some v'/\∀v,cs[i]? =some v->TRv fm v v':=by
  intro i hi;have X2:=h2 i hi;exact⟨arr[o+i],by simp[World.cell?,hb,X2],fun v hv=>h3 i v _ hv (by simp[X2])⟩
 unfold KH at h;cases hag:ov P t with
 |none=>rw[hag]at h;cases h
 |some g=>
  rw[hag]at h;cases g with
  |true=>
   cases hz:WH P t with
   |none=>rw[hz]at h;cases h
   |some z=>
    rw[hz]at h;dsimp only at h;cases hb2:Nr (off+z) cs.size with
    |false=>rw[hb2]at h;cases h
    |true=>
     rw[hb2]at h;simp only[cond_true,YO]at h;subst h;have hle:=YL hb2;have hr:=run_loadCells (P:=P) w ⟨b,o+off,none⟩ z (fun j=>(w.cell? ⟨b,o+(off+j),none⟩).getD undef) (fun j hj=>by
      obtain⟨v',Wq,_⟩:=hcell (off+j) (by omega);rw[WL,show o+off+j=o+(off+j)by omega,Wq];rfl)
     refine⟨.agg _,by simp[Instr.loadAt,Instr.sureAddr,loadVar,UX hag,Zx hz,hr];rfl,.agg (by simp;omega) fun i v v' hv Wq=> ?_⟩;have hi:i<z:=by
      have:=(Array.getElem?_eq_some_iff.1 hv).1;simp at this;omega
     obtain⟨u,h4,h5⟩:=hcell (off+i) (by omega);simp[hi,h4]at Wq;subst Wq;refine h5 v ?_;rw[NB]at hv;split at hv
     ·exact hv
     ·cases hv
  |false=>
   simp only at h;have hi:=(Array.getElem?_eq_some_iff.1 h).1;obtain⟨v',Wq,ht⟩:=hcell off hi;exact⟨v',by simp[Instr.loadAt,Instr.sureAddr,loadVar,UX hag,run_load,Wq],ht v h⟩
theorem rl{v:Value}{r:Nat}(e:ya P T o=some (v,r))(X2:r<n)(WZ:XE (Qs H r)=true):Sm P B o (Zi T) H n (.ret v) H n [r] []:=by
 unfold ya at e;split at e
 ·rename_i c Zw;split at e
  ·rename_i hc;split at e
   ·rename_i x t ha ht;split at e
    ·rename_i u hx;split at e
     ·rename_i r0 k cs el htop hue;rw[ZB]at hue;simp only[YO,YR]at e;obtain⟨rfl,rfl⟩:=e;refine Yd X2 WZ (fun c h=>by rw[Zw]at h;cases h) fun μ w ρ im QK hf Zb=> ?_
      have ea:c.args=#[x]:=by rw[<-ha]
      have et:c.argTypes=#[t]:=by rw[<-ht]
      have hv:=Zb x (by simp[Zw,Op.operands,Call.operands,hc,ea]) _ hx;rw[Th htop]at hv;obtain⟨ZC,_,htr⟩:=hv.top_inv;have hlen:∃a c,ρ x=.slice a k c:=by
       rcases htr.slice_inv with ⟨b,o',c',arr,t',fl,h1,_⟩|⟨rfl,_,a',c',h1,_⟩
       ·exact⟨_,_,h1⟩
       ·exact⟨_,_,h1⟩
      obtain⟨a,cp,hv⟩:=hlen;refine⟨.int .i64 k, ?_,.int _ _⟩;simp[execOp,Zw,resolve,hc,invoke,builtin,ea,et,hv,Builtin.len_,run_underlying hue,goInt]
     ·cases e
    ·cases e
   ·cases e
  ·cases e
 ·rename_i s x f Zw;split at e
  ·rename_i u hx;split at e
   ·rename_i r0 off cs htop;split at e
    ·rename_i off' hc;simp only[YO,YR]at e;obtain⟨rfl,rfl⟩:=e;refine Yd X2 WZ (fun c h=>by rw[Zw]at h;cases h) fun μ w ρ im QK hf Zb=> ?_
     have hv:=Zb x (by simp[Zw,Op.operands]) _ hx;rw[jM htop]at hv;obtain⟨ZC,QW,htr⟩:=hv.top_inv;rw[QK]at QW;cases QW;obtain⟨b,o',arr,ty,fl,h1,h2,h3,h4⟩:=htr.ptr_inv;have hc2:∃d,off'=off+d/\Wz P s f (.pointer (some ⟨b,o'+off,none⟩))=some (.pointer (some ⟨b,o'+off+d,none⟩)):=by
      unfold Wz at hc ⊢;simp only at hc ⊢;split at hc
      ·split at hc
       ·split at hc
        ·simp only[YO,Value.pointer.injEq,Addr.mk.injEq,true_and,and_true]at hc;rename_i fd hfd _ _ hz;refine⟨fd.offset,hc.symm, ?_⟩;simp_all
        ·cases hc
       ·cases hc
      ·cases hc
     obtain⟨d,rfl,hc2⟩:=hc2;obtain⟨_,hr⟩:=ag (P:=P) hc2 w;refine⟨.pointer (some ⟨b,o'+off+d,none⟩),by simp[execOp,Zw,h1,hr],.top rfl QK ?_⟩;rw[Nat.add_assoc];exact .ptr h2 h3 h4
    ·cases e
   ·cases e
  ·cases e
 ·rename_i t x Zw;split at e
  ·rename_i u hx;split at e
   ·rename_i r0 off cs htop;split at e
    ·rename_i v0 hc;cases QF:rX 4 v0 with
     |false=>rw[QF]at e;cases e
     |true=>
      rw[QF]at e;simp only[cond_true,YO,YR]at e;obtain⟨rfl,rfl⟩:=e;refine Yd X2 WZ (fun c h=>by rw[Zw]at h;cases h) fun μ w ρ im QK hf Zb=> ?_
      have hv:=Zb x (by simp[Zw,Op.operands]) _ hx;rw[jM htop]at hv;obtain⟨ZC,QW,htr⟩:=hv.top_inv;rw[QK]at QW;cases QW;obtain⟨v',h1,h2⟩:=zF hf htr hc;exact⟨v',by simp[execOp,Zw,h1],Rg QK 4 v0 v' QF h2⟩
    ·cases e
   ·cases e
  ·cases e
 ·cases e
theorem tQ{P:Program}{t e:TypeId}{b off m c z k:Nat}{q:Int}{kk:IntKind}(hu:J4 P t=some (.slice e))(hz:WH P e=some z)(hq:q=(k:Int))(hk:k<m)(hc:m<=c)(w:World):
 (Instr.sliceAt t (.slice (some ⟨b,off,none⟩) m c) (some (.int kk q)) none none).run P w=.ok (.slice (some ⟨b,off+k*z,none⟩) (m-k) (c-k)) w:=by
 rw[ZB]at hu;subst hq;have hb:xH m (some (.int kk (k:Int))) none=some (k,m):=by
  simp only[xH,CK,decide_eq_true (show(0:Int)<=(k:Int)by omega),decide_eq_true (show(k:Int)<=(m:Int)by omega),Bool.and_self,cond_true,Int.toNat_natCast]
 obtain⟨hr,_,_⟩:=om (P:=P) (μ:=fun _=>none) (sl:=true) (lo':=some (.int kk (k:Int))) (hi':=none) hb (show VR _ _ _ from .int _ _) trivial hc w;simp only[Instr.sliceAt,Instr.slice,Sem.run_bind,run_underlying hu,Result.andThen_ok,hr,Zx hz,Sem.run_pure,Nn,WL];rw[if_neg (by omega)]
theorem gd{sv:Value}{r k z by':Nat}{cs:Array Value}{e:TypeId}{zv:Value}(h:ao P T o=some (sv,r,k,cs,e,z,by',zv)):
 ∃c s x t i,o.op=.call c/\c.callee=.builtin .append/\c.args=#[s,x]/\c.argTypes=#[t,t]/\Zi T s=some sv/\Zi T x=some (Qv r (QJ k cs))/\KX sv=true/\P.underlying t=some (.slice e)/\P.info? e=some i/\i.zero=some zv/\i.size=z/\i.bytes=by'/\zv.cells.size=z/\0<z:=by
 unfold ao at h;split at h
 ·rename_i c Zw;split at h
  ·rename_i hc;split at h
   ·rename_i s x t t' ha ht;split at h
    ·rename_i sv' xv hs hx;split at h
     ·rename_i r' k' cs' e' htop hu;split at h
      ·rename_i i hi;split at h
       ·rename_i zv' z' hz ZN;cases hq:(MQ t t' && KX sv' && MQ zv'.cells.size (z'+1))with
        |false=>rw[hq]at h;cases h
        |true=>
         rw[hq]at h;simp only[cond_true,YO,YR]at h;obtain⟨rfl,rfl,rfl,rfl,rfl,rfl,rfl,rfl⟩:=h;simp only[YB]at hq;obtain⟨⟨q1,q2⟩,q3⟩:=hq;obtain rfl:=YE q1;rw[ZB]at hu;rw[YD]at hi;exact⟨c,s,x,t,i,Zw,hc,by rw[<-ha],by rw[<-ht],hs,by rw[hx,Th htop],q2,hu,hi,hz,ZN,rfl,YE q3,by omega⟩
       ·cases h
      ·cases h
     ·cases h
    ·cases h
   ·cases h
  ·cases h
 ·cases h
theorem iw{μ:Mu}{s s':Value}(h:KX s=true)(hs:VR μ s s'):∃a,s'=.slice a 0 0:=by
 unfold KX at h;split at h
 ·cases hs;exact⟨_,rfl⟩
 ·cases hs;exact⟨_,rfl⟩
 ·cases h
theorem rn{sv:Value}{r k z by':Nat}{cs cs':Array Value}{e:TypeId}{zv:Value}(h:ao P T o=some (sv,r,k,cs,e,z,by',zv))(X2:r<n)(WZ:XE (Qs H r)=true)
 (hp:0<k/\k<=maxLen/\k*by'<=140737488355328/\cs.size=k*z/\cs.map (Wn r)=cs'/\(cs.all fun v=>simple v || Vo v)=true/\ones cs'=true):
 Sm P B o (Zi T) H n (.ret (.slice (some ⟨n,0,none⟩) k z)) ((n,.cells cs' e (0,0))::H) (n+1) [r] []:=by
 intro S μ w fr _ _ _ _ _ QF hB hS hf Zb hR hm ht ho hw;obtain⟨c,s,x,t,i,Zw,hc,ea,et,hs,hx,hbn,hu,hi,hz,ZN,hby,hzs,hzp⟩:=gd h;obtain⟨p1,p2,p3,p4,p5,p6,p7⟩:=hp;obtain⟨xr,hxr,hr⟩:=ZU WZ;obtain⟨im,QK,hfm⟩:=QF.Yg r xr (hR r (by simp) X2) hxr hr;have hvs:=Zb s (by simp[Zw,Op.operands,Call.operands,hc,ea]) _ hs;have hvx:=Zb x (by simp[Zw,Op.operands,Call.operands,hc,ea]) _ hx;obtain⟨a,hsa⟩:=iw hbn hvs;obtain⟨ZC,QW,htr⟩:=hvx.top_inv;rw[QK]at QW;cases QW;rcases htr.slice_inv with ⟨b,o',c',arr,ty,fl,h1,h2,h3,h4,h5,h6⟩|⟨h0,_⟩
 ·have hb:=hfm _ _ h4;obtain⟨news,hnews⟩:∃news,news=(arr.toList.drop o').take (k*z):=⟨_,rfl⟩
  have hnl:news.length=k*z:=by
   rw[hnews,List.length_take,List.length_drop,Array.length_toList];have:∀j,j<k*z->o'+j<arr.size:=fun j hj=>h5 j (by omega)
   have:=this (k*z-1) (by have:=Nat.mul_pos p1 hzp;omega);have:=Nat.mul_pos p1 hzp;omega
  have Qs:∀(j:Nat) u,news[j]? =some u->arr[o'+j]? =some u:=by
   intro j u hj;rw[hnews,List.getElem?_take]at hj;split at hj
   ·rw[List.getElem?_drop]at hj;simpa using hj
   ·cases hj
  have hcell:∀(j:Nat) u,news[j]? =some u->w.cell? ((⟨b,o',none⟩:Addr).add j)=some u:=by
   intro j u hj;rw[WL];have:=Qs j u hj;simp[World.cell?,hb];exact this
  have hV:VRs μ cs' news.toArray:=by
   refine⟨by rw[<-p5];simp[hnl,p4],fun j v v' hv Wq=> ?_⟩;rw[<-p5,Array.getElem?_map]at hv;cases hy:cs[j]? with
   |none=>rw[hy]at hv;cases hv
   |some y=>
    rw[hy]at hv;simp only[Nn,YO]at hv;subst hv;exact To QK (Array.all_eq_true'.1 p6 y (Nq hy)) (h6 j y v' hy (Qs j v' (by simpa using Wq)))
  have Uc:∃C,k<=C/\C<=maxLen/\(Builtin.append_ #[t,t] o.type #[fr.eval s,fr.eval x]).run P w=.ok (.slice (some ⟨w.heap.size,0,none⟩) k C) (w.drew.alloc (.cells (news.toArray++Builtin.zeroCells zv.cells (C-k)) e)):=by
   have hk63:(k:Int)<=9223372036854775807:=by simp only[maxLen]at p2;omega
   have hr0:=run_append_nil (P:=P) w t o.type e i zv hu hi hz ⟨b,o',none⟩ k c' news (by rw[hnl,ZN]) hcell p1 hk63 (by rw[hby];omega);refine⟨grownCap w k 0 e,grownCap_ge w k 0 e,grownCap_le_maxLen w k 0 e p2, ?_⟩;rw[hsa,h1];cases a with
   |none=>exact hr0
   |some a=>rw[ix hu hi hz w a ⟨b,o',none⟩ k c' news (by rw[hnl,ZN]) hcell p1 p2 (by rw[hby];exact p3)];exact hr0
  obtain⟨C,hC1,hC2,Uc⟩:=Uc;have hfn:=hf n (Nh _) (by omega);have harr:(news.toArray++Builtin.zeroCells zv.cells (C-k)).size=C*z:=by
   rw[Array.size_append,size_zeroCells,hzs,List.size_toArray,hnl,<-Nat.add_mul];congr 1;omega
  refine⟨.ret (.slice (some ⟨w.heap.size,0,none⟩) k C),_,_,fp QF hS hfn none (fun _ h=>by cases h) w.heap.size (news.toArray++Builtin.zeroCells zv.cells (C-k)).size _ hB.le (by simp) (.inl (Nh _)) (by simp) (fun b hb _=>Below.heap_alloc w.drew _ b hb) (.ofCells (heap_alloc_new w.drew _) ?_ rfl fun j v hv=> ?_) ⟨rfl,rfl,rfl⟩,.ret ?_,JM hm ht ho hw (fun c h=>by rw[Zw]at h;cases h) (w':=w.drew.alloc _) ?_⟩
  ·rw[Array.size_append];have:=hV.1;simp only[List.size_toArray]at this ⊢;omega
  ·obtain⟨u,e1,e2⟩:=hV.get hv;have hj:j<news.toArray.size:=(Array.getElem?_eq_some_iff.1 e1).1;exact⟨u,by rw[Array.getElem?_append_left hj];exact e1,e2.mono (K7 hfn)⟩
  ·refine .slice ⟨_,XC,rfl,rfl⟩ hC1 hC2 (fun _ im QK _ _=> ?_);rw[XC]at QK;cases QK;exact harr.symm
  ·simp[execOp,Zw,resolve,hc,invoke,builtin,ea,et,Uc]
 ·omega
theorem oL{sv:Value}{r k z by':Nat}{cs:Array Value}{e:TypeId}{zv:Value}(h:ao P T o=some (sv,r,k,cs,e,z,by',zv))(X2:r<n)(WZ:XE (Qs H r)=true)(hk:k=0):
 Sm P B o (Zi T) H n (.ret sv) H n [r] []:=by
 obtain⟨c,s,x,t,i,Zw,hc,ea,et,hs,hx,hbn,hu,hi,hz,ZN,hby,hzs,hzp⟩:=gd h;refine Yd X2 WZ (fun c h=>by rw[Zw]at h;cases h) fun μ w ρ im QK hf Zb=> ?_
 have hvs:=Zb s (by simp[Zw,Op.operands,Call.operands,hc,ea]) _ hs;have hvx:=Zb x (by simp[Zw,Op.operands,Call.operands,hc,ea]) _ hx;obtain⟨a,hsa⟩:=iw hbn hvs;obtain⟨ZC,QW,htr⟩:=hvx.top_inv;rw[QK]at QW;cases QW;subst hk;have hxx:∃b d,ρ x=.slice b 0 d:=by
  rcases htr.slice_inv with ⟨b,o',c',arr,ty,fl,h1,_⟩|⟨_,_,a',c',h1,_⟩
  ·exact⟨_,_,h1⟩
  ·exact⟨_,_,h1⟩
 obtain⟨b,d,hxx⟩:=hxx;refine⟨.slice a 0 0, ?_,by rw[<-hsa];exact hvs⟩;have hszp:WH P e=some z:=by simp[WH,YD,hi,ZN]
 have hr:=iy (ty:=o.type) hu hszp w a b 0 0 d (Nh _);simp[execOp,Zw,resolve,hc,invoke,builtin,ea,et,hsa,hxx,hr]
theorem tF{b off k r m z:Nat}{cs2:Array Value}(h:je P T o=some (b,off,k,r,m,cs2,z)):
 ∃c s x t t2 e s1,o.op=.call c/\c.callee=.builtin .copy/\c.args=#[s,x]/\c.argTypes=#[t,t2]/\Zi T s=some (.slice (some ⟨b,off,none⟩) k s1)/\Zi T x=some (Qv r (QJ m cs2))/\P.underlying t=some (.slice e)/\WH P e=some z:=by
 unfold je at h;split at h
 ·rename_i c Zw;split at h
  ·rename_i hc;split at h
   ·rename_i s x t t2 ha ht;split at h
    ·rename_i b' off' k' s1 xv hs hx;split at h
     ·rename_i r' m' cs' e' htop hu;split at h
      ·rename_i z' hz;simp only[YO,YR]at h;obtain⟨rfl,rfl,rfl,rfl,rfl,rfl,rfl⟩:=h;rw[ZB]at hu;exact⟨c,s,x,t,t2,e',s1,Zw,hc,by rw[<-ha],by rw[<-ht],hs,by rw[hx,Th htop],hu,hz⟩
      ·cases h
     ·cases h
    ·cases h
   ·cases h
  ·cases h
 ·cases h
theorem rm{b off k r m z:Nat}{cs cs2 cs':Array Value}{te:TypeId}(h:je P T o=some (b,off,k,r,m,cs2,z))(hg:Qs H b=some (.cells cs te (0,0)))(X2:r<n)(WZ:XE (Qs H r)=true)(hbn:b<n)
 (hp:0<m/\off+Nw m k*z<=cs.size/\Nw m k*z<=cs2.size/\(cs2.all fun v=>simple v || Vo v)=true/\ones ((cs2.extract 0 (Nw m k*z)).map (Wn r))=true/\splice cs off ((cs2.extract 0 (Nw m k*z)).map (Wn r))=cs'):
 Sm P B o (Zi T) H n (.ret (.int .i64 (Nw m k))) (VE H b (.cells cs' te (0,0))) n [b,r] [b]:=by
 intro S μ w fr _ _ _ _ _ QF hB hS hf Zb hR hm ht ho hw;obtain⟨c,s,x,t,t2,e,s1,Zw,hc,ea,et,hs,hx,hu,hz⟩:=tF h;obtain⟨p0,h1,h2,p4,h3,rfl⟩:=hp;obtain⟨xr,hxr,hr⟩:=ZU WZ;obtain⟨imr,himr,hfm⟩:=QF.Yg r xr (hR r (by simp) X2) hxr hr;have hb:S b:=hR b (by simp) hbn;obtain⟨im,QK,Wd⟩:=QF.rel b _ hb hg trivial;have hvs:=Zb s (by simp[Zw,Op.operands,Call.operands,hc,ea]) _ hs;have hvx:=Zb x (by simp[Zw,Op.operands,Call.operands,hc,ea]) _ hx;obtain⟨imr',himr',htr⟩:=hvx.top_inv;rw[himr]at himr';cases himr';generalize hsv:fr.eval s=sv at hvs;cases hvs with
 |slice har q1 q2 q3=>
  obtain⟨ZC,QW,_,rfl⟩:=har;simp only at QW;rw[QK]at QW;cases QW;rcases htr.slice_inv with ⟨b2,o',c',arr2,ty,fl,g1,g2,g3,g4,g5,g6⟩|⟨h0,_⟩
  ·have hb2:=hfm _ _ g4;have hcell:∀j,j<Nw m k*z->w.cell? ((⟨b2,o',none⟩:Addr).add j)=some (arr2.getD (o'+j) undef):=by
    intro j hj;have hlt2:=g5 j (by omega);rw[WL];simp[World.cell?,hb2,hlt2]
   have hload:=run_loadCells (P:=P) w ⟨b2,o',none⟩ (Nw m k*z) (fun j=>arr2.getD (o'+j) undef) hcell;generalize hxsd:(((Array.range (Nw m k*z)).map fun j=>arr2.getD (o'+j) undef):Array Value)=xs0;obtain⟨xs,hload,hxs⟩:∃xs,(loadCells ⟨b2,o',none⟩ (Nw m k*z)).run P w=.ok xs w/\VRs μ ((cs2.extract 0 (Nw m k*z)).map (Wn r)) xs:=by
    refine⟨_,hload,⟨by simp;omega,fun i v v' hv Wq=> ?_⟩⟩;rw[Array.getElem?_map]at hv;cases hy:(cs2.extract 0 (Nw m k*z))[i]? with
    |none=>rw[hy]at hv;cases hv
    |some y=>
     rw[hy]at hv;simp only[Nn,YO]at hv;subst hv;rw[NB]at hy;split at hy
     ·rename_i hlt3;have hi:i<Nw m k*z:=by omega
      have hy2:cs2[i]? =some y:=by simpa using hy
      simp[hi]at Wq;have hlt2:=g5 i (by omega);refine To himr (Array.all_eq_true'.1 p4 y (Nq hy2)) (g6 i y v' hy2 ?_);rw[<-Wq];simp[hlt2]
     ·cases hy
   have hxsz:xs.size=Nw m k*z:=by rw[<-hxs.1];simp;omega
   have hexsz:((cs2.extract 0 (Nw m k*z)).map (Wn r)).size=Nw m k*z:=by simp;omega
   rcases Wd with ⟨_,UL,hoo,arr,ha,hle,hcap,hcs⟩|⟨hz0,_⟩
   ·have ZQ:=run_storeCells_at (P:=P) im.Z1 off te xs.toList 0 arr w ha (by simp[hxsz];omega) (hxs.ones h3);simp only[Nat.add_zero]at ZQ;refine⟨.ret (.int .i64 (Nw m k)),w.setRow im.Z1 (CE.splice arr off xs),μ,Post.write QF hS b _ (.cells (CE.splice cs off ((cs2.extract 0 (Nw m k*z)).map (Wn r))) te (0,0)) im hb hg trivial QK UL (w':=w.setRow im.Z1 (CE.splice arr off xs)) ?_ ?_ ?_ ⟨rfl,rfl,rfl⟩,.ret (.int _ _),JM hm ht ho hw (fun c h=>by rw[Zw]at h;cases h) ?_⟩
    ·simp[World.setRow]
    ·intro y hy;exact setRow_other w im.Z1 y _ hy
    ·refine .inl ⟨rfl,UL,hoo,CE.splice arr off xs,setRow_heap w im.Z1 arr _ te _ ha, ?_, ?_, ?_⟩
     ·rw[WX (by rw[hexsz];omega),WX (by rw[hxsz];omega)];exact hle
     ·rw[WX (by rw[hxsz];omega)];exact hcap
     ·exact VRs.splice (by rw[hexsz];omega) hle hcs hxs
    ·simp[execOp,Zw,resolve,hc,invoke,builtin,ea,et,hsv,g1,Builtin.copy_,Builtin.lenOf,Builtin.firstCells,Sem.run_bind,Sem.run_pure,Result.andThen_ok,run_underlying hu,Zx hz,hload,hoo,ZQ,CE.splice,goInt]
   ·exact absurd rfl hz0
  ·omega
theorem qo(hF:∀g,F g=true->Q8 P g=true)(hJ:∀w,B.has w->J w)(hu:Under H n){h:Option Ql}{a:Told}(e:M3 P F J B T o H n h=some a)(hp:∀p,a.p=some p->p):
 Sm P B o (Zi T) H n a.s.out a.s.H a.s.n a.s.R a.s.W/\Shape H n a.s.H a.s.n a.s.R a.s.W:=by
 unfold M3 at e;split at e
 ·split at e
  ·rename_i v r htr;cases hq:(MY r n && XE (Qs H r))with
   |false=>rw[hq]at e;cases e
   |true=>
    rw[hq]at e;simp only[cond_true,YO]at e;subst e;simp only[YB]at hq;exact⟨rl htr (YL hq.1) hq.2,Shape.same _ _ _⟩
  ·exact qp hF hu e hp
 ·exact qp hF hu e hp
 ·rename_i k es;split at e
  ·rename_i t x i Zw;split at e
   ·rename_i u kk q hx hi;split at e
    ·rename_i r m cs el htop hue;split at e
     ·rename_i z hz;cases hq:(MY r n && XE (Qs H r))with
      |false=>rw[hq]at e;cases e
      |true=>
       rw[hq]at e;simp only[cond_true,YO]at e;subst e;simp only[YB]at hq;obtain⟨X2,WZ⟩:=hq;obtain⟨hqk,hkm,hes⟩:=hp _ rfl;refine⟨Yd (YL X2) WZ (fun c h=>by rw[Zw]at h;cases h) fun μ w ρ im QK hf Zb=> ?_,Shape.same _ _ _⟩;have hv:=Zb x (by simp[Zw,Op.operands]) _ hx;have hiv:=nE (Zb i (by simp[Zw,Op.operands]) _ hi);rw[Th htop]at hv;obtain⟨ZC,QW,htr⟩:=hv.top_inv;rw[QK]at QW;cases QW;have UF:=htr.slice_inv;rcases UF with ⟨b,o',c',arr,ty,fl,h1,h2,h3,h4,h5,h6⟩|⟨rfl,_⟩
       ·have hess:k*z+es.size<=cs.size\/es.size=0:=by rw[<-hes];simp;omega
        refine⟨.pointer (some ⟨b,o'+k*z,none⟩),by simp[execOp,Zw,h1,hiv,qD hue hz hqk hkm],.top rfl QK ?_⟩;refine TRv.ptr (o:=o'+k*z) (off:=0) h4 (fun i hi=> ?_) fun i v v' hv Wq=> ?_
        ·have:=h5 (k*z+i) (by omega);omega
        ·rw[<-hes,NB]at hv;split at hv
         ·refine h6 (k*z+i) v v' hv ?_;rw[<-Wq,Nat.add_assoc]
         ·cases hv
       ·omega
     ·cases e
    ·cases e
   ·cases e
  ·cases e
 ·rename_i k es;split at e
  ·rename_i t x i Zw;split at e
   ·rename_i u kk q hx hi;split at e
    ·rename_i r off cs m el htop hue;split at e
     ·rename_i z hz;cases hq:(MY r n && XE (Qs H r))with
      |false=>rw[hq]at e;cases e
      |true=>
       rw[hq]at e;simp only[cond_true,YO]at e;subst e;simp only[YB]at hq;obtain⟨X2,WZ⟩:=hq;obtain⟨hqk,hkm,hes⟩:=hp _ rfl;refine⟨Yd (YL X2) WZ (fun c h=>by rw[Zw]at h;cases h) fun μ w ρ im QK hf Zb=> ?_,Shape.same _ _ _⟩;have hv:=Zb x (by simp[Zw,Op.operands]) _ hx;have hiv:=nE (Zb i (by simp[Zw,Op.operands]) _ hi);rw[jM htop]at hv;obtain⟨ZC,QW,htr⟩:=hv.top_inv;rw[QK]at QW;cases QW;obtain⟨b,o',arr,ty,fl,h1,h2,h3,h4⟩:=htr.ptr_inv;refine⟨.pointer (some ⟨b,o'+off+k*z,none⟩),by simp[execOp,Zw,h1,hiv,ee hue hz hqk hkm],.top rfl QK ?_⟩;rw[Nat.add_assoc o'];refine TRv.ptr (o:=o'+(off+k*z)) (off:=0) h2 (fun i hi=> ?_) fun i v v' hv Wq=> ?_
       ·have ZN:es.size<=cs.size-(off+k*z):=by rw[<-hes];simp;omega
        have:=h3 (off+k*z+i) (by omega);omega
       ·rw[<-hes,NB]at hv;split at hv
        ·refine h4 (off+k*z+i) v v' hv ?_;rw[<-Wq,Nat.add_assoc o']
        ·cases hv
     ·cases e
    ·cases e
   ·cases e
  ·cases e
 ·rename_i k m' cs';split at e
  ·rename_i t x lo Zw;split at e
   ·rename_i u kk q hx hi;split at e
    ·rename_i r m cs el htop hue;split at e
     ·rename_i z hz;cases hq:(MY r n && XE (Qs H r))with
      |false=>rw[hq]at e;cases e
      |true=>
       rw[hq]at e;simp only[cond_true,YO]at e;subst e;simp only[YB]at hq;obtain⟨X2,WZ⟩:=hq;obtain⟨hqk,hkm,hm',hes⟩:=hp _ rfl;refine⟨Yd (YL X2) WZ (fun c h=>by rw[Zw]at h;cases h) fun μ w ρ im QK hf Zb=> ?_,Shape.same _ _ _⟩;have hv:=Zb x (by simp[Zw,Op.operands]) _ hx;have hiv:=nE (Zb lo (by simp[Zw,Op.operands]) _ hi);rw[Th htop]at hv;obtain⟨ZC,QW,htr⟩:=hv.top_inv;rw[QK]at QW;cases QW;have UF:=htr.slice_inv;rcases UF with ⟨b,o',c',arr,ty,fl,h1,h2,h3,h4,h5,h6⟩|⟨rfl,_⟩
       ·refine⟨.slice (some ⟨b,o'+k*z,none⟩) (m-k) (c'-k),by simp[execOp,Zw,h1,hiv,tQ hue hz hqk hkm h2],.top rfl QK ?_⟩;rw[hm'];refine TRv.slice (o:=o'+k*z) (by omega) (by omega) h4 (fun i hi=> ?_) fun i v v' hv Wq=> ?_
        ·rw[<-hes,Array.size_extract]at hi;have:=h5 (k*z+i) (by omega);omega
        ·rw[<-hes,NB]at hv;split at hv
         ·refine h6 (k*z+i) v v' hv ?_;rw[<-Wq,Nat.add_assoc]
         ·cases hv
       ·omega
     ·cases e
    ·cases e
   ·cases e
  ·cases e
 ·rename_i cs';split at e
  ·rename_i u1 r k cs el z by' u2 hta
   cases hq:(MY r n && XE (Qs H r))with
   |false=>rw[hq]at e;cases e
   |true=>
    rw[hq]at e;simp only[cond_true,YO]at e;subst e;simp only[YB]at hq;exact⟨rn hta (YL hq.1) hq.2 (hp _ rfl),Shape.new _ _ _ _⟩
  ·cases e
 ·split at e
  ·rename_i sv r k cs el z by' u2 hta
   cases hq:(MY r n && XE (Qs H r))with
   |false=>rw[hq]at e;cases e
   |true=>
    rw[hq]at e;simp only[cond_true,YO]at e;subst e;simp only[YB]at hq;exact⟨oL hta (YL hq.1) hq.2 (hp _ rfl),Shape.same _ _ _⟩
  ·cases e
 ·rename_i cs';split at e
  ·rename_i b off k r m cs2 z hta;split at e
   ·rename_i cs te hg;cases hq:(MY r n && XE (Qs H r) && MY b n)with
    |false=>rw[hq]at e;cases e
    |true=>
     rw[hq]at e;simp only[cond_true,YO]at e;subst e;simp only[YB]at hq;have hb:=YL hq.2;exact⟨rm hta hg (YL hq.1.1) hq.1.2 hb (hp _ rfl),(Shape.set _ hb).moreR (fun i hi=>by simp at hi ⊢;exact .inl hi)⟩
   ·cases e
  ·cases e
 ·rename_i s;simp only[YO]at e;subst e;exact KW hF Jh (QL P B) hu (hp _ rfl)
 ·rename_i v;split at e
  ·rename_i op t x y yt Zw;split at e
   ·rename_i a b hx hy;cases hq:(af a && af b && af v)with
    |false=>rw[hq]at e;cases e
    |true=>
     rw[hq]at e;simp only[cond_true,YO]at e;subst e;simp only[YB]at hq;have hb:=hp _ rfl;refine⟨UW (fun c h=>by rw[Zw]at h;cases h) fun μ w ρ _ Zb=> ?_,Shape.same _ _ _⟩;have e1:=Sl hq.1.1 (Zb x (by simp[Zw,Op.operands]) _ hx);have e2:=Sl hq.1.2 (Zb y (by simp[Zw,Op.operands]) _ hy);refine⟨v, ?_,J3 hq.2⟩;simp only[execOp,Zw,e1,e2];rw[Sem.run_bind,hb x y w];rfl
   ·cases e
  ·cases e
 ·rename_i keys out UM n' W;split at e
  ·rename_i c Zw;split at e
   ·rename_i g args H1 n1 R W1 hcr;cases hn:(MQ n1 n && W1.isEmpty)with
    |false=>rw[hn]at e;cases e
    |true=>
     rw[hn]at e;simp only[cond_true]at e;simp only[YB,List.isEmpty_iff]at hn;obtain⟨RZ,rfl⟩:=hn;have RZ:=YE RZ;subst RZ;split at e
     ·rename_i c1 hc1;simp only[YO]at e;subst e;exact JZ hF Zw hu hcr ((hp _ rfl).callJ hc1)
     ·cases e
   ·rename_i l fn tm cda cdb H1 n1 R W1 hcr;cases hn:(MQ n1 n && W1.isEmpty && Nr tm.size 16000)with
    |false=>rw[hn]at e;cases e
    |true=>
     rw[hn]at e;simp only[cond_true,YO]at e;subst e;simp only[YB,List.isEmpty_iff]at hn;obtain⟨⟨RZ,rfl⟩,ZN⟩:=hn;have RZ:=YE RZ;subst RZ;have Vt:=FJ.recS (hp _ rfl);have:=KW hF Vt (QL P B) hu (T:=T) (o:=o) (s:=⟨out,UM++H1,n',R++keys,W⟩) (by
      simp[bh,Zw,hcr,ZN,PY])
     exact this
   ·cases e
  ·cases e
 ·rename_i out fz;split at e
  ·rename_i c Zw;split at e
   ·rename_i g args H1 n1 R W1 hcr;cases hn:(MQ n1 n && W1.isEmpty)with
    |false=>rw[hn]at e;cases e
    |true=>
     rw[hn]at e;simp only[cond_true]at e;simp only[YB,List.isEmpty_iff]at hn;obtain⟨RZ,rfl⟩:=hn;have RZ:=YE RZ;subst RZ;split at e
     ·rename_i ts R2 L ZQ;cases X2:(R2.all fun i=>MY i n1)with
      |false=>rw[X2]at e;cases e
      |true=>
       rw[X2]at e;simp only[cond_true]at e;cases hpl:Tw 2 out with
       |true=>
        rw[hpl]at e;simp only[cond_true,YO]at e;subst e;obtain⟨hL,hpc⟩:=hp _ rfl;exact JZ hF Zw hu hcr (yr hJ ZQ hL hpc hpl X2)
       |false=>
        rw[hpl]at e;simp only[cond_false]at e;cases hq:((R2.all fun i=>XE (Qs H1 i)) && rX 4 out)with
        |false=>rw[hq]at e;cases e
        |true=>
         rw[hq]at e;simp only[cond_true,YO]at e;subst e;simp only[YB]at hq;obtain⟨hL,hpc⟩:=hp _ rfl;exact JZ hF Zw hu hcr (uI hJ ZQ hL hpc X2 hq.1 hq.2)
     ·cases e
   ·cases e
  ·cases e
 ·rename_i out fz;split at e
  ·rename_i c Zw;split at e
   ·rename_i g args H1 n1 R W1 hcr;cases hn:(MQ n1 n && W1.isEmpty)with
    |false=>rw[hn]at e;cases e
    |true=>
     rw[hn]at e;simp only[cond_true]at e;simp only[YB,List.isEmpty_iff]at hn;obtain⟨RZ,rfl⟩:=hn;have RZ:=YE RZ;subst RZ;split at e
     ·rename_i ts R2 L ZQ;cases hq:((R2.all fun i=>MY i n1) && (R2.all fun i=>XE (Qs H1 i) || TJ (Qs H1 i)) && rX 4 out)with
      |false=>rw[hq]at e;cases e
      |true=>
       rw[hq]at e;simp only[cond_true,YO]at e;subst e;simp only[YB]at hq;obtain⟨hL,hpc⟩:=hp _ rfl;exact JZ hF Zw hu hcr (r9 hJ ZQ hL hpc hq.1.1 hq.1.2 hq.2)
     ·cases e
   ·cases e
  ·cases e
 ·rename_i κ R ps qs out outs news;split at e
  ·rename_i c Zw;split at e
   ·rename_i g args H1 n1 R0 W1 hcr;cases hn:(MQ n1 n && W1.isEmpty)with
    |false=>rw[hn]at e;cases e
    |true=>
     rw[hn]at e;simp only[cond_true]at e;simp only[YB,List.isEmpty_iff]at hn;obtain⟨RZ,rfl⟩:=hn;have RZ:=YE RZ;subst RZ;split at e
     ·rename_i as bs o1 UM L hw;simp only[YO]at e;subst e;obtain⟨hL,hwr⟩:=hp _ rfl;exact JZ hF Zw hu hcr (hwr.callJ hJ κ R ps qs hw hL rfl rfl)
     ·cases e
   ·cases e
  ·cases e
end
abbrev Ug(k:Int)(n:Nat)(xs:Array Value)(t:Nat)(v:Array Value):Prop:=k=(↑k.toNat:Int)/\k.toNat<n/\xs.extract (k.toNat*t) (k.toNat*t+t)=v
abbrev ou(a v r:Array Value)(n f z:Nat):Prop:=a.size=n*f/\n+1<=maxLen/\(n+1)*z<=140737488355328/\a++v=r
end Go.CE

namespace Go.CE
open Go Go.RowKit

abbrev QB:=List (Nat×Ql)
def HY(sc:QB)(q:Nat):Option Ql×QB:=match sc with
 |(k,h)::l=>bif MQ k q then(some h,l)else(none,sc)
 |[]=>(none,[])
structure Ml where
 Qx:List Rec
 T:Tm
 H:Qm
 n:Nat
 sc:QB
 q:Nat
 L:List Prop
 ZG:Option (Value×List Nat×List Nat)
def cD(P:Program)(F:FuncId->Bool)(J:World->Prop)(B:Lo)(ops:Array Oper):List Oper->Tm->Qm->Nat->QB->Nat->List Prop->Option Ml
 |[],T,H,n,sc,q,L=>some ⟨[],T,H,n,sc,q,L,none⟩
 |o::l,T,H,n,sc,q,L=>
  bif JY T o.dst then
   bif Region.wanted o (XT ops T)then
    match HY sc q with
    |(h,sc')=>match M3 P F J B T o H n h with
     |some ⟨⟨.ret v,H1,n1,R,W⟩,p⟩=>match cD P F J B ops l (V1 T o.dst v) H1 n1 sc' (q+1) (more p L)with
      |some r=>some {r with Qx:=⟨o,true,v,T,H,H1,n,n1,R,W⟩::r.Qx}
      |none=>none
     |some ⟨⟨.ZG v,H1,n1,R,W⟩,p⟩=>some ⟨[],T,H1,n1,sc',q+1,more p L,some (v,R,W)⟩
     |none=>none
   else match cD P F J B ops l (V1 T o.dst undef) H n sc (q+1) L with
    |some r=>some {r with Qx:=⟨o,false,undef,T,H,H,n,n,[],[]⟩::r.Qx}
    |none=>none
  else none
def Fw(P:Program)(F:FuncId->Bool)(B:Lo)(c:CF)(H:Qm)(n:Nat)(f:Operand)(params:Array Tmp)(assign body:Code)(k:List Item)(keys:List Nat)(out:OO)(UM:Qm)(n':Nat)(W:List Nat):Option (CF×Qm×Prop):=
 match Zi c.tmps f with
 |some fv=>match US c H n params assign body with
  |some (H1,l,ds,_)=>match P8 F H1 fv #[.func (.yield l) #[] #[]]with
   |some (.enter g args,_)=>match Wt P g args with
    |some c1=>match out with
     | .ret _=>some ({c with todo:=.endRangeFunc l::k,defers:=ds++c.defers},UM++H1,FJ P B c1 H1 (l+1) out (UM++H1) n' keys W)
     | .ZG v=>some ({c with mode:=.ZG v,defers:=ds++c.defers},UM++H1,FJ P B c1 H1 (l+1) out (UM++H1) n' keys W)
    |none=>none
   |_=>none
  |none=>none
 |none=>none
def Qu(P:Program)(F:FuncId->Bool)(J:World->Prop)(B:Lo):Nat->Nat->CF->Qm->Nat->QB->Nat->List Nat->List Prop->Option ST
 |0,_,c,H,n,_,_,W,L=>some ⟨.at c H n,W,L⟩
 |k+1,b,c,H,n,sc,q,W,L=>
  match c.mode,c.todo with
  | .run,.code (.region _ ops draw)::todo=>match cD P F J B ops ops.toList c.tmps H n sc q L with
    |some r=>match r.ZG with
     |none=>bif !draw || (Vf 0 ops.toList && indep ops 0 r.Qx (Jf ops.toList []))then Qu P F J B k b {c with tmps:=r.T,todo:=todo} r.H r.n r.sc r.q (Wc b (Ui r.Qx) W) r.L else none
     |some (v,_,W1)=>bif !draw || SH ops r.Qx r.T then Qu P F J B k b {c with tmps:=r.T,mode:=.ZG v} r.H r.n r.sc r.q (Wc b (Ui r.Qx++W1) W) r.L else none
    |none=>none
  | .run,.code (.rangeFunc f params assign body)::todo=>match HY sc q with
    |(some (.WM (.call keys out UM n1 W1)),sc')=>match Fx P F B c H n f params assign body todo keys out UM n1 W1 with
     |some (c',H',p)=>Qu P F J B k b c' H' n1 sc' q (Wc b W1 W) (p::L)
     |none=>none
    |(some (.call keys out UM n1 W1),sc')=>match Fw P F B c H n f params assign body todo keys out UM n1 W1 with
     |some (c',H',p)=>Qu P F J B k b c' H' n1 sc' q (Wc b W1 W) (p::L)
     |none=>none
    |_=>none
  |_,_=>match P6 P F X7 (fun _ _ _=>none) c H n with
   |some (.go c' H' n' _ W')=>Qu P F J B k b c' H' n' sc q (Wc b W' W) L
   |some (.done out H' n' _ W')=>some ⟨.fin out H' n',Wc b W' W,L⟩
   |none=>none
section
variable {P:Program} {F:FuncId->Bool} {J:World->Prop} {B:Lo}
theorem J9{ops:Array Oper}:∀(l:List Oper) (T:Tm) (H:Qm) (n:Nat) (sc:QB) (q:Nat) (L:List Prop) (r:Ml),cD P F J B ops l T H n sc q L=some r->Q3 r.L->Q3 L
 |[],T,H,n,sc,q,L,r,h,ha=>by
  simp only[cD,YO]at h;subst h;exact ha
 |o::l,T,H,n,sc,q,L,r,h,ha=>by
  simp only[cD]at h;cases hd:JY T o.dst with
  |false=>rw[hd]at h;cases h
  |true=>
   rw[hd]at h;simp only[cond_true]at h;cases hw:Region.wanted o (XT ops T)with
   |true=>
    rw[hw]at h;simp only[cond_true]at h;split at h
    ·rename_i v H1 n1 R W p Zw;split at h
     ·rename_i r' hr;simp only[YO]at h;subst h;exact(dS (J9 l _ _ _ _ _ _ r' hr ha)).2
     ·cases h
    ·simp only[YO]at h;subst h;exact(dS ha).2
    ·cases h
   |false=>
    rw[hw]at h;simp only[cond_false]at h;split at h
    ·rename_i r' hr;simp only[YO]at h;subst h;exact J9 l _ _ _ _ _ _ r' hr ha
    ·cases h
def RegOk(P:Program)(B:Lo)(ops:Array Oper)(l:List Oper)(T:Tm)(H:Qm)(n:Nat)(r:Ml):Prop:=match r.ZG with
 |none=>K2 r.Qx T H n r.T r.H r.n/\r.Qx.map (·.o)=l/\Under r.H r.n
 |some (v,R,W)=> ∃H1 n1 o l2,K2 r.Qx T H n r.T H1 n1/\r.Qx.map (·.o)++o::l2=l/\Region.wanted o (XT ops r.T)=true/\Sm P B o (Zi r.T) H1 n1 (.ZG v) r.H r.n R W/\Shape H1 n1 r.H r.n R W/\Under r.H r.n
theorem RegOk.cons{ops:Array Oper}{l:List Oper}{T:Tm}{H:Qm}{n:Nat}{r:Ml}{x:Rec}(h:RegOk P B ops l (V1 T x.o.dst x.v) x.H' x.n' r)(hT:x.T=T)(hH:x.H=H)(hn:x.n=n):RegOk P B ops (x.o::l) T H n {r with Qx:=x::r.Qx}:=by
 unfold RegOk at h ⊢;cases hp:r.ZG with
 |none=>
  rw[hp]at h;obtain⟨h3,h4,h5⟩:=h;exact⟨⟨hT,hH,hn,h3⟩,by simp[h4],h5⟩
 |some p=>
  obtain⟨v,R,W⟩:=p;rw[hp]at h;obtain⟨H1,n1,o,l2,h1,h2,h3⟩:=h;exact⟨H1,n1,o,l2,⟨hT,hH,hn,h1⟩,by simp[h2],h3⟩
theorem Pn(hF:∀g,F g=true->Q8 P g=true)(hJ:∀w,B.has w->J w){ops:Array Oper}{len:Nat}:∀(l:List Oper) (T:Tm) (H:Qm) (n:Nat) (sc:QB) (q:Nat) (L:List Prop) (r:Ml),T.len=len->Under H n->cD P F J B ops l T H n sc q L=some r->Q3 r.L->
 (∀x∈r.Qx,bj len x)/\(∀x∈r.Qx,PB P B ops x)/\RegOk P B ops l T H n r
 |[],T,H,n,sc,q,L,r,hl,hu,h,ha=>by
  simp only[cD,YO]at h;subst h;exact⟨fun r hr=>by simp at hr,fun r hr=>by simp at hr,⟨rfl,rfl,rfl⟩,rfl,hu⟩
 |o::l,T,H,n,sc,q,L,r,hl,hu,h,ha=>by
  simp only[cD]at h;cases hd:JY T o.dst with
  |false=>rw[hd]at h;cases h
  |true=>
   have hdst:=Yb hd;rw[hl]at hdst;rw[hd]at h;simp only[cond_true]at h;cases hw:Region.wanted o (XT ops T)with
   |true=>
    rw[hw]at h;simp only[cond_true]at h;split at h
    ·rename_i v H1 n1 R W p Zw;split at h
     ·rename_i r' hr;simp only[YO]at h;subst h;have hpL:=dS (J9 l _ _ _ _ _ _ r' hr ha);obtain⟨hdo,P1⟩:=qo hF hJ hu Zw hpL.1;obtain⟨h1,h2,h3⟩:=Pn hF hJ (ops:=ops) (len:=len) l (V1 T o.dst v) H1 n1 _ _ _ r' (by rw[Um];exact hl) (hu.shape P1) hr ha;refine⟨fun x hx=> ?_,fun x hx=> ?_,RegOk.cons (x:=⟨o,true,v,T,H,H1,n,n1,R,W⟩) h3 rfl rfl rfl⟩
      ·rcases List.mem_cons.1 hx with rfl|hx
       ·exact⟨P1.le,P1.keep,P1.top,P1.sub,P1.wlt,hdst⟩
       ·exact h1 x hx
      ·rcases List.mem_cons.1 hx with rfl|hx
       ·exact⟨hw.symm,(fun _=>hdo),(fun e=>by cases e)⟩
       ·exact h2 x hx
     ·cases h
    ·rename_i v H1 n1 R W p Zw;simp only[YO]at h;subst h;obtain⟨hdo,P1⟩:=qo hF hJ hu Zw (dS ha).1;exact⟨fun r hr=>by simp at hr,fun r hr=>by simp at hr,H,n,o,l,⟨rfl,rfl,rfl⟩,rfl,hw,hdo,P1,hu.shape P1⟩
    ·cases h
   |false=>
    rw[hw]at h;simp only[cond_false]at h;split at h
    ·rename_i r' hr;simp only[YO]at h;subst h;obtain⟨h1,h2,h3⟩:=Pn hF hJ (ops:=ops) (len:=len) l (V1 T o.dst undef) H n _ _ _ r' (by rw[Um];exact hl) hu hr ha;refine⟨fun x hx=> ?_,fun x hx=> ?_,RegOk.cons (x:=⟨o,false,undef,T,H,H,n,n,[],[]⟩) h3 rfl rfl rfl⟩
     ·rcases List.mem_cons.1 hx with rfl|hx
      ·exact⟨Nh _,fun _ _ _=>rfl,fun _ _=>rfl,fun i hi=>by simp at hi,fun i hi=>by simp at hi,hdst⟩
      ·exact h1 x hx
     ·rcases List.mem_cons.1 hx with rfl|hx
      ·exact⟨hw.symm,(fun e=>by cases e),fun _=>⟨rfl,rfl,rfl,rfl⟩⟩
      ·exact h2 x hx
    ·cases h
theorem nI{c:CF}{H:Qm}{n:Nat}{id:Nat}{ops:Array Oper}{k:List Item}{Qx:List Rec}{v:Value}{H':Qm}{n':Nat}{R W:List Nat}{T':Tm}(hm:c.mode=.run)
 (ht:c.todo=.code (.region id ops false)::k) (hs:∀x∈Qx,bj c.tmps.len x) (hk:∀x∈Qx,PB P B ops x)
 (h:∃H1 n1 o l2,K2 Qx c.tmps H n T' H1 n1/\Qx.map (·.o)++o::l2=ops.toList/\Region.wanted o (XT ops T')=true/\Sm P B o (Zi T') H1 n1 (.ZG v) H' n' R W/\Shape H1 n1 H' n' R W/\Under H' n'):
 GoJ P B c H n {c with tmps:=T',mode:=.ZG v} H' n' (KI Qx++R) (Ui Qx++W):=by
 obtain⟨H1,n1,o,l2,PR,hmap,UE,hdo,P1,_⟩:=h;have hown:=Us (l2:=o::l2) hmap rfl;have hlen:ops.size=Qx.length+(l2.length+1):=by have:=congrArg MO hmap;simp at this;omega
 have hat:ops[Qx.length]? =some o:=by
  rw[<-MX,<-hmap,MZ (by simp)];simp
 have hsh1:=ZW Qx _ _ _ _ _ _ PR hs;have l1:=hsh1.le;have l3:=P1.le;refine⟨hsh1.trans P1,fun S μ w fr cs Z QF hB hS hf XK hR=> ?_⟩;obtain⟨a,b,d⟩:=XK.running hm;rw[ht]at d;obtain⟨L',e,hL⟩:=d.code;have hf1:Jg μ n n1:=fun q x y=>hf q x (by omega)
 obtain⟨μ1,A1,w1,hp,hT,ZQ⟩:=ax (fr:=fr) (cs:=cs) (k:=L') a Qx 0 c.tmps H n T' H1 n1 (Ni Qx.length (l2.length+1)) PR hs hk (fun j r hj=>by rw[Nj];exact hown j r hj) rfl S μ w fr.tmps QF hB hS hf1
  (fun q hq X2=>hR q (MV _ hq) X2) b
 have hr:Ni 0 Qx.length++Ni Qx.length (l2.length+1)=Ni 0 ops.size:=by
  rw[hlen];have:=List.range'_append_1 (s:=0) (m:=Qx.length) (n:=l2.length+1);simpa using this
 rw[hr,List.range'_succ]at ZQ;obtain⟨Zl,w2,μ2,KY,ho,hst2⟩:=hdo _ μ1 w1 (Xz fr A1 ops (Qx.length::Ni (Qx.length+1) l2.length) L') cs L' ops Qx.length _ hp.ok (hB.post QF hp) (fun q hq=>hq.elim (fun e=>by have:=hS q e;omega) (fun e=>e.2))
  (fun q x y=>by rw[hp.ext q (by omega)];exact hf q (by omega) y) (fun x _ v hv=>nN (fr:=Xz fr A1 ops (Qx.length::Ni (Qx.length+1) l2.length) L') hT x v hv) (fun q hq X2=>by
   rcases Nm q n with h1|h1
   ·exact .inl (hR q (Nd _ hq) h1)
   ·exact .inr ⟨h1,X2⟩) a rfl hat (by rw[show(Xz fr A1 ops (Qx.length::Ni (Qx.length+1) l2.length) L').tmps=A1 from rfl,Kd hT];exact UE)
 have hpp:=hp.trans KY;cases ho with
 |ZG hv=>
  rename_i v';refine⟨{Xz fr A1 ops (Qx.length::Ni (Qx.length+1) l2.length) L' with mode:=.panicking [{v:=v',recovered:=false}]},w2,μ2,hpp,⟨XK.fn,hT.mono (KY.mu fun q x y=>by rw[hp.ext q (by omega)];exact hf q (by omega) y),(fun h=>by cases h),XK.defers.mono (hpp.mu hf),.ZG hv,XK.kind,XK.round.mono (hpp.mu hf)⟩,rfl,rfl,
   .head (Wg a e) (ZQ.trans (hst2.trans ?_))⟩
  simp only[OO.on,Frame.raise,Xz,a];exact Steps.refl _ _
theorem xi(hF:∀g,F g=true->Q8 P g=true)(XY:P.follows .mixedOrders=true){c c':CF}{H H':Qm}{n n':Nat}{f:Operand}{params:Array Tmp}{assign body:Code}{k:List Item}{keys W:List Nat}{out:OO}{UM:Qm}{p:Prop}(hu:Under H n)(hm:c.mode=.run)(ht:c.todo=.code (.rangeFunc f params assign body)::k)
 (h:Fw P F B c H n f params assign body k keys out UM n' W=some (c',H',p)) (hp:p):∃R,GoJ P B c H n c' H' n' R W:=by
 unfold Fw at h;split at h
 ·rename_i fv hfv;split at h
  ·rename_i H1 l ds R1 ho;split at h
   ·rename_i g args R2 hc;split at h
    ·rename_i c1 he;refine⟨R1++R2++keys, ?_⟩;split at h
     ·rename_i v;simp only[YO,YR]at h;obtain⟨rfl,rfl,rfl⟩:=h;have:P6 P F X7 (S5 c1 H1 (l+1) ⟨.ret v,UM++H1,n',keys,W⟩) c H n=some (.go {c with todo:=.endRangeFunc l::k,defers:=ds++c.defers} (UM++H1) n' (R1++R2++keys) W):=by
       unfold P6;simp only[hm,ht,hfv,ho,hc,he,PY]
      exact Vx hF XY (QL P B) (FJ.recS hp) hu this
     ·rename_i v;simp only[YO,YR]at h;obtain⟨rfl,rfl,rfl⟩:=h;have:P6 P F X7 (S5 c1 H1 (l+1) ⟨.ZG v,UM++H1,n',keys,W⟩) c H n=some (.go {c with mode:=.ZG v,defers:=ds++c.defers} (UM++H1) n' (R1++R2++keys) W):=by
       unfold P6;simp only[hm,ht,hfv,ho,hc,he,PY]
      exact Vx hF XY (QL P B) (FJ.recS hp) hu this
    ·cases h
   ·cases h
  ·cases h
 ·cases h
theorem S3(b:Nat):∀(fuel:Nat) (c:CF) (H:Qm) (n:Nat) (sc:QB) (q:Nat) (W0:List Nat) (L:List Prop) (s:ST),Qu P F J B fuel b c H n sc q W0 L=some s->Q3 s.L->Q3 L:=by
 intro fuel;induction fuel with
 |zero=>intro c H n sc q W0 L s h ha;simp only[Qu,YO]at h;subst h;exact ha
 |succ k ih=>
  intro c H n sc q W0 L s h ha;simp only[Qu]at h;split at h
  ·split at h
   ·rename_i r' hr';split at h
    ·have h:=Yf h;exact J9 _ _ _ _ _ _ _ _ hr' (ih _ _ _ _ _ _ _ _ h ha)
    ·exact J9 _ _ _ _ _ _ _ _ hr' (ih _ _ _ _ _ _ _ _ (Yf h) ha)
   ·cases h
  ·split at h
   ·split at h
    ·exact(ih _ _ _ _ _ _ _ _ h ha).2
    ·cases h
   ·split at h
    ·exact(ih _ _ _ _ _ _ _ _ h ha).2
    ·cases h
   ·cases h
  ·split at h
   ·exact ih _ _ _ _ _ _ _ _ h ha
   ·simp only[YO]at h;subst h;exact ha
   ·cases h
theorem Wm(hF:∀g,F g=true->Q8 P g=true)(hJ:∀w,B.has w->J w)(XY:P.follows .mixedOrders=true):∀(fuel b:Nat) (c:CF) (H:Qm) (n:Nat) (sc:QB) (q:Nat) (W0:List Nat) (L:List Prop) (s:ST),Under H n->Qu P F J B fuel b c H n sc q W0 L=some s->Q3 s.L->
 ∃R W,Mv P B c H n R W s.r/\∀i,i<b->(i∈s.W<->i∈W0\/i∈W)
 |0,b,c,H,n,sc,q,W0,L,s,hu,h,ha=>by
  simp only[Qu,YO]at h;subst h;exact⟨[],[],GoJ.refl c H n,fun i _=>by simp⟩
 |k+1,b,c,H,n,sc,q,W0,L,s,hu,h,ha=>by
  have plain:(match P6 P F X7 (fun _ _ _=>none) c H n with
   |some (.go c' H' n' _ W')=>Qu P F J B k b c' H' n' sc q (Wc b W' W0) L
   |some (.done out H' n' _ W')=>some ⟨.fin out H' n',Wc b W' W0,L⟩
   |none=>none)=some s->∃R W,Mv P B c H n R W s.r/\∀i,i<b->(i∈s.W<->i∈W0\/i∈W):=by
   intro h;split at h
   ·rename_i c' H' n' R' W' hs;have YA:GoJ P B c H n c' H' n' R' W':=Vx hF XY (QL P B) Jh hu hs;obtain⟨R,W,h1,h2⟩:=Wm hF hJ XY k b c' H' n' sc q _ L s (hu.shape YA.shape) h ha;refine⟨_,_,YA.srj h1,fun i hi=> ?_⟩;rw[h2 i hi,Zy hi,NG,or_assoc]
   ·rename_i out H' n' R' W' hs;have hdone:FJ P B c H n out H' n' R' W':=Vx hF XY (QL P B) Jh hu hs;simp only[YO]at h;subst h;exact⟨R',W',hdone,fun i hi=>Zy hi⟩
   ·cases h
  simp only[Qu]at h;split at h
  ·rename_i id ops draw todo hm ht;split at h
   ·rename_i r hr;cases hpan:r.ZG with
    |none=>
     rw[hpan]at h;simp only at h;cases hd:(!draw || (Vf 0 ops.toList && indep ops 0 r.Qx (Jf ops.toList [])))with
     |false=>rw[hd]at h;cases h
     |true=>
      rw[hd]at h;simp only[cond_true]at h;have hL:Q3 r.L:=by
       exact S3 b k _ _ _ _ _ _ _ s h ha
      obtain⟨h1,h2,WZ⟩:=Pn hF hJ (len:=c.tmps.len) ops.toList c.tmps H n sc q L r rfl hu hr hL;unfold RegOk at WZ;rw[hpan]at WZ;obtain⟨h3,h4,h5⟩:=WZ;have YA:=sM XY hm ht h1 h2 h3 h4 hd;obtain⟨R,W,k1,k2⟩:=Wm hF hJ XY k b _ _ _ _ _ _ _ s h5 h ha;refine⟨_,_,YA.srj k1,fun i hi=> ?_⟩;rw[k2 i hi,Zy hi,NG,or_assoc]
    |some p=>
     obtain⟨v,R1,W1⟩:=p;rw[hpan]at h;simp only at h;cases hd:(!draw || SH ops r.Qx r.T)with
     |false=>rw[hd]at h;cases h
     |true=>
      rw[hd]at h;simp only[cond_true]at h;have hL:Q3 r.L:=by
       exact S3 b k _ _ _ _ _ _ _ s h ha
      obtain⟨h1,h2,WZ⟩:=Pn hF hJ (len:=c.tmps.len) ops.toList c.tmps H n sc q L r rfl hu hr hL;unfold RegOk at WZ;rw[hpan]at WZ;have YA:GoJ P B c H n {c with tmps:=r.T,mode:=.ZG v} r.H r.n (KI r.Qx++R1) (Ui r.Qx++W1):=by
       cases draw with
       |true=>
        obtain⟨H1,n1,o,l2,x1,x2,x3,x4,x5,_⟩:=WZ;exact ia XY hm ht h1 h2 ⟨H1,n1,o,l2,x1,x2,x3,x4,x5⟩ (by simpa using hd)
       |false=>exact nI hm ht h1 h2 WZ
      obtain⟨_,_,_,_,_,_,_,_,_,h5⟩:=WZ;obtain⟨R,W,k1,k2⟩:=Wm hF hJ XY k b _ _ _ _ _ _ _ s h5 h ha;refine⟨_,_,YA.srj k1,fun i hi=> ?_⟩;rw[k2 i hi,Zy hi,NG (s:=Ui r.Qx++W1),or_assoc]
   ·cases h
  ·rename_i f params assign body todo hm ht;split at h
   ·rename_i keys out UM n1 W1 sc' htold;split at h
    ·rename_i c' H' p hi;have hL:=S3 b k _ _ _ _ _ _ _ s h ha;obtain⟨R0,YA⟩:=xj hF XY hu hm ht hi hL.1;obtain⟨R,W,h1,h2⟩:=Wm hF hJ XY k b _ _ _ _ _ _ _ s (hu.shape YA.shape) h ha;refine⟨_,_,YA.srj h1,fun i hi=> ?_⟩;rw[h2 i hi,Zy hi,NG,or_assoc]
    ·cases h
   ·rename_i keys out UM n1 W1 sc' htold;split at h
    ·rename_i c' H' p hi;have hL:=S3 b k _ _ _ _ _ _ _ s h ha;obtain⟨R0,YA⟩:=xi hF XY hu hm ht hi hL.1;obtain⟨R,W,h1,h2⟩:=Wm hF hJ XY k b _ _ _ _ _ _ _ s (hu.shape YA.shape) h ha;refine⟨_,_,YA.srj h1,fun i hi=> ?_⟩;rw[h2 i hi,Zy hi,NG,or_assoc]
    ·cases h
   ·cases h
  ·exact plain h
end
end Go.CE

namespace Go.CE
open Go Go.RowKit

def YK(H:Qm)(n:Nat):List Nat:=(MP n).filter fun r=>XE (Qs H r)
theorem pf{H:Qm}{n r:Nat}:r∈YK H n<->r<n/\XE (Qs H r)=true:=by simp[YK]
noncomputable def iZ(n n1:Nat)(ρ:Nat->Nat)(μ μ':Mu)(fm:Nat->Option Obj):Mu:=fun i=>if i=n then some ⟨0,0,0,false,fm⟩else if n<i/\i<n1 then μ' (ρ i)else μ i
structure zS (n n' n1:Nat) (W:List Nat) (μ μ':Mu) (H H' H1:Qm) (w':World) (ρ:Nat->Nat) (fk:List Nat):Prop where
 le:n<n1
 id:∀i,i<n->ρ i=i
 rng:∀i,n<i->i<n1->n<=ρ i/\ρ i<n'
 inj:∀i j,n<i->i<n1->n<j->j<n1->ρ i=ρ j->i=j
 under:Under H1 n1
 WM:∀i,i<n->i ∉ W->Qs H1 i=Qs H i
 Yg:Qs H1 n=some Xo
 obj:∀i o1,i<n1->(n<i\/i∈W/\i<n)->Qs H1 i=some o1->¬Wv o1/\(live o1->∃o,Qs H' (ρ i)=some o/\live o/\∀im,μ' (ρ i)=some im->OR μ' w' im o->OR (iZ n n1 ρ μ μ' (KJ μ' H' w' (YK H' n'++fk))) w' im o1)
 fz:∀k∈fk,n<=k/\k<n'/\(∃o,Qs H' k=some o/\live o)/\∀i,n<i->i<n1->ρ i≠k
theorem Post.merge{B n n' n1:Nat}{W:List Nat}{μ μ':Mu}{H H' H1:Qm}{w w':World}{ρ:Nat->Nat}{fk:List Nat}(QF:Ok B (fun i=>i<n) μ (Qs H) w)(hf:∀i,n<=i->μ i=none)(hp:Post B (fun i=>i<n) n n' W μ μ' H H' w w')(k:zS n n' n1 W μ μ' H H' H1 w' ρ fk):
 Post B (fun i=>i<n) n n1 W μ (iZ n n1 ρ μ μ' (KJ μ' H' w' (YK H' n'++fk))) H H1 w w':=by
 have le1:=k.le;have hlow:∀i,i<n->iZ n n1 ρ μ μ' (KJ μ' H' w' (YK H' n'++fk)) i=μ i:=fun i hi=>by unfold iZ;rw[if_neg (by omega),if_neg (by omega)]
 have hhigh:∀i,n<i->i<n1->iZ n n1 ρ μ μ' (KJ μ' H' w' (YK H' n'++fk)) i=μ' (ρ i):=fun i h1 h2=>by unfold iZ;rw[if_neg (by omega),if_pos ⟨h1,h2⟩]
 have hmid:iZ n n1 ρ μ μ' (KJ μ' H' w' (YK H' n'++fk)) n=some ⟨0,0,0,false,KJ μ' H' w' (YK H' n'++fk)⟩:=by unfold iZ;rw[if_pos rfl]
 have hext:Ext μ (iZ n n1 ρ μ μ' (KJ μ' H' w' (YK H' n'++fk))):=by
  intro i im QK;rcases Nm i n with h|h
  ·rw[hlow i h];exact QK
  ·rw[hf i h]at QK;cases QK
 generalize hM:iZ n n1 ρ μ μ' (KJ μ' H' w' (YK H' n'++fk))=μ1 at *;have obj:=k.obj;rw[hM]at obj
 -- an object of the new heap: an WM one Pf was left, the region, or one of the run
 have other:∀i o im,i<n->i ∉ W->Qs H i=some o->live o->μ i=some im->w'.heap[im.Z1]? =w.heap[im.Z1]? :=by
  intro i o im hi hw ho hl QK;refine hp.frame _ (QF.low i o im hi ho hl QK).1 fun q hq hqn ZC QW hb=> ?_
  obtain⟨_,⟨oq,hoq,hlq⟩,im2,WC,hr⟩:=hp.wr q hq hqn;rw[QW]at WC;cases WC;by_cases hra:im.rw=true
  ·exact QF.inj q i oq o ZC im hqn hi (fun e=>hw (e ▸ hq)) hoq ho hlq hl QW QK hr hra hb
  ·have a:=(QF.low i o im hi ho hl QK).2.2 (by simpa using hra);have b:=(QF.low q oq ZC hqn hoq hlq QW).2.1 hr;omega
 have hS':∀i,i<n1->i≠n->(ρ i<n\/n<=ρ i/\ρ i<n'):=by
  intro i hi KG;rcases Nm i n with h|h
  ·exact .inl (by rw[k.id i h];exact h)
  ·exact .inr (k.rng i (by omega) hi)
 have hmuR:∀i,i<n1->i≠n->μ1 i=μ' (ρ i):=by
  intro i hi KG;rcases Nm i n with h|h
  ·rw[hlow i h,k.id i h,hp.ext i (by omega)]
  ·exact hhigh i (by omega) hi
 have Ud:∀i,(i<n\/n<=i/\i<n1)->i<n1:=fun i hi=>hi.elim (fun e=>by omega) (fun e=>e.2)
 have liveH':∀i o1,i<n1->Qs H1 i=some o1->live o1->i≠n/\∃o,Qs H' (ρ i)=some o/\live o:=by
  intro i o1 hi ho hl;have KG:i≠n:=fun e=>by rw[e,k.Yg]at ho;cases ho;exact hl.elim
  refine⟨KG, ?_⟩;by_cases h:n<i\/i∈W/\i<n
  ·obtain⟨o,h1,h2,_⟩:=(obj i o1 hi h ho).2 hl;exact⟨o,h1,h2⟩
  ·have h1:i<n:=by omega
   have h2:i ∉ W:=fun e=>h (.inr ⟨e,h1⟩)
   rw[k.WM i h1 h2]at ho;exact⟨o1,by rw[k.id i h1,hp.keep i h1 h2];exact ho,hl⟩
 have hinj:∀i j,i<n1->j<n1->i≠n->j≠n->ρ i=ρ j->i=j:=by
  intro i j hi hj P3 hjn e;rcases Nm i n with h|h <;> rcases Nm j n with h'|h'
  ·rw[k.id i h,k.id j h']at e;exact e
  ·have:=k.rng j (by omega) hj;rw[k.id i h]at e;omega
  ·have:=k.rng i (by omega) hi;rw[k.id j h']at e;omega
  ·exact k.inj i j (by omega) hi (by omega) hj e
 have regH1:∀i o,i<n1->Qs H1 i=some o->Wv o->i=n\/(i<n/\i ∉ W/\Qs H i=some o/\Qs H' i=some o):=by
  intro i o hi ho hr;by_cases KG:i=n
  ·exact .inl KG
  ·by_cases h:n<i\/i∈W/\i<n
   ·exact absurd hr (obj i o hi h ho).1
   ·have h1:i<n:=by omega
    have h2:i ∉ W:=fun e=>h (.inr ⟨e,h1⟩)
    rw[k.WM i h1 h2]at ho;exact .inr ⟨h1,h2,ho,by rw[hp.keep i h1 h2];exact ho⟩
 have deadW:∀q,q∈W->q<n->(∀o,Qs H' q=some o->¬live o)->∀o,Qs H1 q=some o->¬live o:=by
  intro q hq hqn hd o ho hl;obtain⟨_,o',h5,h6⟩:=liveH' q o (by omega) ho hl;rw[k.id q hqn]at h5;exact hd o' h5 h6
 -- what stands in the region
 have fmCase:∀b x,KJ μ' H' w' (YK H' n'++fk) b=some x->w'.heap[b]? =some x/\((∃r o im,r<n'/\Qs H' r=some o/\Wv o/\μ' r=some im/\im.fm b=some x)\/∃q o im,q∈fk/\Qs H' q=some o/\live o/\μ' q=some im/\im.Z1=b):=by
  intro b x h;have hw:=WW h;refine⟨hw, ?_⟩;unfold KJ at h;split at h
  ·rename_i hc;obtain⟨i,hi,o,im,ho,QK,UF⟩:=hc;rcases List.mem_append.1 hi with hi|hi
   ·obtain⟨X2,K4⟩:=pf.1 hi;obtain⟨o',Kb,hr'⟩:=ZU K4;rw[ho]at Kb;cases Kb;rcases UF with ⟨_,KG⟩|⟨hl,_⟩
    ·cases hx:im.fm b with
     |none=>exact absurd hx KG
     |some y=>
      obtain⟨ZC,QW,hf'⟩:=hp.ok.Yg i o (by rcases Nm i n with h|h;exact .inl h;exact .inr ⟨h,X2⟩) ho hr'
      rw[QK]at QW;cases QW;have:=hf' b y hx;rw[hw]at this;cases this;exact .inl ⟨i,o,im,X2,ho,hr',QK,hx⟩
    ·exact absurd hl (by cases o <;> first|exact id|exact hr'.elim)
   ·obtain⟨h1,h2,⟨o',Kb,hl'⟩,_⟩:=k.fz i hi;rw[ho]at Kb;cases Kb;rcases UF with ⟨hr,_⟩|⟨hl,hb⟩
    ·exact absurd hl' (by cases o <;> first|exact id|exact hr.elim)
    ·exact .inr ⟨i,o,im,hi,ho,hl,QK,hb⟩
  ·cases h
 have hin':∀r,r<n'->(r<n\/n<=r/\r<n'):=fun r h=>by omega
 refine⟨⟨fun i o hi ho hl=> ?_,fun i o im hi ho hl QK=> ?_,fun i j oi oj a b hi hj P4 Wl Wj P2 Uk ha hb hra K4=> ?_,fun i o hi ho hr=> ?_,fun i j oi oj a b x hi hj Wl Wj YG Uk ha hb K4 hx=> ?_⟩,by omega,fun i hi=> ?_,fun i hi hw=>k.WM i hi hw,hp.grow,hp.frame,hp.wr,fun i im o h1 h2 ho hl QK=> ?_,fun i im o hi ho hr QK b x hx=> ?_,hp.os,hp.tape,hp.output⟩
 ·have hi1:=Ud i hi;have KG:=(liveH' i o hi1 ho hl).1;by_cases h:n<i\/i∈W/\i<n
  ·obtain⟨o',h1,h2,h4⟩:=(obj i o hi1 h ho).2 hl;obtain⟨im,QK,Wd⟩:=hp.ok.rel (ρ i) o' (hS' i hi1 KG) h1 h2;exact⟨im,by rw[hmuR i hi1 KG];exact QK,h4 im QK Wd⟩
  ·have h1:i<n:=by omega
   have h2:i ∉ W:=fun e=>h (.inr ⟨e,h1⟩)
   rw[k.WM i h1 h2]at ho;obtain⟨im,QK,Wd⟩:=QF.rel i o h1 ho hl;exact⟨im,hext _ _ QK,Wd.keep hext (other i o im h1 h2 ho hl QK)⟩
 ·have hi1:=Ud i hi;obtain⟨KG,o',h1,h2⟩:=liveH' i o hi1 ho hl;rw[hmuR i hi1 KG]at QK;exact hp.ok.low (ρ i) o' im (hS' i hi1 KG) h1 h2 QK
 ·have hi1:=Ud i hi;have hj1:=Ud j hj;obtain⟨hni,o1,h1,h2⟩:=liveH' i oi hi1 Wl P2;obtain⟨hnj,o2,h3,h4⟩:=liveH' j oj hj1 Wj Uk;rw[hmuR i hi1 hni]at ha;rw[hmuR j hj1 hnj]at hb;exact hp.ok.inj (ρ i) (ρ j) o1 o2 a b (hS' i hi1 hni) (hS' j hj1 hnj) (fun e=>P4 (hinj i j hi1 hj1 hni hnj e)) h1 h3 h2 h4 ha hb hra K4
 ·rcases regH1 i o (Ud i hi) ho hr with P3|⟨h1,h2,h3,h4⟩
  ·rw[P3];exact⟨_,hmid,fun b x h=>WW h⟩
  ·obtain⟨im,QK,hf'⟩:=hp.ok.Yg i o (.inl h1) h4 hr;rw[hp.ext i (by omega)]at QK;exact⟨im,hext _ _ QK,hf'⟩
 ·have hj1:=Ud j hj;obtain⟨hnj,o2,h3,h4⟩:=liveH' j oj hj1 Wj Uk;rw[hmuR j hj1 hnj]at hb;rcases regH1 i oi (Ud i hi) Wl YG with P3|⟨h1,h2,h5,h6⟩
  ·rw[P3,hmid]at ha;cases ha;obtain⟨_,UF⟩:=fmCase _ _ hx;rcases UF with ⟨r,o,im,X2,ho,hr,QK,hfx⟩|⟨q,o,im,hq,ho,hl,QK,hbb⟩
   ·exact hp.ok.sep r (ρ j) o o2 im b x (hin' r X2) (hS' j hj1 hnj) ho h3 hr h4 QK hb K4 hfx
   ·obtain⟨q1,q2,_,q3⟩:=k.fz q hq;have KG:q≠ρ j:=by
     intro e;rcases Nm j n with h|h
     ·rw[k.id j h]at e;omega
     ·exact q3 j (by omega) hj1 e.symm
    have UL:=(hp.fresh q im o q1 q2 ho hl QK).1;exact hp.ok.inj q (ρ j) o o2 im b (hin' q q2) (hS' j hj1 hnj) KG ho h3 hl h4 QK hb UL K4 hbb
  ·rw[hlow i h1]at ha;exact hp.ok.sep i (ρ j) oi o2 a b x (.inl h1) (hS' j hj1 hnj) h6 h3 YG h4 (by rw[hp.ext i (by omega)];exact ha) hb K4 hx
 ·rw[<-hM];unfold iZ;rw[if_neg (by omega),if_neg (by omega)]
 ·obtain⟨KG,o',h3,h4⟩:=liveH' i o h2 ho hl;rw[hmuR i h2 KG]at QK;obtain⟨a,b⟩:=k.rng i (by omega) h2;obtain⟨hr,XK⟩:=hp.fresh (ρ i) im o' a b h3 h4 QK;exact⟨hr,XK.imp id fun⟨q,hq,hqn,hb,hd⟩=>⟨q,hq,hqn,hb,deadW q hq hqn hd⟩⟩
 ·have hi1:i<n1:=by omega
  rcases regH1 i o hi1 ho hr with P3|⟨h1,h2,_⟩
  ·rw[P3,hmid]at QK;cases QK;obtain⟨_,UF⟩:=fmCase _ _ hx;rcases UF with ⟨r,o,im,X2,ho,hr,QK,hfx⟩|⟨q,o,im,hq,ho,hl,QK,hbb⟩
   ·by_cases hx:n<=r/\r<n'\/r∈W/\r<n
    ·rcases hp.rf r im o hx ho hr QK b x hfx with c|c|⟨q,hq,hqn,hb,hd⟩
     ·exact .inl c
     ·exact .inr (.inl c)
     ·exact .inr (.inr ⟨q,hq,hqn,hb,deadW q hq hqn hd⟩)
    ·have h:r<n:=by omega
     rw[hp.keep r h fun e=>hx (.inr ⟨e,h⟩)]at ho;rw[hp.ext r (by omega)]at QK;exact .inr (.inl ⟨r,im,o,h,h,ho,hr,QK,hfx⟩)
   ·obtain⟨q1,q2,_,_⟩:=k.fz q hq;rcases(hp.fresh q im o q1 q2 ho hl QK).2 with c|⟨q',hq',hqn,⟨ZC,QW,hb'⟩,hd⟩
    ·exact .inl (by omega)
    ·exact .inr (.inr ⟨q',hq',hqn,⟨ZC,QW,by omega⟩,deadW q' hq' hqn hd⟩)
  ·rcases hi with hi|hi
   ·omega
   ·exact absurd hi.1 h2
end Go.CE

namespace Go.CE
open Go Go.RowKit

section
variable (H:Qm) (m:Nat) (pos:Nat->Option Nat) (fz:List Fz)
def Iq(v:Value):Option (Value×List Prop):=bif simple v then some (v,[])else match v with
 | .func (.via r ⟨[]⟩ 0 true) ⟨[t]⟩ ⟨[]⟩=>bif XE (Qs H r) && Vo t then some (Qv ((pos r).getD m) t,[])else none
 | .pointer (some ⟨k,o,none⟩)=>match pos k with
   |some j=>some (.pointer (some ⟨j,o,none⟩),[])
   |none=>match ic fz k,Qs H k with
    |some x,some (.cells cs _ (0,0))=>bif x.rs.all fun r=>XE (Qs H r)then some (Qv m (PH o x.cs),[ZY x.rs cs x.cs])else none
    |_,_=>some (.chan none,[])
 | .slice (some ⟨k,o,none⟩) n z=>match pos k with
   |some j=>some (.slice (some ⟨j,o,none⟩) n z,[])
   |none=>match o,ic fz k,Qs H k with
    |0,some x,some (.cells cs _ (0,0))=>bif x.rs.all fun r=>XE (Qs H r)then some (Qv m (QJ n x.cs),[ZY x.rs cs x.cs])else none
    |_,_,_=>some (.chan none,[])
 | .map (some r)=>match pos r with
   |some j=>some (.map (some j),[])
   |none=>some (.chan none,[])
 | .func (.yield l) ⟨[]⟩ ⟨[]⟩=>match pos l with
   |some j=>some (.func (.yield j) #[] #[],[])
   |none=>some (.chan none,[])
 | .chan none=>some (.chan none,[])
 |_=>none
def qH(f:Value->Option (Value×List Prop)):List Value->Option (List Value×List Prop)
 |[]=>some ([],[])
 |v::l=>match f v with
  |some (t,L)=>match qH f l with
   |some (ts,L2)=>some (t::ts,L++L2)
   |none=>none
  |none=>none
def sS:Nat->Value->Option (Value×List Prop)
 |0,v=>Iq H m pos fz v
 |f+1,v=>match v with
  | .agg xs=>match qH (sS f) xs.toList with
    |some (l,L)=>some (.agg l.toArray,L)
    |none=>none
  | .tuple xs=>match qH (sS f) xs.toList with
    |some (l,L)=>some (.tuple l.toArray,L)
    |none=>none
  | .iface t x=>match sS f x with
    |some (x,L)=>some (.iface t x,L)
    |none=>none
  | .func (.func g) xs ys=>match qH (sS f) xs.toList with
    |some (l,L)=>match qH (sS f) ys.toList with
     |some (k,L2)=>some (.func (.func g) l.toArray k.toArray,L++L2)
     |none=>none
    |none=>none
  |v=>Iq H m pos fz v
def Mo(rs:List Nat)(v v1:Value):Prop:=(simple v=true/\v1=v)\/∃r∈rs,∃t,v=Qv r t/\v1=Qv m t/\Vo t=true
def XV(rs:List Nat)(cs cs1:Array Value):Prop:=cs.size=cs1.size/\∀(i:Nat) v v1,cs[i]? =some v->cs1[i]? =some v1->Mo m rs v v1
end
theorem QR{m:Nat}{rs:List Nat}{cs:Array Value}(h:∀v∈cs,simple v=true):XV m rs cs cs:=⟨rfl,fun i v v1 h1 h2=>by
 rw[h1]at h2;cases h2;exact .inl ⟨h v (Nq h1),rfl⟩⟩
inductive iA (m:Nat) (rs:List (Nat×Nat)) (KK:List (Nat×Array Value)) (ow:List (Nat×Nat)):Value->Value->Prop
 |simple {v}:CE.simple v=true->iA m rs KK ow v v
 |Yg {r j t}:(r,j)∈rs->Vo t=true->iA m rs KK ow (Qv r t) (Qv j t)
 |own {k cs n c}:(k,cs)∈KK->iA m rs KK ow (.slice (some ⟨k,0,none⟩) n c) (Qv m (QJ n cs))
 |nil:iA m rs KK ow (.slice none 0 0) (Qv m (QJ 0 #[]))
 |keep {k j n c}:(k,j)∈ow->iA m rs KK ow (.slice (some ⟨k,0,none⟩) n c) (.slice (some ⟨j,0,none⟩) n c)
def AllX(m:Nat)(rs:List (Nat×Nat))(KK:List (Nat×Array Value))(ow:List (Nat×Nat)):List Value->List Value->Prop
 |[],[]=>True
 |v::l,u::k=>iA m rs KK ow v u/\AllX m rs KK ow l k
 |_,_=>False
def Zj(m:Nat)(rs:List (Nat×Nat))(KK:List (Nat×Array Value))(ow:List (Nat×Nat))(cs cs1:Array Value):Prop:=AllX m rs KK ow cs.toList cs1.toList
theorem AllX.get{m:Nat}{rs:List (Nat×Nat)}{KK:List (Nat×Array Value)}{ow:List (Nat×Nat)}:∀{l k:List Value},AllX m rs KK ow l k->k.length=l.length/\∀(i:Nat) v u,l[i]? =some v->k[i]? =some u->iA m rs KK ow v u
 |[],[],_=>⟨rfl,fun i v u h=>by simp at h⟩
 |v::l,u::k,h=>by
  obtain⟨a,b⟩:=AllX.get h.2;refine⟨by simp[a],fun i x y hx hy=> ?_⟩;cases i with
  |zero=>
   simp only[Nb,YO]at hx hy;subst hx hy;exact h.1
  |succ i=>exact b i x y (by simpa using hx) (by simpa using hy)
 |[],_::_,h=>h.elim
 |_::_,[],h=>h.elim
theorem AllX.append{m:Nat}{rs:List (Nat×Nat)}{KK:List (Nat×Array Value)}{ow:List (Nat×Nat)}:∀{l k l2 k2:List Value},AllX m rs KK ow l k->AllX m rs KK ow l2 k2->AllX m rs KK ow (l++l2) (k++k2)
 |[],[],_,_,_,h2=>h2
 |_::_,_::_,_,_,h,h2=>⟨h.1,AllX.append h.2 h2⟩
 |[],_::_,_,_,h,_=>h.elim
 |_::_,[],_,_,h,_=>h.elim
section
variable {B:Nat} {S:Nat->Prop} {H:Qm} {m:Nat} {pos:Nat->Option Nat} {fz:List Fz} {μ μ1:Mu} {w:World} {n':Nat} {fk:List Nat} {im1:bZ}
structure xL (H:Qm) (m:Nat) (pos:Nat->Option Nat) (fz:List Fz) (μ μ1:Mu) (w:World) (n':Nat) (fk:List Nat) (im1:bZ):Prop where
 ok:∃B S,Ok B S μ (Qs H) w/\∀i,i<n'->S i
 under:Under H n'
 here:∀k j,pos k=some j->μ1 j=μ k
 Yg:μ1 m=some im1
 fm:im1.fm=KJ μ H w (YK H n'++fk)
 sub:∀x∈fz,x.k∈fk
theorem fO:∀(l:List Fz) (k:Nat) (x:Fz),ic l k=some x->x∈l/\x.k=k
 |[],k,x,h=>by cases h
 |y::l,k,x,h=>by
  simp only[ic]at h;cases e:MQ y.k k with
  |true=>
   rw[e]at h;simp only[cond_true,YO]at h;subst h;exact⟨by simp,YE e⟩
  |false=>
   rw[e]at h;obtain⟨h1,h2⟩:=fO l k x h;exact⟨Nc _ h1,h2⟩
theorem C0(hu:Under H n'){r:Nat}(h:XE (Qs H r)=true):r<n':=by
 obtain⟨o,ho,_⟩:=ZU h;exact hu.lt ho
theorem eC(c:xL H m pos fz μ μ1 w n' fk im1){r:Nat}(hr:XE (Qs H r)=true){im:bZ}(QK:μ r=some im){b:Nat}{x:Obj}(hx:im.fm b=some x):im1.fm b=some x:=by
 obtain⟨B,S,QF,hS⟩:=c.ok;rw[c.fm];have X2:=C0 c.under hr;exact jr QF (MV _ (pf.2 ⟨X2,hr⟩)) (hS r X2) hr QK hx
theorem iq(c:xL H m pos fz μ μ1 w n' fk im1){rs:List Nat}(WZ:(rs.all fun r=>XE (Qs H r))=true){v v1 v':Value}(h:oz rs v v1)(hv:VR μ v v'):TRv im1.fm v1 v':=by
 rcases h with ⟨h1,rfl⟩|⟨r,hr,rfl,_⟩
 ·rw[simple_eq h1 hv];exact .simple h1
 ·obtain⟨im,QK,ht⟩:=hv.top_inv;exact ht.mono fun b x hx=>eC c (List.all_eq_true.1 WZ r hr) QK hx
theorem Sf(c:xL H m pos fz μ μ1 w n' fk im1){v v' t:Value}{L:List Prop}(h:Iq H m pos fz v=some (t,L))(hL:Q3 L)(hv:VR μ v v'):VR μ1 t v':=by
 obtain⟨B,S,QF,hS⟩:=c.ok;have addr:∀{k j o:Nat} {a':Addr},pos k=some j->AR μ ⟨k,o,none⟩ a'->AR μ1 ⟨j,o,none⟩ a':=by
  rintro k j o a' hp ⟨im,h1,h2,h3⟩;exact⟨im,by rw[c.here k j hp];exact h1,rfl,h3⟩
 unfold Iq at h;cases hs:simple v with
 |true=>
  rw[hs]at h;simp only[cond_true,YO,YR]at h;obtain⟨rfl,rfl⟩:=h;rw[simple_eq hs hv];exact We hs
 |false=>
  rw[hs]at h;simp only[cond_false]at h;split at h
  ·rename_i r t0;cases hg:(XE (Qs H r) && Vo t0)with
   |false=>rw[hg]at h;cases h
   |true=>
    rw[hg]at h;simp only[cond_true,YO,YR]at h;obtain⟨rfl,rfl⟩:=h;simp only[YB]at hg;obtain⟨im,QK,ht⟩:=VR.top_inv (r:=r) (t:=t0) hv;cases hp:pos r with
    |none=>exact .top hg.2 c.Yg (ht.mono fun b x hx=>eC c hg.1 QK hx)
    |some j=>exact .top hg.2 (by rw[Option.getD_some,c.here r j hp];exact QK) ht
  ·rename_i k o;split at h
   ·rename_i j hj;simp only[YO,YR]at h;obtain⟨rfl,rfl⟩:=h;cases hv with
    |ptr har=>exact .ptr (addr hj har)
   ·split at h
    ·rename_i x cs ty hx hg;cases hr:(x.rs.all fun r=>XE (Qs H r))with
     |false=>rw[hr]at h;cases h
     |true=>
      rw[hr]at h;simp only[cond_true,YO,YR]at h;obtain⟨rfl,rfl⟩:=h;obtain⟨⟨h2,h3⟩,_⟩:=hL;obtain⟨hxm,hxk⟩:=fO _ _ _ hx;have hkf:k∈fk:=hxk ▸ c.sub x hxm;obtain⟨im,arr,QK,_,hoff,harr,hle,_,hcells⟩:=aU QF (hS k (c.under.lt hg)) hg;cases hv with
      |ptr har=>
       obtain⟨im2,WC,_,rfl⟩:=har;rw[QK]at WC;cases WC;rw[hoff];refine .top rfl c.Yg (TRv.ptr (o:=0) (by rw[c.fm];exact(js (Nd _ hkf) hg trivial QK).trans harr) (fun i hi=>by omega) fun i v v' hv Wq=> ?_);simp only[Nj]at Wq;have hi:i<cs.size:=by rw[h2];exact(Array.getElem?_eq_some_iff.1 hv).1
       obtain⟨u,SM,hu2⟩:=hcells i cs[i] (by simp[hi]);rw[Wq]at SM;cases SM;exact iq c hr (h3 i _ _ (by simp[hi]) hv) hu2
    ·simp only[YO,YR]at h;obtain⟨rfl,rfl⟩:=h;cases hv;exact .KF (fun b e=>by cases e) rfl rfl
  ·rename_i k o n z;split at h
   ·rename_i j hj;simp only[YO,YR]at h;obtain⟨rfl,rfl⟩:=h;cases hv with
    |slice har a b d=>
     refine .slice (addr hj har) a b fun hz im QK UL hoff=>d hz im ?_ UL hoff
     rw[<-c.here k j hj];exact QK
   ·split at h
    ·rename_i x cs ty hx hg;cases hr:(x.rs.all fun r=>XE (Qs H r))with
     |false=>rw[hr]at h;cases h
     |true=>
      rw[hr]at h;simp only[cond_true,YO,YR]at h;obtain⟨rfl,rfl⟩:=h;obtain⟨⟨h2,h3⟩,_⟩:=hL;obtain⟨hxm,hxk⟩:=fO _ _ _ hx;have hkf:k∈fk:=hxk ▸ c.sub x hxm;obtain⟨im,arr,QK,_,hoff,harr,hle,_,hcells⟩:=aU QF (hS k (c.under.lt hg)) hg;cases hv with
      |slice har a b _=>
       obtain⟨im2,WC,_,rfl⟩:=har;rw[QK]at WC;cases WC;rw[hoff];refine .top rfl c.Yg (TRv.slice (o:=0) a b (by rw[c.fm];exact(js (Nd _ hkf) hg trivial QK).trans harr) (fun i hi=>by omega) fun i v v' hv Wq=> ?_);simp only[Nj]at Wq;have hi:i<cs.size:=by rw[h2];exact(Array.getElem?_eq_some_iff.1 hv).1
       obtain⟨u,SM,hu2⟩:=hcells i cs[i] (by simp[hi]);rw[Wq]at SM;cases SM;exact iq c hr (h3 i _ _ (by simp[hi]) hv) hu2
    ·simp only[YO,YR]at h;obtain⟨rfl,rfl⟩:=h;cases hv;exact .KF (fun b e=>by cases e) rfl rfl
  ·rename_i r;split at h
   ·rename_i j hj;simp only[YO,YR]at h;obtain⟨rfl,rfl⟩:=h;cases hv with
    |map hr=>exact .map (by rw[c.here r j hj];exact hr)
   ·simp only[YO,YR]at h;obtain⟨rfl,rfl⟩:=h;cases hv;exact .KF (fun b e=>by cases e) rfl rfl
  ·rename_i l;split at h
   ·rename_i j hj;simp only[YO,YR]at h;obtain⟨rfl,rfl⟩:=h;cases hv with
    |yield hl=>exact .yield (by rw[c.here l j hj];exact hl)
   ·simp only[YO,YR]at h;obtain⟨rfl,rfl⟩:=h;cases hv;exact .KF (fun b e=>by cases e) rfl rfl
  ·simp only[YO,YR]at h;obtain⟨rfl,rfl⟩:=h;cases hv with
   |KF a b c=>exact .KF a b c
  ·cases h
theorem fT{f:Value->Option (Value×List Prop)}(hf:∀v v' t L,f v=some (t,L)->Q3 L->VR μ v v'->VR μ1 t v'):∀(l ts:List Value) (L:List Prop) (l':List Value),qH f l=some (ts,L)->Q3 L->l.length=l'.length->(∀(i:Nat) v v',l[i]? =some v->l'[i]? =some v'->VR μ v v')->
 ts.length=l'.length/\∀(i:Nat) v v',ts[i]? =some v->l'[i]? =some v'->VR μ1 v v'
 |[],ts,L,l',h,hL,hl,hv=>by
  simp only[qH,YO,YR]at h;obtain⟨rfl,rfl⟩:=h;exact⟨hl,fun i v v' h=>by simp at h⟩
 |v::l,ts,L,[],h,hL,hl,hv=>by simp at hl
 |v::l,ts,L,v'::l',h,hL,hl,hv=>by
  simp only[qH]at h;split at h
  ·rename_i t L1 h1;split at h
   ·rename_i ts2 L2 h2;simp only[YO,YR]at h;obtain⟨rfl,rfl⟩:=h;obtain⟨a,b⟩:=Xw hL;have k1:=hf v v' t L1 h1 a (hv 0 v v' rfl rfl);obtain⟨k2,k3⟩:=fT hf l ts2 L2 l' h2 b (by simpa using hl) fun i u u' x y=>hv (i+1) u u' (by simpa using x) (by simpa using y)
    refine⟨by simp[k2],fun i u u' x y=> ?_⟩;cases i with
    |zero=>
     simp only[Nb,YO]at x y;subst x y;exact k1
    |succ i=>exact k3 i u u' (by simpa using x) (by simpa using y)
   ·cases h
  ·cases h
theorem Ua(c:xL H m pos fz μ μ1 w n' fk im1):∀(f:Nat) (v v' t:Value) (L:List Prop),sS H m pos fz f v=some (t,L)->Q3 L->VR μ v v'->VR μ1 t v'
 |0,v,v',t,L,h,hL,hv=>Sf c h hL hv
 |f+1,v,v',t,L,h,hL,hv=>by
  have arr:∀{xs xs':Array Value} {l:List Value} {L:List Prop},qH (sS H m pos fz f) xs.toList=some (l,L)->Q3 L->xs.size=xs'.size->(∀(i:Nat) v v',xs[i]? =some v->xs'[i]? =some v'->VR μ v v')->l.toArray.size=xs'.size/\∀(i:Nat) v v',l.toArray[i]? =some v->xs'[i]? =some v'->VR μ1 v v':=by
   intro xs xs' l L h hL hs hx;obtain⟨a,b⟩:=fT (fun v v' t L=>Ua c f v v' t L) xs.toList l L xs'.toList h hL (by simpa using hs) fun i v v' x y=>hx i v v' (by simpa using x) (by simpa using y)
   exact⟨by simpa using a,fun i v v' x y=>b i v v' (by simpa using x) (by simpa using y)⟩
  cases v with
  |agg xs=>
   simp only[sS]at h;split at h
   ·rename_i l L1 hl;simp only[YO,YR]at h;obtain⟨rfl,rfl⟩:=h;cases hv with
    |agg h1 h2=>exact .agg (arr hl hL h1 h2).1 (arr hl hL h1 h2).2
   ·cases h
  |tuple xs=>
   simp only[sS]at h;split at h
   ·rename_i l L1 hl;simp only[YO,YR]at h;obtain⟨rfl,rfl⟩:=h;cases hv with
    |tuple h1 h2=>exact .tuple (arr hl hL h1 h2).1 (arr hl hL h1 h2).2
   ·cases h
  |iface ty x=>
   simp only[sS]at h;split at h
   ·rename_i l L1 hl;simp only[YO,YR]at h;obtain⟨rfl,rfl⟩:=h;cases hv with
    |iface hv=>exact .iface (Ua c f _ _ _ _ hl hL hv)
   ·cases h
  |func fn xs ys=>
   cases fn with
   |func g=>
    simp only[sS]at h;split at h
    ·rename_i l L1 hl;split at h
     ·rename_i k L2 hk;simp only[YO,YR]at h;obtain⟨rfl,rfl⟩:=h;obtain⟨a,b⟩:=Xw hL;cases hv with
      |func h1 h2 h3 h4=>
       have k1:=arr hl a h1 h3;have k2:=arr hk b h2 h4;exact .func k1.1 k2.1 k1.2 k2.2
     ·cases h
    ·cases h
   |_=>exact Sf (fz:=fz) c (by exact h) hL hv
  |_=>exact Sf (fz:=fz) c (by exact h) hL hv
end
inductive KS where
 |auto
 |cells (rs:List Nat) (cs:Array Value)
 |same
 |dead
 |rows (rs:List (Nat×Nat)) (ks:List Nat) (ow:List (Nat×Nat)) (cs:Array Value)
def Fu(pos:Nat->Option Nat)(p:Nat×Nat):Bool:=match pos p.1 with
 |some j=>MQ j p.2
 |none=>false
def FN(H:Qm)(pos:Nat->Option Nat)(fz:List Fz):List Nat->Option (List (Nat×Array Value)×List Prop)
 |[]=>some ([],[])
 |k::l=>match pos k,ic fz k,Qs H k with
  |none,some x,some (.cells cs _ (0,0))=>bif x.rs.all fun r=>XE (Qs H r)then match FN H pos fz l with
   |some (KK,L)=>some ((k,x.cs)::KK,ZY x.rs cs x.cs::L)
   |none=>none
    else none
  |_,_,_=>none
theorem x9{H:Qm}{m:Nat}{pos:Nat->Option Nat}{fz:List Fz}:∀(ks:List Nat) (KK:List (Nat×Array Value)) (L:List Prop),FN H pos fz ks=some (KK,L)->Q3 L->∀k cs n c,(k,cs)∈KK->∃L',Iq H m pos fz (.slice (some ⟨k,0,none⟩) n c)=some (Qv m (QJ n cs),L')/\Q3 L'
 |[],KK,L,h,hL,k,cs,n,c,hm=>by
  simp only[FN,YO,YR]at h;obtain⟨rfl,rfl⟩:=h;simp at hm
 |k0::l,KK,L,h,hL,k,cs,n,c,hm=>by
  simp only[FN]at h;split at h
  ·rename_i x cs0 t0 h1 h2 h3;cases hr:(x.rs.all fun r=>XE (Qs H r))with
   |false=>rw[hr]at h;cases h
   |true=>
    rw[hr]at h;simp only[cond_true]at h;split at h
    ·rename_i frs2 L2 h4;simp only[YO,YR]at h;obtain⟨rfl,rfl⟩:=h;rcases List.mem_cons.1 hm with e|e
     ·simp only[YR]at e;obtain⟨rfl,rfl⟩:=e;refine⟨[ZY x.rs cs0 x.cs], ?_,hL.1,trivial⟩;unfold Iq;have hs:simple (.slice (some ⟨k,0,none⟩) n c)=false:=rfl;rw[hs];simp only[cond_false,h1,h2,h3,hr,cond_true]
     ·exact x9 l frs2 L2 h4 hL.2 k cs n c e
    ·cases h
  ·cases h
def L6(H:Qm)(m:Nat)(pos:Nat->Option Nat)(fz:List Fz):Option Obj->KS->Option (Obj×List Prop)
 |some (.cells cs t fl),.auto=>match qH (sS H m pos fz 3) cs.toList with
  |some (l,L)=>some (.cells l.toArray t fl,L)
  |none=>none
 |some (.cells cs t fl),.cells rs cs1=>bif rs.all fun r=>XE (Qs H r)then some (.cells cs1 t fl,[XV m rs cs cs1])else none
 |some (.cells cs t fl),.rows rs ks ow cs1=>bif (rs.all fun p=>XE (Qs H p.1) && MQ ((pos p.1).getD m) p.2) && ow.all (Fu pos)then match FN H pos fz ks with
  |some (KK,L)=>some (.cells cs1 t fl,Zj m rs KK ow cs cs1::L)
  |none=>none
   else none
 |some (.map es Pe),.same=>some (.map es Pe,[XW es])
 |some (.loop r),.auto=>match qH (sS H m pos fz 3) r.tmps.toList with
  |some (l,L)=>some (.loop {r with tmps:=l.toArray},L)
  |none=>none
 |some (.deferred ds),.same=>some (.deferred ds,[])
 |some (.pending _ _),.dead=>some (.pending #[] 0,[])
 |_,_=>none
theorem Sg{H:Qm}{m:Nat}{pos:Nat->Option Nat}{fz:List Fz}{μ μ1:Mu}{w:World}{n':Nat}{fk:List Nat}{im1:bZ}(c:xL H m pos fz μ μ1 w n' fk im1){o:Option Obj}{s:KS}{o1:Obj}{L:List Prop}(h:L6 H m pos fz o s=some (o1,L))(hL:Q3 L):
 (∃x,o=some x)/\¬Wv o1/\(live o1->∃x,o=some x/\live x/\∀im,OR μ w im x->OR μ1 w im o1):=by
 have cells:∀{cs cs1:Array Value} {t:TypeId} {fl:Nat×Nat},cs1.size=cs.size->(∀(i:Nat) v v1 v',cs[i]? =some v->cs1[i]? =some v1->VR μ v v'->VR μ1 v1 v')->∀im,OR μ w im (.cells cs t fl)->OR μ1 w im (.cells cs1 t fl):=by
  intro cs cs1 t fl hs hc im Wd;have get:∀(i:Nat) v1,cs1[i]? =some v1->∃v,cs[i]? =some v:=fun i v1 h=>by
   have:=(Array.getElem?_eq_some_iff.1 h).1;exact⟨cs[i],by simp[show i<cs.size by omega]⟩
  rcases Wd with ⟨h1,h2,h3,arr,h4,h5,h6,h7⟩|⟨h1,h2⟩
  ·refine .inl ⟨h1,h2,h3,arr,h4,by omega,h6,fun i v1 hv1=> ?_⟩;obtain⟨v,hv⟩:=get i v1 hv1;obtain⟨v',a,b⟩:=h7 i v hv;exact⟨v',a,hc i v v1 v' hv hv1 b⟩
  ·refine .inr ⟨h1,fun i v1 hv1=> ?_⟩;obtain⟨v,hv⟩:=get i v1 hv1;obtain⟨v',a,b⟩:=h2 i v hv;exact⟨v',a,hc i v v1 v' hv hv1 b⟩
 unfold L6 at h;split at h
 ·rename_i cs t fl;split at h
  ·rename_i l L1 hl;simp only[YO,YR]at h;obtain⟨rfl,rfl⟩:=h;have key:∀(l ts:List Value) (L:List Prop),qH (sS H m pos fz 3) l=some (ts,L)->Q3 L->ts.length=l.length/\∀(i:Nat) v v1 v',l[i]? =some v->ts[i]? =some v1->VR μ v v'->VR μ1 v1 v':=by
    intro l;induction l with
    |nil=>
     intro ts L h hL;simp only[qH,YO,YR]at h;obtain⟨rfl,rfl⟩:=h;exact⟨rfl,fun i v v1 v' h=>by simp at h⟩
    |cons v l ih=>
     intro ts L h hL;simp only[qH]at h;split at h
     ·rename_i t L1 h1;split at h
      ·rename_i ts2 L2 h2;simp only[YO,YR]at h;obtain⟨rfl,rfl⟩:=h;obtain⟨a,b⟩:=Xw hL;obtain⟨k1,k2⟩:=ih ts2 L2 h2 b;refine⟨by simp[k1],fun i u u1 u' x y hr=> ?_⟩;cases i with
       |zero=>
        simp only[Nb,YO]at x y;subst x y;exact Ua c 3 _ _ _ _ h1 a hr
       |succ i=>exact k2 i u u1 u' (by simpa using x) (by simpa using y) hr
      ·cases h
     ·cases h
   obtain⟨k1,k2⟩:=key _ _ _ hl hL;refine⟨⟨_,rfl⟩,id,fun _=> ?_⟩;exact⟨_,rfl,trivial,cells (by simpa using k1) fun i v v1 v' x y=>k2 i v v1 v' (by simpa using x) (by simpa using y)⟩
  ·cases h
 ·rename_i cs t fl rs cs1;cases hr:(rs.all fun r=>XE (Qs H r))with
  |false=>rw[hr]at h;cases h
  |true=>
   rw[hr]at h;simp only[cond_true,YO,YR]at h;obtain⟨rfl,rfl⟩:=h;obtain⟨⟨h1,h2⟩,_⟩:=hL;refine⟨⟨_,rfl⟩,id,fun _=> ?_⟩;refine⟨_,rfl,trivial,cells h1.symm fun i v v1 v' x y hv=> ?_⟩;rcases h2 i v v1 x y with ⟨hs,rfl⟩|⟨r,hrm,t,rfl,rfl,ht⟩
   ·rw[simple_eq hs hv];exact We hs
   ·obtain⟨im,QK,htr⟩:=hv.top_inv;exact .top ht c.Yg (htr.mono fun b x hx=>eC c (List.all_eq_true.1 hr r hrm) QK hx)
 ·rename_i cs t fl rs ks ow cs1;cases hr0:((rs.all fun p=>XE (Qs H p.1) && MQ ((pos p.1).getD m) p.2) && ow.all (Fu pos))with
  |false=>rw[hr0]at h;cases h
  |true=>
   rw[hr0]at h;simp only[cond_true]at h;simp only[YB]at hr0;obtain⟨hr,how⟩:=hr0;split at h
   ·rename_i KK L2 hks;simp only[YO,YR]at h;obtain⟨rfl,rfl⟩:=h;obtain⟨hx,hL2⟩:=hL;obtain⟨h1,h2⟩:=AllX.get hx;refine⟨⟨_,rfl⟩,id,fun _=> ?_⟩;refine⟨_,rfl,trivial,cells (by simpa using h1) fun i v v1 v' x y hv=> ?_⟩;have hc:=h2 i v v1 (by simpa using x) (by simpa using y);cases hc with
    |simple hs=>rw[simple_eq hs hv];exact We hs
    |Yg hm ht=>
     rename_i r j t0;have:=List.all_eq_true.1 hr _ hm;simp only[YB]at this;have e:Iq H m pos fz (Qv r t0)=some (Qv j t0,[]):=by
      have hs:simple (Qv r t0)=false:=rfl;unfold Iq;rw[hs];simp only[cond_false,Qv,this.1,ht,Bool.and_self,cond_true,YE this.2]
     exact Sf c e trivial hv
    |own hm=>
     obtain⟨L',e,hL'⟩:=x9 ks KK L2 hks hL2 _ _ _ _ hm;exact Sf c e hL' hv
    |nil=>
     cases hv;exact .top rfl c.Yg .nil
    |keep hm=>
     have hk:=List.all_eq_true.1 how _ hm;unfold Fu at hk;split at hk
     ·rename_i j0 hj0;have hk:=YE hk;have e:=c.here _ _ hj0;rw[hk]at e;cases hv with
      |slice har h1 h2 h3=>
       obtain⟨im,hi,_,rfl⟩:=har;refine .slice ⟨im,e.trans hi,rfl,rfl⟩ h1 h2 fun hs ZC QW=> ?_
       rw[e]at QW;exact h3 hs ZC QW
     ·cases hk
   ·cases h
 ·rename_i es Pe;simp only[YO,YR]at h;obtain⟨rfl,rfl⟩:=h;obtain⟨hp,_⟩:=hL;refine⟨⟨_,rfl⟩,id,fun _=> ?_⟩;refine⟨_,rfl,trivial,fun im Wd=> ?_⟩;obtain⟨h1,Ko,h2,h3,h4⟩:=Wd;refine⟨h1,Ko,h2,h3,fun i e e' x y=> ?_⟩;obtain⟨p,q,r,s⟩:=h4 i e e' x y;have hs:=hp i e x;exact⟨p,q,r,by rw[Sl hs s];exact J3 hs⟩
 ·rename_i r;split at h
  ·rename_i l L1 hl;simp only[YO,YR]at h;obtain⟨rfl,rfl⟩:=h;refine⟨⟨_,rfl⟩,id,fun _=> ?_⟩;refine⟨_,rfl,trivial,fun im Wd=> ?_⟩;obtain⟨h1,tm,df,h2,h3⟩:=Wd;obtain⟨a,b⟩:=fT (fun v v' t L=>Ua c 3 v v' t L) r.tmps.toList l L1 tm.toList hl hL (by simpa using h3.1) fun i v v' x y=>h3.2 i v v' (by simpa using x) (by simpa using y)
   exact⟨h1,tm,df,h2,by simpa using a,fun i v v' x y=>b i v v' (by simpa using x) (by simpa using y)⟩
  ·cases h
 ·rename_i ds;simp only[YO,YR]at h;obtain⟨rfl,rfl⟩:=h;exact⟨⟨_,rfl⟩,id,fun _=>⟨_,rfl,trivial,fun im Wd=>Wd⟩⟩
 ·simp only[YO,YR]at h;obtain⟨rfl,rfl⟩:=h;exact⟨⟨_,rfl⟩,id,fun hl=>hl.elim⟩
 ·cases h
end Go.CE
