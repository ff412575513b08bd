/- TW 3: operations on trees. -/
import Derived.Test.YtncjjangllkokaaZRS08
set_option linter.all false
open Nat renaming beq->Lk,blt->Ls,min->LU,ble->LO,le_refl->LC,zero_add->LF,lt_or_ge->LI
open Array renaming getElem?_extract->LZ,mem_of_getElem? ->LM,getElem?_toList->Lq
open Option renaming map_some->LJ
open List renaming length->Li,getElem?_append_right->Lt,range'->LD,mem_append_left->Ll,mem_append_right->Lx,mem_append->L6,range->Ln,getElem?_cons_zero->Lv,mem_cons_of_mem->Lw
namespace Go.CE
open Go Go.RowKit

inductive Qk where
 |Zl (h:Hint)
 |tidx (k:Nat) (es:Array Value)
 |tarr (k:Nat) (es:Array Value)
 |tslc (k m':Nat) (cs':Array Value)
 |tapp (cs':Array Value)
 |tapp0
 |tcpy (cs':Array Value)
 |pure (out:Value) (fz:List Fz)
 |pureK (out:Value) (fz:List Fz)
 |bin (v:Value)
 |call (keys:List Nat) (out:OO) (UC:Qr) (n':Nat) (W:List Nat)
 |eval (s:Rs)
 |wri (κ R:List Nat) (ps qs:List Bool) (out:OO) (outs news:List Obj)
def killL(H:Qr):List Nat->Qr
 |[]=>H
 |k::K=>SF (killL H K) (some k)
def Tn:Option Obj->Bool
 |some (.cells _ _ (0,0))=>true
 |_=>false
def vq(P:Program)(T:Tm)(o:Oper):Option (Value×Nat):=match o.op with
 | .call c=>match c.callee with
   | .builtin .len=>match c.args.toList,c.argTypes.toList with
     |[x],[t]=>match Zp T x with
      |some v=>match il v,JO P t with
       |some (r,k,_),some (.slice _)=>some (.int .i64 k,r)
       |_,_=>none
      |none=>none
     |_,_=>none
   |_=>none
 | .fieldAddr s x f=>match Zp T x with
   |some v=>match qQ v with
    |some (r,off,cs)=>match WA P s f (.pointer (some ⟨0,off,none⟩))with
     |some (.pointer (some ⟨0,off',none⟩))=>some (Q4 r (P1 off' cs),r)
     |_=>none
    |none=>none
   |none=>none
 | .load t x=>match Zp T x with
   |some v=>match qQ v with
    |some (r,off,cs)=>match KD P t cs off with
     |some v=>bif pr 4 v then some (QD r 4 v,r)else none
     |none=>none
    |none=>none
   |none=>none
 |_=>none
def KO:Value->Bool
 | .slice none 0 0| .chan (some 0)=>true
 |_=>false
def T8(P:Program)(T:Tm)(o:Oper):Option (Value×Nat×Nat×Array Value×TypeId×Nat×Nat×Value):=match o.op with
 | .call c=>match c.callee with
   | .builtin .append=>match c.args.toList,c.argTypes.toList with
     |[s,x],[t,t']=>match Zp T s,Zp T x with
      |some sv,some xv=>match il xv,JO P t with
       |some (r,k,cs),some (.slice e)=>match inf P e with
        |some i=>match i.zero,i.size with
         |some zv,z+1=>bif Lk t t' && KO sv && Lk zv.cells.size (z+1)then some (sv,r,k,cs,e,z+1,i.bytes,zv)else none
         |_,_=>none
        |none=>none
       |_,_=>none
      |_,_=>none
     |_,_=>none
   |_=>none
 |_=>none
def gF(P:Program)(T:Tm)(o:Oper):Option (Nat×Nat×Nat×Nat×Nat×Array Value×Nat):=match o.op with
 | .call c=>match c.callee with
   | .builtin .copy=>match c.args.toList,c.argTypes.toList with
     |[s,x],[t,_]=>match Zp T s,Zp T x with
      |some (.slice (some ⟨b,off,none⟩) k _),some xv=>match il xv,JO P t with
       |some (r,m,cs2),some (.slice e)=>match WQ P e with
        |some z=>some (b,off,k,r,m,cs2,z)
        |none=>none
       |_,_=>none
      |_,_=>none
     |_,_=>none
   |_=>none
 |_=>none
def mE(P:Program)(op:BinOp)(t:TypeId)(a b v:Value):Prop:=∀(x y:Operand) (w:World),(do eqGuard op t x y a b;binOp op t a b:Sem Value).run P w=.ok v w
def II(P:Program)(F:FuncId->Bool)(J:World->Prop)(B:Lo)(T:Tm)(o:Oper)(H:Qr)(n:Nat):Option Qk->Option Told
 |none=>match vq P T o with
  |some (v,r)=>bif Ls r n && XB (Qu H r)then some ⟨⟨.ret v,H,n,[r],[]⟩,none⟩else none
  |none=>Ik P F B T o H n none
 |some (.Zl h)=>Ik P F B T o H n (some h)
 |some (.tidx k es)=>match o.op with
  | .indexAddr t x i=>match Zp T x,Zp T i with
    |some v,some (.int _ q)=>match il v,JO P t with
     |some (r,m,cs),some (.slice e)=>match WQ P e with
      |some z=>bif Ls r n && XB (Qu H r)then some ⟨⟨.ret (Q4 r (P1 0 es)),H,n,[r],[]⟩,some (q=(k:Int)/\k<m/\cs.extract (k*z) (k*z+z)=es)⟩else none
      |none=>none
     |_,_=>none
    |_,_=>none
  |_=>none
 |some (.tarr k es)=>match o.op with
  | .indexAddr t x i=>match Zp T x,Zp T i with
    |some v,some (.int _ q)=>match qQ v,JO P t with
     |some (r,off,cs),some (.array m e)=>match WQ P e with
      |some z=>bif Ls r n && XB (Qu H r)then some ⟨⟨.ret (Q4 r (P1 0 es)),H,n,[r],[]⟩,some (q=(k:Int)/\k<m/\cs.extract (off+k*z) (off+k*z+z)=es)⟩else none
      |none=>none
     |_,_=>none
    |_,_=>none
  |_=>none
 |some (.tslc k m' cs')=>match o.op with
  | .slice t x (some lo) none none=>match Zp T x,Zp T lo with
    |some v,some (.int _ q)=>match il v,JO P t with
     |some (r,m,cs),some (.slice e)=>match WQ P e with
      |some z=>bif Ls r n && XB (Qu H r)then some ⟨⟨.ret (Q4 r (QV m' cs')),H,n,[r],[]⟩,some (q=(k:Int)/\k<m/\m'=m-k/\cs.extract (k*z) cs.size=cs')⟩else none
      |none=>none
     |_,_=>none
    |_,_=>none
  |_=>none
 |some (.tapp cs')=>match T8 P T o with
  |some (_,r,k,cs,e,z,by',_)=>bif Ls r n && XB (Qu H r)then
   some ⟨⟨.ret (.slice (some ⟨n,0,none⟩) k z),(n,.cells cs' e (0,0))::H,n+1,[r],[]⟩,some (0<k/\k<=maxLen/\k*by'<=140737488355328/\cs.size=k*z/\cs.map (Wm r)=cs'/\(cs.all fun v=>simple v || Vg v)=true/\ones cs'=true)⟩else none
  |none=>none
 |some .tapp0=>match T8 P T o with
  |some (sv,r,k,_,_,_,_,_)=>bif Ls r n && XB (Qu H r)then some ⟨⟨.ret sv,H,n,[r],[]⟩,some (k=0)⟩else none
  |none=>none
 |some (.tcpy cs')=>match gF P T o with
  |some (b,off,k,r,m,cs2,z)=>match Qu H b with
   |some (.cells cs te (0,0))=>bif Ls r n && XB (Qu H r) && Ls b n then
    some ⟨⟨.ret (.int .i64 (LU m k)),VD H b (.cells cs' te (0,0)),n,[b,r],[b]⟩,some (0<m/\off+LU m k*z<=cs.size/\LU m k*z<=cs2.size/\(cs2.all fun v=>simple v || Vg v)=true/\ones ((cs2.extract 0 (LU m k*z)).map (Wm r))=true/\splice cs off ((cs2.extract 0 (LU m k*z)).map (Wm r))=cs')⟩else none
   |_=>none
  |none=>none
 |some (.eval s)=>some ⟨s,some (bd P F X5 (fun _ _ _=>none) T o H n=some s)⟩
 |some (.bin v)=>match o.op with
  | .binOp op t x y _=>match Zp T x,Zp T y with
    |some a,some b=>bif af a && af b && af v then some ⟨⟨.ret v,H,n,[],[]⟩,some (mE P op t a b v)⟩else none
    |_,_=>none
  |_=>none
 |some (.call keys out UC n' W)=>match o.op with
  | .call _=>match RD P F (Zp T) o H n with
    |some ⟨.enter g args,H1,n1,R,W1⟩=>bif Lk n1 n && W1.isEmpty then
     match Wz P g args with
     |some c1=>some ⟨⟨out,UC++H1,n',R++keys,W⟩,some (FJ P B c1 H1 n out (UC++H1) n' keys W)⟩
     |none=>none
      else none
    |some ⟨.round l fn tm a b,H1,n1,R,W1⟩=>bif Lk n1 n && W1.isEmpty && LO tm.size 16000 then some ⟨⟨out,UC++H1,n',R++keys,W⟩,some (FJ P B ⟨fn,ofList tm.size tm.toList,[.code a,.beginRound,.code b],[],.run,some l⟩ H1 n out (UC++H1) n' keys W)⟩else none
    |_=>none
  |_=>none
 |some (.pure out fz)=>match o.op with
  | .call _=>match RD P F (Zp T) o H n with
    |some ⟨.enter g args,H1,n1,R,W1⟩=>bif Lk n1 n && W1.isEmpty then
     match Kd (VX H1 fz 3) args.toList with
     |some (ts,R2,L)=>bif R2.all fun i=>Ls i n then
      bif SY 2 out then some ⟨⟨.ret out,H1,n,R++R2,[]⟩,some (QB L/\Q6 P J g ts.toArray out)⟩
      else bif (R2.all fun i=>XB (Qu H1 i)) && pr 4 out then some ⟨⟨.ret (QD n 4 out),(n,XG)::H1,n+1,R++R2,[]⟩,some (QB L/\Q6 P J g ts.toArray out)⟩else none
       else none
     |none=>none
      else none
    |_=>none
  |_=>none
 |some (.pureK out fz)=>match o.op with
  | .call _=>match RD P F (Zp T) o H n with
    |some ⟨.enter g args,H1,n1,R,W1⟩=>bif Lk n1 n && W1.isEmpty then
     match Kd (VX H1 fz 3) args.toList with
     |some (ts,R2,L)=>bif (R2.all fun i=>Ls i n) && (R2.all fun i=>XB (Qu H1 i) || Tn (Qu H1 i)) && pr 4 out then
      some ⟨⟨.ret (QD n 4 out),(n,XG)::killL H1 (R2.filter fun i=>Tn (Qu H1 i)),n+1,R++R2,R2.filter fun i=>Tn (Qu H1 i)⟩,some (QB L/\Q6 P J g ts.toArray out)⟩else none
     |none=>none
      else none
    |_=>none
  |_=>none
 |some (.wri κ R ps qs out outs news)=>match o.op with
  | .call _=>match RD P F (Zp T) o H n with
    |some ⟨.enter g args,H1,n1,R0,W1⟩=>bif Lk n1 n && W1.isEmpty then
     match G8 H1 n κ R ps qs args out outs news with
     |some (as,bs,o1,UC,L)=>some ⟨⟨o1,UC++H1,n+1+news.length,R0++(κ++R),κ⟩,some (QB L/\WriC P J g as.toArray bs out outs news)⟩
     |none=>none
      else none
    |_=>none
  |_=>none
section
variable {P:Program} {F:FuncId->Bool} {J:World->Prop} {B:Lo} {T:Tm} {o:Oper} {H:Qr} {n:Nat}
theorem JI(hF:∀g,F g=true->QE P g=true){c:Call}(Zy:o.op=.call c)(hu:Under H n){g:FuncId}{args:Array Value}{H1 H2:Qr}{R keys W:List Nat}{n':Nat}{out:OO}(hcr:RD P F (Zp T) o H n=some ⟨.enter g args,H1,n,R,[]⟩)(hcj:mD P B g args H1 n out H2 n' keys W):
 RL P B o (Zp T) H n out H2 n' (R++keys) W/\Shape H n H2 n' (R++keys) W:=by
 have Wy:WK P B (fun g' a' H' m'=>open Classical in if g'=g/\a'=args/\H'=H1/\m'=n then some ⟨out,H2,n',keys,W⟩else none):=by
  intro g' a' H' m' s _ h;simp only at h;split at h
  ·rename_i q;obtain⟨rfl,rfl,rfl,rfl⟩:=q;simp only[YO]at h;subst h;exact hcj
  ·cases h
 have:=KN hF YW Wy hu (T:=T) (o:=o) (s:=⟨out,H2,n',R++keys,W⟩) (by simp[bd,Zy,hcr]);exact this
theorem FJ.callJ{g:FuncId}{args:Array Value}{c0:CF}{H':Qr}{n':Nat}{R W:List Nat}{out:OO}(hc:Wz P g args=some c0)(h:FJ P B c0 H n out H' n' R W):mD P B g args H n out H' n' R W:=
 ⟨h.shape,fun S μ w args' cs QH hB hS hf ha hR=>h.sem S μ w (Frame.enter P g args' .normal) cs QH hB hS hf (Uv hc ha) hR⟩
theorem FJ.recS{c:CF}{H1:Qr}{n n':Nat}{out:OO}{UC:Qr}{W keys:List Nat}(h:FJ P B c H1 n out (UC++H1) n' keys W):eI P B (RX c H1 n ⟨out,UC++H1,n',keys,W⟩):=by
 intro c' H' m' s _ hs;unfold RX at hs;split at hs
 ·rename_i q;obtain⟨rfl,rfl,rfl⟩:=q;simp only[YO]at hs;subst hs;exact h
 ·cases hs
theorem aQ(hJ:∀w,B.has w->J w){g:FuncId}{args:Array Value}{fz:List Fz}{H1:Qr}{ts:List Value}{R2:List Nat}{L:List Prop}{out:Value}(Zm:Kd (VX H1 fz 3) args.toList=some (ts,R2,L))(hL:QB L)(hp:Q6 P J g ts.toArray out)
 {S:Nat->Prop} {μ:Mu} {w:World} {args':Array Value} (QH:Ok B.B S μ (Qu H1) w) (hB:B.has w) (hv:VRs μ args args') (hS:∀r∈R2,S r):Calls P g args' w fun e w'=> ∃v',e=.returned v'/\Below w.heap.size w w'/\TRv (P9 (KF μ H1 w R2) w w') out v':=by
 obtain⟨a,b⟩:=RT (fun v v' t R L h1 h2 h3 h4=>K0 QH 3 v v' t R L h1 h2 h3 h4) args.toList ts R2 L args'.toList Zm hL hS (by simpa using hv.1) fun i v v' x y=>hv.2 i v v' (by simpa using x) (by simpa using y)
 exact hp (KF μ H1 w R2) w args' (hJ w hB) (fun b x h=>WS h) ⟨by simpa using a,fun i v v' x y=>b i v v' (by simpa using x) (by simpa using y)⟩
theorem vI(hJ:∀w,B.has w->J w){g:FuncId}{args:Array Value}{fz:List Fz}{H1:Qr}{ts:List Value}{R2:List Nat}{L:List Prop}{out:Value}(Zm:Kd (VX H1 fz 3) args.toList=some (ts,R2,L))(hL:QB L)(hp:Q6 P J g ts.toArray out)(VV:SY 2 out=true)(Xu:(R2.all fun i=>Ls i n)=true):
 mD P B g args H1 n (.ret out) H1 n R2 []:=by
 refine⟨Shape.same _ _ _,fun S μ w args' cs QH hB hS _ ha hR=> ?_⟩;obtain⟨e,w1,fr,⟨v',rfl,hb,ht⟩,hc,hf,hl⟩:=aQ hJ Zm hL hp QH hB ha (fun r hr=>hR r hr (YL (List.all_eq_true.1 Xu r hr))) cs;refine⟨.ret v',w1,μ,Post.ofBelow QH hb,.ret (dV 2 out v' VV ht),fun _=>⟨fr,hc,by rw[hf];rfl,hl⟩,fun c cs' e=> ?_⟩;subst e;exact Steps.trans hc (.one (step_leave_returned hl))
theorem sr(hJ:∀w,B.has w->J w){g:FuncId}{args:Array Value}{fz:List Fz}{H1:Qr}{ts:List Value}{R2:List Nat}{L:List Prop}{out:Value}(Zm:Kd (VX H1 fz 3) args.toList=some (ts,R2,L))(hL:QB L)(hp:Q6 P J g ts.toArray out)(Xu:(R2.all fun i=>Ls i n)=true)
 (WX:(R2.all fun i=>XB (Qu H1 i))=true) (ho:pr 4 out=true):mD P B g args H1 n (.ret (QD n 4 out)) ((n,XG)::H1) (n+1) R2 []:=by
 refine⟨Shape.new _ _ _ _,fun S μ w args' cs QH hB hS hf ha hR=> ?_⟩;have hSR:∀r∈R2,S r:=fun r hr=>hR r hr (YL (List.all_eq_true.1 Xu r hr))
 obtain⟨e,w1,fr,⟨v',rfl,hb,ht⟩,hc,hfn,hl⟩:=aQ hJ Zm hL hp QH hB ha hSR cs;have hfm:∀b x,P9 (KF μ H1 w R2) w w1 b=some x->w1.heap[b]? =some x:=by
  intro b x h;unfold P9 at h;split at h
  ·rename_i Xu;rw[hb.block b Xu];exact WS h
  ·exact h
 have XO:=Post.region (n:=n) QH hS (hf n (LC _) (by omega)) hb (P9 (KF μ H1 w R2) w w1) hfm fun b x h=>by
  unfold P9 at h;split at h
  ·refine .inr ?_;have hw:=WS h;unfold KF at h;split at h
   ·rename_i hc;obtain⟨i,hi,o,im,ho,QP,U7⟩:=hc;obtain⟨o',UY,hr'⟩:=ZW (List.all_eq_true.1 WX i hi);rw[ho]at UY;cases UY;rcases U7 with ⟨_,KC⟩|⟨hl,_⟩
    ·cases hx:im.fm b with
     |none=>exact absurd hx KC
     |some y=>
      obtain⟨ZL,QZ,hf'⟩:=QH.Y6 i o (hSR i hi) ho hr';rw[QP]at QZ;cases QZ;have:=hf' b y hx;rw[hw]at this;cases this;exact⟨i,im,o,hSR i hi,ho,hr',QP,hx⟩
    ·exact absurd hl (by cases o <;> first|exact id|exact hr'.elim)
   ·cases h
  ·rename_i hge;exact .inl (Nat.le_of_not_lt hge)
 refine⟨.ret v',w1,_,XO,.ret (PU X9 4 out v' ho ht),fun _=>⟨fr,hc,by rw[hfn];rfl,hl⟩,fun c cs' e=> ?_⟩;subst e;exact Steps.trans hc (.one (step_leave_returned hl))
theorem KQ(H:Qr)(K:List Nat)(i:Nat):Qu (killL H K) i=if i∈K/\(Qu H i).isSome then some (.pending #[] 0)else Qu H i:=by
 induction K with
 |nil=>simp[killL]
 |cons k K ih=>
  simp only[killL];rw[Uu,ih];by_cases e:i=k
  ·subst e;cases hs:Qu H i with
   |none=>simp
   |some o=>by_cases hm:i∈K <;> simp[hm]
  ·simp[e]
theorem Post.regionK{B n:Nat}{S:Nat->Prop}{μ:Mu}{H:Qr}{w w':World}(K:List Nat)(QH:Ok B S μ (Qu H) w)(hS:∀i,S i->i<n)(hf:μ n=none)(S4:Below w.heap.size w w')(hK:∀k∈K,S k/\(∃o,Qu H k=some o/\live o)/\∃im,μ k=some im/\im.rw=true)
 (fm:Nat->Option Obj) (hfm:∀b x,fm b=some x->w'.heap[b]? =some x)
 (XM:∀b x,fm b=some x->w.heap.size<=b\/(∃k Uh ko,S k/\Qu H k=some ko/\W8 ko/\μ k=some Uh/\Uh.fm b=some x)\/∃k∈K,∃im,μ k=some im/\im.Z7=b):Post B S n (n+1) K μ (upd μ n ⟨0,0,0,false,fm⟩) H ((n,XG)::killL H K) w w':=by
 have hp:=Post.ofBelow (n:=n) QH S4;have KC:∀i,S i->i≠n:=fun i hi=>by have:=hS i hi;omega
 have JQ:∀i,S i->upd μ n ⟨0,0,0,false,fm⟩ i=μ i:=fun i hi=>by simp[upd,KC i hi]
 have Za:∀i,S i->Qu ((n,XG)::killL H K) i=Qu (killL H K) i:=fun i hi=>by rw[Xd,if_neg (KC i hi)]
 have hgl:∀i o,S i->Qu ((n,XG)::killL H K) i=some o->live o\/W8 o->Qu H i=some o/\(live o->i ∉ K):=fun i o hi ho hl=>by
  rw[Za i hi,KQ]at ho;split at ho
  ·cases ho;exact(hl.elim id id).elim
  ·rename_i hn;exact⟨ho,fun _ hm=>hn ⟨hm,by rw[ho];rfl⟩⟩
 have Uj:Qu ((n,XG)::killL H K) n=some XG:=by rw[Xd,if_pos rfl]
 have isn:∀i,(n<=i/\i<n+1)->i=n:=fun i hi=>by omega
 refine⟨⟨fun i o hi ho hl=> ?_,fun i o im hi ho hl QP=> ?_,fun i j oi oj a b hi hj Pq Wt Ws hli Ui ha hb hra Kx=> ?_,fun i o hi ho hr=> ?_,fun i j oi oj a b x hi hj Wt Ws YD Ui ha hb Kx hx=> ?_⟩,by omega,fun i hi=> ?_,fun i hi hw=> ?_,S4.size,fun b hb _=>S4.block b hb,fun i hi _=>hK i hi,
  fun i im o h1 h2 ho hl QP=> ?_,fun i im o hi ho hr QP b x hx=> ?_,S4.os,S4.tape,S4.output⟩
 ·rcases hi with hi|hi
  ·have ho:=(hgl i o hi ho (.inl hl)).1;obtain⟨im,QP,hr⟩:=hp.ok.rel i o (.inl hi) ho hl;exact⟨im,by rw[JQ i hi];exact QP,hr.keep (Ky hf) rfl⟩
  ·rw[isn i hi,Uj]at ho;cases ho;exact hl.elim
 ·rcases hi with hi|hi
  ·have ho:=(hgl i o hi ho (.inl hl)).1;rw[JQ i hi]at QP;exact hp.ok.low i o im (.inl hi) ho hl QP
  ·rw[isn i hi,Uj]at ho;cases ho;exact hl.elim
 ·rcases hi with hi|hi
  ·rcases hj with hj|hj
   ·have Wt:=(hgl i oi hi Wt (.inl hli)).1;have Ws:=(hgl j oj hj Ws (.inl Ui)).1;rw[JQ i hi]at ha;rw[JQ j hj]at hb;exact QH.inj i j oi oj a b hi hj Pq Wt Ws hli Ui ha hb hra Kx
   ·rw[isn j hj,Uj]at Ws;cases Ws;exact Ui.elim
  ·rw[isn i hi,Uj]at Wt;cases Wt;exact hli.elim
 ·rcases hi with hi|hi
  ·have ho:=(hgl i o hi ho (.inr hr)).1;obtain⟨im,QP,h⟩:=hp.ok.Y6 i o (.inl hi) ho hr;exact⟨im,by rw[JQ i hi];exact QP,h⟩
  ·rw[isn i hi];exact⟨_,X9,hfm⟩
 ·have hjS:S j:=hj.elim id fun h=>by rw[isn j h,Uj]at Ws;cases Ws;exact Ui.elim
  obtain⟨Ws,hjK⟩:=hgl j oj hjS Ws (.inl Ui);rw[JQ j hjS]at hb;rcases hi with hi|hi
  ·have Wt:=(hgl i oi hi Wt (.inr YD)).1;rw[JQ i hi]at ha;exact QH.sep i j oi oj a b x hi hjS Wt Ws YD Ui ha hb Kx hx
  ·rw[isn i hi,X9]at ha;cases ha;rcases XM _ _ hx with h|⟨k,Uh,ko,h1,h2,h3,h4,h5⟩|⟨k,hk,Uh,h1,h2⟩
   ·have:=(QH.low j oj b hjS Ws Ui hb).1;omega
   ·exact QH.sep k j ko oj Uh b x h1 hjS h2 Ws h3 Ui h4 hb Kx h5
   ·obtain⟨k1,⟨ko,k2,k3⟩,kim',k4,k5⟩:=hK k hk;rw[h1]at k4;cases k4;have hkj:k≠j:=fun e=>hjK Ui (e ▸ hk)
    exact QH.inj k j ko oj Uh b k1 hjS hkj k2 Ws k3 Ui h1 hb k5 Kx h2
 ·simp only[upd];rw[if_neg (by omega)]
 ·rw[Xd,if_neg (by omega),KQ,if_neg (fun h=>hw h.1)]
 ·rw[isn i ⟨h1,h2⟩,Uj]at ho;cases ho;exact hl.elim
 ·rcases hi with hi|hi
  ·have Y7:=isn i hi;subst Y7;rw[X9]at QP;cases QP;rcases XM b x hx with h|⟨k,Uh,ko,h1,h2⟩|⟨k,hk,Uh,h1,h2⟩
   ·exact .inl h
   ·exact .inr (.inl ⟨k,Uh,ko,h1,hS k h1,h2⟩)
   ·refine .inr (.inr ⟨k,hk,hS k (hK k hk).1,⟨Uh,h1,h2⟩,fun o' UY=> ?_⟩);have hks:=(hK k hk).1;obtain⟨ko,k2,_⟩:=(hK k hk).2.1;rw[Za k hks,KQ,if_pos ⟨hk,by rw[k2];rfl⟩]at UY;cases UY;exact id
  ·obtain⟨hiK,Y7⟩:=hi;have hks:=(hK i hiK).1;obtain⟨ko,k2,_⟩:=(hK i hiK).2.1;rw[Za i hks,KQ,if_pos ⟨hiK,by rw[k2];rfl⟩]at ho;cases ho;exact hr.elim
theorem Shape.killL{H:Qr}{n:Nat}{K R:List Nat}(o:Obj)(hK:∀k∈K,k<n)(hs:∀k∈K,k∈R):Shape H n ((n,o)::killL H K) (n+1) R K:=by
 refine⟨by omega,fun i hi hw=> ?_,fun i hi=> ?_,hs,fun i hi=>by have:=hK i hi;omega⟩
 ·rw[Xd,if_neg (by omega),KQ,if_neg (fun h=>hw h.1)]
 ·rw[Xd,if_neg (by omega),KQ,if_neg (fun h=>by have:=hK i h.1;omega)]
theorem wx{o:Option Obj}(h:Tn o=true):∃cs t,o=some (.cells cs t (0,0)):=by
 unfold Tn at h;split at h
 ·exact⟨_,_,rfl⟩
 ·cases h
theorem oJ(hJ:∀w,B.has w->J w){g:FuncId}{args:Array Value}{fz:List Fz}{H1:Qr}{ts:List Value}{R2:List Nat}{L:List Prop}{out:Value}(Zm:Kd (VX H1 fz 3) args.toList=some (ts,R2,L))(hL:QB L)(hp:Q6 P J g ts.toArray out)(Xu:(R2.all fun i=>Ls i n)=true)
 (WX:(R2.all fun i=>XB (Qu H1 i) || Tn (Qu H1 i))=true) (ho:pr 4 out=true):mD P B g args H1 n (.ret (QD n 4 out)) ((n,XG)::killL H1 (R2.filter fun i=>Tn (Qu H1 i))) (n+1) R2 (R2.filter fun i=>Tn (Qu H1 i)):=by
 have hltn:∀r∈R2,r<n:=fun r hr=>YL (List.all_eq_true.1 Xu r hr)
 refine⟨Shape.killL _ (fun k hk=>hltn k ((List.mem_filter.1 hk).1)) (fun k hk=>(List.mem_filter.1 hk).1),fun S μ w args' cs QH hB hS hf ha hR=> ?_⟩;have hSR:∀r∈R2,S r:=fun r hr=>hR r hr (hltn r hr)
 obtain⟨e,w1,fr,⟨v',rfl,hb,ht⟩,hc,hfn,hl⟩:=aQ hJ Zm hL hp QH hB ha hSR cs;have hfm:∀b x,P9 (KF μ H1 w R2) w w1 b=some x->w1.heap[b]? =some x:=by
  intro b x h;unfold P9 at h;split at h
  ·rename_i Xu;rw[hb.block b Xu];exact WS h
  ·exact h
 have hK:∀k∈R2.filter fun i=>Tn (Qu H1 i),S k/\(∃o,Qu H1 k=some o/\live o)/\∃im,μ k=some im/\im.rw=true:=fun k hk=>by
  obtain⟨h1,h2⟩:=List.mem_filter.1 hk;obtain⟨cs0,t0,h3⟩:=wx h2;obtain⟨im,QP,We⟩:=QH.rel k _ (hSR k h1) h3 trivial;refine⟨hSR k h1,⟨_,h3,trivial⟩,im,QP, ?_⟩;rcases We with ⟨_,h,_⟩|⟨h,_⟩
  ·exact h
  ·exact absurd rfl h
 have XO:=Post.regionK (n:=n) (R2.filter fun i=>Tn (Qu H1 i)) QH hS (hf n (LC _) (by omega)) hb hK (P9 (KF μ H1 w R2) w w1) hfm fun b x h=>by
  unfold P9 at h;split at h
  ·refine .inr ?_;have hw:=WS h;unfold KF at h;split at h
   ·rename_i hc;obtain⟨i,hi,o,im,ho,QP,U7⟩:=hc;have We:=List.all_eq_true.1 WX i hi;rw[Bool.or_eq_true]at We;rcases U7 with ⟨hr',KC⟩|⟨hl,hblk⟩
    ·left;cases hx:im.fm b with
     |none=>exact absurd hx KC
     |some y=>
      obtain⟨ZL,QZ,hf'⟩:=QH.Y6 i o (hSR i hi) ho hr';rw[QP]at QZ;cases QZ;have:=hf' b y hx;rw[hw]at this;cases this;exact⟨i,im,o,hSR i hi,ho,hr',QP,hx⟩
    ·right;rcases We with We|We
     ·obtain⟨o',UY,hr'⟩:=ZW We;rw[ho]at UY;cases UY;exact absurd hl (by cases o <;> first|exact id|exact hr'.elim)
     ·exact⟨i,List.mem_filter.2 ⟨hi,We⟩,im,QP,hblk⟩
   ·cases h
  ·rename_i hge;exact .inl (Nat.le_of_not_lt hge)
 refine⟨.ret v',w1,_,XO,.ret (PU X9 4 out v' ho ht),fun _=>⟨fr,hc,by rw[hfn];rfl,hl⟩,fun c cs' e=> ?_⟩;subst e;exact Steps.trans hc (.one (step_leave_returned hl))
theorem KU{r:Nat}{v:Value}(Xu:r<n)(WX:XB (Qu H r)=true)(hd:∀c,o.op≠.defer c)
 (h:∀(μ:Mu) (w:World) (ρ:Operand->Value) (im:bt),μ r=some im->(∀b x,im.fm b=some x->w.heap[b]? =some x)->(∀x∈o.op.operands,∀v,Zp T x=some v->VR μ v (ρ x))->∃v',(execOp ρ o).run P w=.ok (.value v') w/\VR μ v v'):
 RL P B o (Zp T) H n (.ret v) H n [r] []:=fun S μ w fr _ _ _ _ _ QH hB _ _ Ze hR hm ht ho hw=>by
 obtain⟨x,hx,hr⟩:=ZW WX;obtain⟨im,QP,hf⟩:=QH.Y6 r x (hR r (by simp) Xu) hx hr;obtain⟨v',h1,h2⟩:=h μ w fr.eval im QP hf Ze;exact⟨.ret v',w,μ,Post.refl QH,.ret h2,J7 hm ht ho hw hd h1⟩
theorem xj{fm:Nat->Option Obj}{w:World}(hw:∀b x,fm b=some x->w.heap[b]? =some x){off:Nat}{cs:Array Value}{u v:Value}{t:TypeId}(hu:TRv fm (P1 off cs) u)(h:KD P t cs off=some v):∃v',(Instr.loadAt t u).run P w=.ok v' w/\TRv fm v v':=by
 obtain⟨b,o,arr,ty,fl,rfl,h1,h2,h3⟩:=hu.ptr_inv;have hb:=hw _ _ h1;have hcell:∀i,i<cs.size->∃v',w.cell? ⟨b,o+i,none⟩=some v'/\∀v,cs[i]? =some v->TRv fm v v':=by
  intro i hi;have Xu:=h2 i hi;exact⟨arr[o+i],by simp[World.cell?,hb,Xu],fun v hv=>h3 i v _ hv (by simp[Xu])⟩
 unfold KD at h;cases hag:m9 P t with
 |none=>rw[hag]at h;cases h
 |some g=>
  rw[hag]at h;cases g with
  |true=>
   cases hz:WQ P t with
   |none=>rw[hz]at h;cases h
   |some z=>
    rw[hz]at h;dsimp only at h;cases hb2:LO (off+z) cs.size with
    |false=>rw[hb2]at h;cases h
    |true=>
     rw[hb2]at h;simp only[cond_true,YO]at h;subst h;have hle:=YL hb2;have hr:=run_loadCells (P:=P) w ⟨b,o+off,none⟩ z (fun j=>(w.cell? ⟨b,o+(off+j),none⟩).getD undef) (fun j hj=>by
      obtain⟨v',Wn,_⟩:=hcell (off+j) (by omega);rw[WO,show o+off+j=o+(off+j)by omega,Wn];rfl)
     refine⟨.agg _,by simp[Instr.loadAt,Instr.sureAddr,loadVar,US hag,Zz hz,hr];rfl,.agg (by simp;omega) fun i v v' hv Wn=> ?_⟩;have hi:i<z:=by
      have:=(Array.getElem?_eq_some_iff.1 hv).1;simp at this;omega
     obtain⟨u,h4,h5⟩:=hcell (off+i) (by omega);simp[hi,h4]at Wn;subst Wn;refine h5 v ?_;rw[LZ]at hv;split at hv
     ·exact hv
     ·cases hv
  |false=>
   simp only at h;have hi:=(Array.getElem?_eq_some_iff.1 h).1;obtain⟨v',Wn,ht⟩:=hcell off hi;exact⟨v',by simp[Instr.loadAt,Instr.sureAddr,loadVar,US hag,run_load,Wn],ht v h⟩
theorem o3{v:Value}{r:Nat}(e:vq P T o=some (v,r))(Xu:r<n)(WX:XB (Qu H r)=true):RL P B o (Zp T) H n (.ret v) H n [r] []:=by
 unfold vq at e;split at e
 ·rename_i c Zy;split at e
  ·rename_i hc;split at e
   ·rename_i x t ha ht;split at e
    ·rename_i u hx;split at e
     ·rename_i r0 k cs el htop hue;rw[ZK]at hue;simp only[YO,YR]at e;obtain⟨rfl,rfl⟩:=e;refine KU Xu WX (fun c h=>by rw[Zy]at h;cases h) fun μ w ρ im QP hf Ze=> ?_
      have ea:c.args=#[x]:=by rw[<-ha]
      have et:c.argTypes=#[t]:=by rw[<-ht]
      have hv:=Ze x (by simp[Zy,Op.operands,Call.operands,hc,ea]) _ hx;rw[SN htop]at hv;obtain⟨ZL,_,htr⟩:=hv.top_inv;have hlen:∃a c,ρ x=.slice a k c:=by
       rcases htr.slice_inv with ⟨b,o',c',arr,t',fl,h1,_⟩|⟨rfl,_,a',c',h1,_⟩
       ·exact⟨_,_,h1⟩
       ·exact⟨_,_,h1⟩
      obtain⟨a,cp,hv⟩:=hlen;refine⟨.int .i64 k, ?_,.int _ _⟩;simp[execOp,Zy,resolve,hc,invoke,builtin,ea,et,hv,Builtin.len_,run_underlying hue,goInt]
     ·cases e
    ·cases e
   ·cases e
  ·cases e
 ·rename_i s x f Zy;split at e
  ·rename_i u hx;split at e
   ·rename_i r0 off cs htop;split at e
    ·rename_i off' hc;simp only[YO,YR]at e;obtain⟨rfl,rfl⟩:=e;refine KU Xu WX (fun c h=>by rw[Zy]at h;cases h) fun μ w ρ im QP hf Ze=> ?_
     have hv:=Ze x (by simp[Zy,Op.operands]) _ hx;rw[iq htop]at hv;obtain⟨ZL,QZ,htr⟩:=hv.top_inv;rw[QP]at QZ;cases QZ;obtain⟨b,o',arr,ty,fl,h1,h2,h3,h4⟩:=htr.ptr_inv;have hc2:∃d,off'=off+d/\WA P s f (.pointer (some ⟨b,o'+off,none⟩))=some (.pointer (some ⟨b,o'+off+d,none⟩)):=by
      unfold WA at hc ⊢;simp only at hc ⊢;split at hc
      ·split at hc
       ·split at hc
        ·simp only[YO,Value.pointer.injEq,Addr.mk.injEq,true_and,and_true]at hc;rename_i fd hfd _ _ hz;refine⟨fd.offset,hc.symm, ?_⟩;simp_all
        ·cases hc
       ·cases hc
      ·cases hc
     obtain⟨d,rfl,hc2⟩:=hc2;obtain⟨_,hr⟩:=T4 (P:=P) hc2 w;refine⟨.pointer (some ⟨b,o'+off+d,none⟩),by simp[execOp,Zy,h1,hr],.top rfl QP ?_⟩;rw[Nat.add_assoc];exact .ptr h2 h3 h4
    ·cases e
   ·cases e
  ·cases e
 ·rename_i t x Zy;split at e
  ·rename_i u hx;split at e
   ·rename_i r0 off cs htop;split at e
    ·rename_i v0 hc;cases QH:pr 4 v0 with
     |false=>rw[QH]at e;cases e
     |true=>
      rw[QH]at e;simp only[cond_true,YO,YR]at e;obtain⟨rfl,rfl⟩:=e;refine KU Xu WX (fun c h=>by rw[Zy]at h;cases h) fun μ w ρ im QP hf Ze=> ?_
      have hv:=Ze x (by simp[Zy,Op.operands]) _ hx;rw[iq htop]at hv;obtain⟨ZL,QZ,htr⟩:=hv.top_inv;rw[QP]at QZ;cases QZ;obtain⟨v',h1,h2⟩:=xj hf htr hc;exact⟨v',by simp[execOp,Zy,h1],PU QP 4 v0 v' QH h2⟩
    ·cases e
   ·cases e
  ·cases e
 ·cases e
theorem rk{P:Program}{t e:TypeId}{b off m c z k:Nat}{q:Int}{kk:IntKind}(hu:JO P t=some (.slice e))(hz:WQ P e=some z)(hq:q=(k:Int))(hk:k<m)(hc:m<=c)(w:World):
 (Instr.sliceAt t (.slice (some ⟨b,off,none⟩) m c) (some (.int kk q)) none none).run P w=.ok (.slice (some ⟨b,off+k*z,none⟩) (m-k) (c-k)) w:=by
 rw[ZK]at hu;subst hq;have hb:Au m (some (.int kk (k:Int))) none=some (k,m):=by
  simp only[Au,Aw,decide_eq_true (show(0:Int)<=(k:Int)by omega),decide_eq_true (show(k:Int)<=(m:Int)by omega),Bool.and_self,cond_true,Int.toNat_natCast]
 obtain⟨hr,_,_⟩:=m6 (P:=P) (μ:=fun _=>none) (sl:=true) (lo':=some (.int kk (k:Int))) (hi':=none) hb (show VR _ _ _ from .int _ _) trivial hc w;simp only[Instr.sliceAt,Instr.slice,Sem.run_bind,run_underlying hu,Result.andThen_ok,hr,Zz hz,Sem.run_pure,LJ,WO];rw[if_neg (by omega)]
theorem eM{sv:Value}{r k z by':Nat}{cs:Array Value}{e:TypeId}{zv:Value}(h:T8 P T o=some (sv,r,k,cs,e,z,by',zv)):
 ∃c s x t i,o.op=.call c/\c.callee=.builtin .append/\c.args=#[s,x]/\c.argTypes=#[t,t]/\Zp T s=some sv/\Zp T x=some (Q4 r (QV k cs))/\KO sv=true/\P.underlying t=some (.slice e)/\P.info? e=some i/\i.zero=some zv/\i.size=z/\i.bytes=by'/\zv.cells.size=z/\0<z:=by
 unfold T8 at h;split at h
 ·rename_i c Zy;split at h
  ·rename_i hc;split at h
   ·rename_i s x t t' ha ht;split at h
    ·rename_i sv' xv hs hx;split at h
     ·rename_i r' k' cs' e' htop hu;split at h
      ·rename_i i hi;split at h
       ·rename_i zv' z' hz Wx;cases hq:(Lk t t' && KO sv' && Lk zv'.cells.size (z'+1))with
        |false=>rw[hq]at h;cases h
        |true=>
         rw[hq]at h;simp only[cond_true,YO,YR]at h;obtain⟨rfl,rfl,rfl,rfl,rfl,rfl,rfl,rfl⟩:=h;simp only[YB]at hq;obtain⟨⟨q1,q2⟩,q3⟩:=hq;obtain rfl:=YE q1;rw[ZK]at hu;rw[YA]at hi;exact⟨c,s,x,t,i,Zy,hc,by rw[<-ha],by rw[<-ht],hs,by rw[hx,SN htop],q2,hu,hi,hz,Wx,rfl,YE q3,by omega⟩
       ·cases h
      ·cases h
     ·cases h
    ·cases h
   ·cases h
  ·cases h
 ·cases h
theorem fP{μ:Mu}{s s':Value}(h:KO s=true)(hs:VR μ s s'):∃a,s'=.slice a 0 0:=by
 unfold KO at h;split at h
 ·cases hs;exact⟨_,rfl⟩
 ·cases hs;exact⟨_,rfl⟩
 ·cases h
theorem o5{sv:Value}{r k z by':Nat}{cs cs':Array Value}{e:TypeId}{zv:Value}(h:T8 P T o=some (sv,r,k,cs,e,z,by',zv))(Xu:r<n)(WX:XB (Qu H r)=true)
 (hp:0<k/\k<=maxLen/\k*by'<=140737488355328/\cs.size=k*z/\cs.map (Wm r)=cs'/\(cs.all fun v=>simple v || Vg v)=true/\ones cs'=true):
 RL P B o (Zp T) H n (.ret (.slice (some ⟨n,0,none⟩) k z)) ((n,.cells cs' e (0,0))::H) (n+1) [r] []:=by
 intro S μ w fr _ _ _ _ _ QH hB hS hf Ze hR hm ht ho hw;obtain⟨c,s,x,t,i,Zy,hc,ea,et,hs,hx,hbn,hu,hi,hz,Wx,hby,hzs,hzp⟩:=eM h;obtain⟨p1,p2,p3,p4,p5,p6,p7⟩:=hp;obtain⟨xr,hxr,hr⟩:=ZW WX;obtain⟨im,QP,hfm⟩:=QH.Y6 r xr (hR r (by simp) Xu) hxr hr;have hvs:=Ze s (by simp[Zy,Op.operands,Call.operands,hc,ea]) _ hs;have hvx:=Ze x (by simp[Zy,Op.operands,Call.operands,hc,ea]) _ hx;obtain⟨a,hsa⟩:=fP hbn hvs;obtain⟨ZL,QZ,htr⟩:=hvx.top_inv;rw[QP]at QZ;cases QZ;rcases htr.slice_inv with ⟨b,o',c',arr,ty,fl,h1,h2,h3,h4,h5,h6⟩|⟨h0,_⟩
 ·have hb:=hfm _ _ h4;obtain⟨news,hnews⟩:∃news,news=(arr.toList.drop o').take (k*z):=⟨_,rfl⟩
  have hnl:news.length=k*z:=by
   rw[hnews,List.length_take,List.length_drop,Array.length_toList];have:∀j,j<k*z->o'+j<arr.size:=fun j hj=>h5 j (by omega)
   have:=this (k*z-1) (by have:=Nat.mul_pos p1 hzp;omega);have:=Nat.mul_pos p1 hzp;omega
  have Qu:∀(j:Nat) u,news[j]? =some u->arr[o'+j]? =some u:=by
   intro j u hj;rw[hnews,List.getElem?_take]at hj;split at hj
   ·rw[List.getElem?_drop]at hj;simpa using hj
   ·cases hj
  have hcell:∀(j:Nat) u,news[j]? =some u->w.cell? ((⟨b,o',none⟩:Addr).add j)=some u:=by
   intro j u hj;rw[WO];have:=Qu j u hj;simp[World.cell?,hb];exact this
  have hV:VRs μ cs' news.toArray:=by
   refine⟨by rw[<-p5];simp[hnl,p4],fun j v v' hv Wn=> ?_⟩;rw[<-p5,Array.getElem?_map]at hv;cases hy:cs[j]? with
   |none=>rw[hy]at hv;cases hv
   |some y=>
    rw[hy]at hv;simp only[LJ,YO]at hv;subst hv;exact SW QP (Array.all_eq_true'.1 p6 y (LM hy)) (h6 j y v' hy (Qu j v' (by simpa using Wn)))
  have VY:∃C,k<=C/\C<=maxLen/\(Builtin.append_ #[t,t] o.type #[fr.eval s,fr.eval x]).run P w=.ok (.slice (some ⟨w.heap.size,0,none⟩) k C) (w.drew.alloc (.cells (news.toArray++Builtin.zeroCells zv.cells (C-k)) e)):=by
   have hk63:(k:Int)<=9223372036854775807:=by simp only[maxLen]at p2;omega
   have hr0:=run_append_nil (P:=P) w t o.type e i zv hu hi hz ⟨b,o',none⟩ k c' news (by rw[hnl,Wx]) hcell p1 hk63 (by rw[hby];omega);refine⟨grownCap w k 0 e,grownCap_ge w k 0 e,grownCap_le_maxLen w k 0 e p2, ?_⟩;rw[hsa,h1];cases a with
   |none=>exact hr0
   |some a=>rw[fQ hu hi hz w a ⟨b,o',none⟩ k c' news (by rw[hnl,Wx]) hcell p1 p2 (by rw[hby];exact p3)];exact hr0
  obtain⟨C,hC1,hC2,VY⟩:=VY;have hfn:=hf n (LC _) (by omega);have harr:(news.toArray++Builtin.zeroCells zv.cells (C-k)).size=C*z:=by
   rw[Array.size_append,size_zeroCells,hzs,List.size_toArray,hnl,<-Nat.add_mul];congr 1;omega
  refine⟨.ret (.slice (some ⟨w.heap.size,0,none⟩) k C),_,_,dU QH hS hfn none (fun _ h=>by cases h) w.heap.size (news.toArray++Builtin.zeroCells zv.cells (C-k)).size _ hB.le (by simp) (.inl (LC _)) (by simp) (fun b hb _=>Below.heap_alloc w.drew _ b hb) (.ofCells (heap_alloc_new w.drew _) ?_ rfl fun j v hv=> ?_) ⟨rfl,rfl,rfl⟩,.ret ?_,J7 hm ht ho hw (fun c h=>by rw[Zy]at h;cases h) (w':=w.drew.alloc _) ?_⟩
  ·rw[Array.size_append];have:=hV.1;simp only[List.size_toArray]at this ⊢;omega
  ·obtain⟨u,e1,e2⟩:=hV.get hv;have hj:j<news.toArray.size:=(Array.getElem?_eq_some_iff.1 e1).1;exact⟨u,by rw[Array.getElem?_append_left hj];exact e1,e2.mono (Ky hfn)⟩
  ·refine .slice ⟨_,X9,rfl,rfl⟩ hC1 hC2 (fun _ im QP _ _=> ?_);rw[X9]at QP;cases QP;exact harr.symm
  ·simp[execOp,Zy,resolve,hc,invoke,builtin,ea,et,VY]
 ·omega
theorem mG{sv:Value}{r k z by':Nat}{cs:Array Value}{e:TypeId}{zv:Value}(h:T8 P T o=some (sv,r,k,cs,e,z,by',zv))(Xu:r<n)(WX:XB (Qu H r)=true)(hk:k=0):
 RL P B o (Zp T) H n (.ret sv) H n [r] []:=by
 obtain⟨c,s,x,t,i,Zy,hc,ea,et,hs,hx,hbn,hu,hi,hz,Wx,hby,hzs,hzp⟩:=eM h;refine KU Xu WX (fun c h=>by rw[Zy]at h;cases h) fun μ w ρ im QP hf Ze=> ?_
 have hvs:=Ze s (by simp[Zy,Op.operands,Call.operands,hc,ea]) _ hs;have hvx:=Ze x (by simp[Zy,Op.operands,Call.operands,hc,ea]) _ hx;obtain⟨a,hsa⟩:=fP hbn hvs;obtain⟨ZL,QZ,htr⟩:=hvx.top_inv;rw[QP]at QZ;cases QZ;subst hk;have hxx:∃b d,ρ x=.slice b 0 d:=by
  rcases htr.slice_inv with ⟨b,o',c',arr,ty,fl,h1,_⟩|⟨_,_,a',c',h1,_⟩
  ·exact⟨_,_,h1⟩
  ·exact⟨_,_,h1⟩
 obtain⟨b,d,hxx⟩:=hxx;refine⟨.slice a 0 0, ?_,by rw[<-hsa];exact hvs⟩;have hszp:WQ P e=some z:=by simp[WQ,YA,hi,Wx]
 have hr:=fR (ty:=o.type) hu hszp w a b 0 0 d (LC _);simp[execOp,Zy,resolve,hc,invoke,builtin,ea,et,hsa,hxx,hr]
theorem qO{b off k r m z:Nat}{cs2:Array Value}(h:gF P T o=some (b,off,k,r,m,cs2,z)):
 ∃c s x t t2 e s1,o.op=.call c/\c.callee=.builtin .copy/\c.args=#[s,x]/\c.argTypes=#[t,t2]/\Zp T s=some (.slice (some ⟨b,off,none⟩) k s1)/\Zp T x=some (Q4 r (QV m cs2))/\P.underlying t=some (.slice e)/\WQ P e=some z:=by
 unfold gF at h;split at h
 ·rename_i c Zy;split at h
  ·rename_i hc;split at h
   ·rename_i s x t t2 ha ht;split at h
    ·rename_i b' off' k' s1 xv hs hx;split at h
     ·rename_i r' m' cs' e' htop hu;split at h
      ·rename_i z' hz;simp only[YO,YR]at h;obtain⟨rfl,rfl,rfl,rfl,rfl,rfl,rfl⟩:=h;rw[ZK]at hu;exact⟨c,s,x,t,t2,e',s1,Zy,hc,by rw[<-ha],by rw[<-ht],hs,by rw[hx,SN htop],hu,hz⟩
      ·cases h
     ·cases h
    ·cases h
   ·cases h
  ·cases h
 ·cases h
theorem o4{b off k r m z:Nat}{cs cs2 cs':Array Value}{te:TypeId}(h:gF P T o=some (b,off,k,r,m,cs2,z))(hg:Qu H b=some (.cells cs te (0,0)))(Xu:r<n)(WX:XB (Qu H r)=true)(hbn:b<n)
 (hp:0<m/\off+LU m k*z<=cs.size/\LU m k*z<=cs2.size/\(cs2.all fun v=>simple v || Vg v)=true/\ones ((cs2.extract 0 (LU m k*z)).map (Wm r))=true/\splice cs off ((cs2.extract 0 (LU m k*z)).map (Wm r))=cs'):
 RL P B o (Zp T) H n (.ret (.int .i64 (LU m k))) (VD H b (.cells cs' te (0,0))) n [b,r] [b]:=by
 intro S μ w fr _ _ _ _ _ QH hB hS hf Ze hR hm ht ho hw;obtain⟨c,s,x,t,t2,e,s1,Zy,hc,ea,et,hs,hx,hu,hz⟩:=qO h;obtain⟨p0,h1,h2,p4,h3,rfl⟩:=hp;obtain⟨xr,hxr,hr⟩:=ZW WX;obtain⟨imr,himr,hfm⟩:=QH.Y6 r xr (hR r (by simp) Xu) hxr hr;have hb:S b:=hR b (by simp) hbn;obtain⟨im,QP,We⟩:=QH.rel b _ hb hg trivial;have hvs:=Ze s (by simp[Zy,Op.operands,Call.operands,hc,ea]) _ hs;have hvx:=Ze x (by simp[Zy,Op.operands,Call.operands,hc,ea]) _ hx;obtain⟨imr',himr',htr⟩:=hvx.top_inv;rw[himr]at himr';cases himr';generalize hsv:fr.eval s=sv at hvs;cases hvs with
 |slice har q1 q2 q3=>
  obtain⟨ZL,QZ,_,rfl⟩:=har;simp only at QZ;rw[QP]at QZ;cases QZ;rcases htr.slice_inv with ⟨b2,o',c',arr2,ty,fl,g1,g2,g3,g4,g5,g6⟩|⟨h0,_⟩
  ·have hb2:=hfm _ _ g4;have hcell:∀j,j<LU m k*z->w.cell? ((⟨b2,o',none⟩:Addr).add j)=some (arr2.getD (o'+j) undef):=by
    intro j hj;have hlt2:=g5 j (by omega);rw[WO];simp[World.cell?,hb2,hlt2]
   have hload:=run_loadCells (P:=P) w ⟨b2,o',none⟩ (LU m k*z) (fun j=>arr2.getD (o'+j) undef) hcell;generalize hxsd:(((Array.range (LU m k*z)).map fun j=>arr2.getD (o'+j) undef):Array Value)=xs0;obtain⟨xs,hload,hxs⟩:∃xs,(loadCells ⟨b2,o',none⟩ (LU m k*z)).run P w=.ok xs w/\VRs μ ((cs2.extract 0 (LU m k*z)).map (Wm r)) xs:=by
    refine⟨_,hload,⟨by simp;omega,fun i v v' hv Wn=> ?_⟩⟩;rw[Array.getElem?_map]at hv;cases hy:(cs2.extract 0 (LU m k*z))[i]? with
    |none=>rw[hy]at hv;cases hv
    |some y=>
     rw[hy]at hv;simp only[LJ,YO]at hv;subst hv;rw[LZ]at hy;split at hy
     ·rename_i hlt3;have hi:i<LU m k*z:=by omega
      have hy2:cs2[i]? =some y:=by simpa using hy
      simp[hi]at Wn;have hlt2:=g5 i (by omega);refine SW himr (Array.all_eq_true'.1 p4 y (LM hy2)) (g6 i y v' hy2 ?_);rw[<-Wn];simp[hlt2]
     ·cases hy
   have hxsz:xs.size=LU m k*z:=by rw[<-hxs.1];simp;omega
   have hexsz:((cs2.extract 0 (LU m k*z)).map (Wm r)).size=LU m k*z:=by simp;omega
   rcases We with ⟨_,Pp,hoo,arr,ha,hle,hcap,hcs⟩|⟨hz0,_⟩
   ·have Zm:=run_storeCells_at (P:=P) im.Z7 off te xs.toList 0 arr w ha (by simp[hxsz];omega) (hxs.ones h3);simp only[Nat.add_zero]at Zm;refine⟨.ret (.int .i64 (LU m k)),w.setRow im.Z7 (CE.splice arr off xs),μ,Post.write QH hS b _ (.cells (CE.splice cs off ((cs2.extract 0 (LU m k*z)).map (Wm r))) te (0,0)) im hb hg trivial QP Pp (w':=w.setRow im.Z7 (CE.splice arr off xs)) ?_ ?_ ?_ ⟨rfl,rfl,rfl⟩,.ret (.int _ _),J7 hm ht ho hw (fun c h=>by rw[Zy]at h;cases h) ?_⟩
    ·simp[World.setRow]
    ·intro y hy;exact setRow_other w im.Z7 y _ hy
    ·refine .inl ⟨rfl,Pp,hoo,CE.splice arr off xs,setRow_heap w im.Z7 arr _ te _ ha, ?_, ?_, ?_⟩
     ·rw[WU (by rw[hexsz];omega),WU (by rw[hxsz];omega)];exact hle
     ·rw[WU (by rw[hxsz];omega)];exact hcap
     ·exact VRs.splice (by rw[hexsz];omega) hle hcs hxs
    ·simp[execOp,Zy,resolve,hc,invoke,builtin,ea,et,hsv,g1,Builtin.copy_,Builtin.lenOf,Builtin.firstCells,Sem.run_bind,Sem.run_pure,Result.andThen_ok,run_underlying hu,Zz hz,hload,hoo,Zm,CE.splice,goInt]
   ·exact absurd rfl hz0
  ·omega
theorem nS(hF:∀g,F g=true->QE P g=true)(hJ:∀w,B.has w->J w)(hu:Under H n){h:Option Qk}{a:Told}(e:II P F J B T o H n h=some a)(hp:∀p,a.p=some p->p):
 RL P B o (Zp T) H n a.s.out a.s.H a.s.n a.s.R a.s.W/\Shape H n a.s.H a.s.n a.s.R a.s.W:=by
 unfold II at e;split at e
 ·split at e
  ·rename_i v r htr;cases hq:(Ls r n && XB (Qu H r))with
   |false=>rw[hq]at e;cases e
   |true=>
    rw[hq]at e;simp only[cond_true,YO]at e;subst e;simp only[YB]at hq;exact⟨o3 htr (YL hq.1) hq.2,Shape.same _ _ _⟩
  ·exact nT hF hu e hp
 ·exact nT hF hu e hp
 ·rename_i k es;split at e
  ·rename_i t x i Zy;split at e
   ·rename_i u kk q hx hi;split at e
    ·rename_i r m cs el htop hue;split at e
     ·rename_i z hz;cases hq:(Ls r n && XB (Qu H r))with
      |false=>rw[hq]at e;cases e
      |true=>
       rw[hq]at e;simp only[cond_true,YO]at e;subst e;simp only[YB]at hq;obtain⟨Xu,WX⟩:=hq;obtain⟨hqk,S3,hes⟩:=hp _ rfl;refine⟨KU (YL Xu) WX (fun c h=>by rw[Zy]at h;cases h) fun μ w ρ im QP hf Ze=> ?_,Shape.same _ _ _⟩;have hv:=Ze x (by simp[Zy,Op.operands]) _ hx;have hiv:=lW (Ze i (by simp[Zy,Op.operands]) _ hi);rw[SN htop]at hv;obtain⟨ZL,QZ,htr⟩:=hv.top_inv;rw[QP]at QZ;cases QZ;have U7:=htr.slice_inv;rcases U7 with ⟨b,o',c',arr,ty,fl,h1,h2,h3,h4,h5,h6⟩|⟨rfl,_⟩
       ·have hess:k*z+es.size<=cs.size\/es.size=0:=by rw[<-hes];simp;omega
        refine⟨.pointer (some ⟨b,o'+k*z,none⟩),by simp[execOp,Zy,h1,hiv,oc hue hz hqk S3],.top rfl QP ?_⟩;refine TRv.ptr (o:=o'+k*z) (off:=0) h4 (fun i hi=> ?_) fun i v v' hv Wn=> ?_
        ·have:=h5 (k*z+i) (by omega);omega
        ·rw[<-hes,LZ]at hv;split at hv
         ·refine h6 (k*z+i) v v' hv ?_;rw[<-Wn,Nat.add_assoc]
         ·cases hv
       ·omega
     ·cases e
    ·cases e
   ·cases e
  ·cases e
 ·rename_i k es;split at e
  ·rename_i t x i Zy;split at e
   ·rename_i u kk q hx hi;split at e
    ·rename_i r off cs m el htop hue;split at e
     ·rename_i z hz;cases hq:(Ls r n && XB (Qu H r))with
      |false=>rw[hq]at e;cases e
      |true=>
       rw[hq]at e;simp only[cond_true,YO]at e;subst e;simp only[YB]at hq;obtain⟨Xu,WX⟩:=hq;obtain⟨hqk,S3,hes⟩:=hp _ rfl;refine⟨KU (YL Xu) WX (fun c h=>by rw[Zy]at h;cases h) fun μ w ρ im QP hf Ze=> ?_,Shape.same _ _ _⟩;have hv:=Ze x (by simp[Zy,Op.operands]) _ hx;have hiv:=lW (Ze i (by simp[Zy,Op.operands]) _ hi);rw[iq htop]at hv;obtain⟨ZL,QZ,htr⟩:=hv.top_inv;rw[QP]at QZ;cases QZ;obtain⟨b,o',arr,ty,fl,h1,h2,h3,h4⟩:=htr.ptr_inv;refine⟨.pointer (some ⟨b,o'+off+k*z,none⟩),by simp[execOp,Zy,h1,hiv,dj hue hz hqk S3],.top rfl QP ?_⟩;rw[Nat.add_assoc o'];refine TRv.ptr (o:=o'+(off+k*z)) (off:=0) h2 (fun i hi=> ?_) fun i v v' hv Wn=> ?_
       ·have Wx:es.size<=cs.size-(off+k*z):=by rw[<-hes];simp;omega
        have:=h3 (off+k*z+i) (by omega);omega
       ·rw[<-hes,LZ]at hv;split at hv
        ·refine h4 (off+k*z+i) v v' hv ?_;rw[<-Wn,Nat.add_assoc o']
        ·cases hv
     ·cases e
    ·cases e
   ·cases e
  ·cases e
 ·rename_i k m' cs';split at e
  ·rename_i t x lo Zy;split at e
   ·rename_i u kk q hx hi;split at e
    ·rename_i r m cs el htop hue;split at e
     ·rename_i z hz;cases hq:(Ls r n && XB (Qu H r))with
      |false=>rw[hq]at e;cases e
      |true=>
       rw[hq]at e;simp only[cond_true,YO]at e;subst e;simp only[YB]at hq;obtain⟨Xu,WX⟩:=hq;obtain⟨hqk,S3,hm',hes⟩:=hp _ rfl;refine⟨KU (YL Xu) WX (fun c h=>by rw[Zy]at h;cases h) fun μ w ρ im QP hf Ze=> ?_,Shape.same _ _ _⟩;have hv:=Ze x (by simp[Zy,Op.operands]) _ hx;have hiv:=lW (Ze lo (by simp[Zy,Op.operands]) _ hi);rw[SN htop]at hv;obtain⟨ZL,QZ,htr⟩:=hv.top_inv;rw[QP]at QZ;cases QZ;have U7:=htr.slice_inv;rcases U7 with ⟨b,o',c',arr,ty,fl,h1,h2,h3,h4,h5,h6⟩|⟨rfl,_⟩
       ·refine⟨.slice (some ⟨b,o'+k*z,none⟩) (m-k) (c'-k),by simp[execOp,Zy,h1,hiv,rk hue hz hqk S3 h2],.top rfl QP ?_⟩;rw[hm'];refine TRv.slice (o:=o'+k*z) (by omega) (by omega) h4 (fun i hi=> ?_) fun i v v' hv Wn=> ?_
        ·rw[<-hes,Array.size_extract]at hi;have:=h5 (k*z+i) (by omega);omega
        ·rw[<-hes,LZ]at hv;split at hv
         ·refine h6 (k*z+i) v v' hv ?_;rw[<-Wn,Nat.add_assoc]
         ·cases hv
       ·omega
     ·cases e
    ·cases e
   ·cases e
  ·cases e
 ·rename_i cs';split at e
  ·rename_i u1 r k cs el z by' u2 hta
   cases hq:(Ls r n && XB (Qu H r))with
   |false=>rw[hq]at e;cases e
   |true=>
    rw[hq]at e;simp only[cond_true,YO]at e;subst e;simp only[YB]at hq;exact⟨o5 hta (YL hq.1) hq.2 (hp _ rfl),Shape.new _ _ _ _⟩
  ·cases e
 ·split at e
  ·rename_i sv r k cs el z by' u2 hta
   cases hq:(Ls r n && XB (Qu H r))with
   |false=>rw[hq]at e;cases e
   |true=>
    rw[hq]at e;simp only[cond_true,YO]at e;subst e;simp only[YB]at hq;exact⟨mG hta (YL hq.1) hq.2 (hp _ rfl),Shape.same _ _ _⟩
  ·cases e
 ·rename_i cs';split at e
  ·rename_i b off k r m cs2 z hta;split at e
   ·rename_i cs te hg;cases hq:(Ls r n && XB (Qu H r) && Ls b n)with
    |false=>rw[hq]at e;cases e
    |true=>
     rw[hq]at e;simp only[cond_true,YO]at e;subst e;simp only[YB]at hq;have hb:=YL hq.2;exact⟨o4 hta hg (YL hq.1.1) hq.1.2 hb (hp _ rfl),(Shape.set _ hb).moreR (fun i hi=>by simp at hi ⊢;exact .inl hi)⟩
   ·cases e
  ·cases e
 ·rename_i s;simp only[YO]at e;subst e;exact KN hF YW (QR P B) hu (hp _ rfl)
 ·rename_i v;split at e
  ·rename_i op t x y yt Zy;split at e
   ·rename_i a b hx hy;cases hq:(af a && af b && af v)with
    |false=>rw[hq]at e;cases e
    |true=>
     rw[hq]at e;simp only[cond_true,YO]at e;subst e;simp only[YB]at hq;have hb:=hp _ rfl;refine⟨UQ (fun c h=>by rw[Zy]at h;cases h) fun μ w ρ _ Ze=> ?_,Shape.same _ _ _⟩;have e1:=RK hq.1.1 (Ze x (by simp[Zy,Op.operands]) _ hx);have e2:=RK hq.1.2 (Ze y (by simp[Zy,Op.operands]) _ hy);refine⟨v, ?_,Jk hq.2⟩;simp only[execOp,Zy,e1,e2];rw[Sem.run_bind,hb x y w];rfl
   ·cases e
  ·cases e
 ·rename_i keys out UC n' W;split at e
  ·rename_i c Zy;split at e
   ·rename_i g args H1 n1 R W1 hcr;cases hn:(Lk n1 n && W1.isEmpty)with
    |false=>rw[hn]at e;cases e
    |true=>
     rw[hn]at e;simp only[cond_true]at e;simp only[YB,List.isEmpty_iff]at hn;obtain⟨R5,rfl⟩:=hn;have R5:=YE R5;subst R5;split at e
     ·rename_i c1 hc1;simp only[YO]at e;subst e;exact JI hF Zy hu hcr ((hp _ rfl).callJ hc1)
     ·cases e
   ·rename_i l fn tm cda cdb H1 n1 R W1 hcr;cases hn:(Lk n1 n && W1.isEmpty && LO tm.size 16000)with
    |false=>rw[hn]at e;cases e
    |true=>
     rw[hn]at e;simp only[cond_true,YO]at e;subst e;simp only[YB,List.isEmpty_iff]at hn;obtain⟨⟨R5,rfl⟩,Wx⟩:=hn;have R5:=YE R5;subst R5;have Vx:=FJ.recS (hp _ rfl);have:=KN hF Vx (QR P B) hu (T:=T) (o:=o) (s:=⟨out,UC++H1,n',R++keys,W⟩) (by
      simp[bd,Zy,hcr,Wx,PI])
     exact this
   ·cases e
  ·cases e
 ·rename_i out fz;split at e
  ·rename_i c Zy;split at e
   ·rename_i g args H1 n1 R W1 hcr;cases hn:(Lk n1 n && W1.isEmpty)with
    |false=>rw[hn]at e;cases e
    |true=>
     rw[hn]at e;simp only[cond_true]at e;simp only[YB,List.isEmpty_iff]at hn;obtain⟨R5,rfl⟩:=hn;have R5:=YE R5;subst R5;split at e
     ·rename_i ts R2 L Zm;cases Xu:(R2.all fun i=>Ls i n1)with
      |false=>rw[Xu]at e;cases e
      |true=>
       rw[Xu]at e;simp only[cond_true]at e;cases VV:SY 2 out with
       |true=>
        rw[VV]at e;simp only[cond_true,YO]at e;subst e;obtain⟨hL,hpc⟩:=hp _ rfl;exact JI hF Zy hu hcr (vI hJ Zm hL hpc VV Xu)
       |false=>
        rw[VV]at e;simp only[cond_false]at e;cases hq:((R2.all fun i=>XB (Qu H1 i)) && pr 4 out)with
        |false=>rw[hq]at e;cases e
        |true=>
         rw[hq]at e;simp only[cond_true,YO]at e;subst e;simp only[YB]at hq;obtain⟨hL,hpc⟩:=hp _ rfl;exact JI hF Zy hu hcr (sr hJ Zm hL hpc Xu hq.1 hq.2)
     ·cases e
   ·cases e
  ·cases e
 ·rename_i out fz;split at e
  ·rename_i c Zy;split at e
   ·rename_i g args H1 n1 R W1 hcr;cases hn:(Lk n1 n && W1.isEmpty)with
    |false=>rw[hn]at e;cases e
    |true=>
     rw[hn]at e;simp only[cond_true]at e;simp only[YB,List.isEmpty_iff]at hn;obtain⟨R5,rfl⟩:=hn;have R5:=YE R5;subst R5;split at e
     ·rename_i ts R2 L Zm;cases hq:((R2.all fun i=>Ls i n1) && (R2.all fun i=>XB (Qu H1 i) || Tn (Qu H1 i)) && pr 4 out)with
      |false=>rw[hq]at e;cases e
      |true=>
       rw[hq]at e;simp only[cond_true,YO]at e;subst e;simp only[YB]at hq;obtain⟨hL,hpc⟩:=hp _ rfl;exact JI hF Zy hu hcr (oJ hJ Zm hL hpc hq.1.1 hq.1.2 hq.2)
     ·cases e
   ·cases e
  ·cases e
 ·rename_i κ R ps qs out outs news;split at e
  ·rename_i c Zy;split at e
   ·rename_i g args H1 n1 R0 W1 hcr;cases hn:(Lk n1 n && W1.isEmpty)with
    |false=>rw[hn]at e;cases e
    |true=>
     rw[hn]at e;simp only[cond_true]at e;simp only[YB,List.isEmpty_iff]at hn;obtain⟨R5,rfl⟩:=hn;have R5:=YE R5;subst R5;split at e
     ·rename_i as bs o1 UC L hw;simp only[YO]at e;subst e;obtain⟨hL,hwr⟩:=hp _ rfl;exact JI hF Zy hu hcr (hwr.callJ hJ κ R ps qs hw hL rfl rfl)
     ·cases e
   ·cases e
  ·cases e
end
abbrev Vs(k:Int)(n:Nat)(xs:Array Value)(t:Nat)(v:Array Value):Prop:=k=(↑k.toNat:Int)/\k.toNat<n/\xs.extract (k.toNat*t) (k.toNat*t+t)=v
abbrev JK(a v r:Array Value)(n f z:Nat):Prop:=a.size=n*f/\n+1<=maxLen/\(n+1)*z<=140737488355328/\a++v=r
end Go.CE

namespace Go.CE
open Go Go.RowKit

abbrev QO:=List (Nat×Qk)
def Gg(sc:QO)(q:Nat):Option Qk×QO:=match sc with
 |(k,h)::l=>bif Lk k q then(some h,l)else(none,sc)
 |[]=>(none,[])
structure I0 where
 Qx:List Rec
 T:Tm
 H:Qr
 n:Nat
 sc:QO
 q:Nat
 L:List Prop
 ZO:Option (Value×List Nat×List Nat)
def bC(P:Program)(F:FuncId->Bool)(J:World->Prop)(B:Lo)(ops:Array Oper):List Oper->Tm->Qr->Nat->QO->Nat->List Prop->Option I0
 |[],T,H,n,sc,q,L=>some ⟨[],T,H,n,sc,q,L,none⟩
 |o::l,T,H,n,sc,q,L=>
  bif JH T o.dst then
   bif Region.wanted o (XR ops T)then
    match Gg sc q with
    |(h,sc')=>match II P F J B T o H n h with
     |some ⟨⟨.ret v,H1,n1,R,W⟩,p⟩=>match bC P F J B ops l (V3 T o.dst v) H1 n1 sc' (q+1) (more p L)with
      |some r=>some {r with Qx:=⟨o,true,v,T,H,H1,n,n1,R,W⟩::r.Qx}
      |none=>none
     |some ⟨⟨.ZO v,H1,n1,R,W⟩,p⟩=>some ⟨[],T,H1,n1,sc',q+1,more p L,some (v,R,W)⟩
     |none=>none
   else match bC P F J B ops l (V3 T o.dst undef) H n sc (q+1) L with
    |some r=>some {r with Qx:=⟨o,false,undef,T,H,H,n,n,[],[]⟩::r.Qx}
    |none=>none
  else none
def Dl(P:Program)(F:FuncId->Bool)(B:Lo)(c:CF)(H:Qr)(n:Nat)(f:Operand)(params:Array Tmp)(assign body:Code)(k:List Item)(keys:List Nat)(out:OO)(UC:Qr)(n':Nat)(W:List Nat):Option (CF×Qr×Prop):=
 match Zp c.tmps f with
 |some fv=>match UN c H n params assign body with
  |some (H1,l,ds,_)=>match Pu F H1 fv #[.func (.yield l) #[] #[]]with
   |some (.enter g args,_)=>match Wz P g args with
    |some c1=>match out with
     | .ret _=>some ({c with todo:=.endRangeFunc l::k,defers:=ds++c.defers},UC++H1,FJ P B c1 H1 (l+1) out (UC++H1) n' keys W)
     | .ZO v=>some ({c with mode:=.ZO v,defers:=ds++c.defers},UC++H1,FJ P B c1 H1 (l+1) out (UC++H1) n' keys W)
    |none=>none
   |_=>none
  |none=>none
 |none=>none
def Q2(P:Program)(F:FuncId->Bool)(J:World->Prop)(B:Lo):Nat->Nat->CF->Qr->Nat->QO->Nat->List Nat->List Prop->Option ST
 |0,_,c,H,n,_,_,W,L=>some ⟨.at c H n,W,L⟩
 |k+1,b,c,H,n,sc,q,W,L=>
  match c.mode,c.todo with
  | .run,.code (.region _ ops draw)::todo=>match bC P F J B ops ops.toList c.tmps H n sc q L with
    |some r=>match r.ZO with
     |none=>bif !draw || (Vm 0 ops.toList && indep ops 0 r.Qx (YU ops.toList []))then Q2 P F J B k b {c with tmps:=r.T,todo:=todo} r.H r.n r.sc r.q (Wd b (Ug r.Qx) W) r.L else none
     |some (v,_,W1)=>bif !draw || Ss ops r.Qx r.T then Q2 P F J B k b {c with tmps:=r.T,mode:=.ZO v} r.H r.n r.sc r.q (Wd b (Ug r.Qx++W1) W) r.L else none
    |none=>none
  | .run,.code (.rangeFunc f params assign body)::todo=>match Gg sc q with
    |(some (.Zl (.call keys out UC n1 W1)),sc')=>match Dm P F B c H n f params assign body todo keys out UC n1 W1 with
     |some (c',H',p)=>Q2 P F J B k b c' H' n1 sc' q (Wd b W1 W) (p::L)
     |none=>none
    |(some (.call keys out UC n1 W1),sc')=>match Dl P F B c H n f params assign body todo keys out UC n1 W1 with
     |some (c',H',p)=>Q2 P F J B k b c' H' n1 sc' q (Wd b W1 W) (p::L)
     |none=>none
    |_=>none
  |_,_=>match Pr P F X5 (fun _ _ _=>none) c H n with
   |some (.go c' H' n' _ W')=>Q2 P F J B k b c' H' n' sc q (Wd b W' W) L
   |some (.done out H' n' _ W')=>some ⟨.fin out H' n',Wd b W' W,L⟩
   |none=>none
section
variable {P:Program} {F:FuncId->Bool} {J:World->Prop} {B:Lo}
theorem Jo{ops:Array Oper}:∀(l:List Oper) (T:Tm) (H:Qr) (n:Nat) (sc:QO) (q:Nat) (L:List Prop) (r:I0),bC P F J B ops l T H n sc q L=some r->QB r.L->QB L
 |[],T,H,n,sc,q,L,r,h,ha=>by
  simp only[bC,YO]at h;subst h;exact ha
 |o::l,T,H,n,sc,q,L,r,h,ha=>by
  simp only[bC]at h;cases hd:JH T o.dst with
  |false=>rw[hd]at h;cases h
  |true=>
   rw[hd]at h;simp only[cond_true]at h;cases hw:Region.wanted o (XR ops T)with
   |true=>
    rw[hw]at h;simp only[cond_true]at h;split at h
    ·rename_i v H1 n1 R W p Zy;split at h
     ·rename_i r' hr;simp only[YO]at h;subst h;exact(db (Jo l _ _ _ _ _ _ r' hr ha)).2
     ·cases h
    ·simp only[YO]at h;subst h;exact(db ha).2
    ·cases h
   |false=>
    rw[hw]at h;simp only[cond_false]at h;split at h
    ·rename_i r' hr;simp only[YO]at h;subst h;exact Jo l _ _ _ _ _ _ r' hr ha
    ·cases h
def RegOk(P:Program)(B:Lo)(ops:Array Oper)(l:List Oper)(T:Tm)(H:Qr)(n:Nat)(r:I0):Prop:=match r.ZO with
 |none=>Kw r.Qx T H n r.T r.H r.n/\r.Qx.map (·.o)=l/\Under r.H r.n
 |some (v,R,W)=> ∃H1 n1 o l2,Kw r.Qx T H n r.T H1 n1/\r.Qx.map (·.o)++o::l2=l/\Region.wanted o (XR ops r.T)=true/\RL P B o (Zp r.T) H1 n1 (.ZO v) r.H r.n R W/\Shape H1 n1 r.H r.n R W/\Under r.H r.n
theorem RegOk.cons{ops:Array Oper}{l:List Oper}{T:Tm}{H:Qr}{n:Nat}{r:I0}{x:Rec}(h:RegOk P B ops l (V3 T x.o.dst x.v) x.H' x.n' r)(hT:x.T=T)(hH:x.H=H)(hn:x.n=n):RegOk P B ops (x.o::l) T H n {r with Qx:=x::r.Qx}:=by
 unfold RegOk at h ⊢;cases hp:r.ZO with
 |none=>
  rw[hp]at h;obtain⟨h3,h4,h5⟩:=h;exact⟨⟨hT,hH,hn,h3⟩,by simp[h4],h5⟩
 |some p=>
  obtain⟨v,R,W⟩:=p;rw[hp]at h;obtain⟨H1,n1,o,l2,h1,h2,h3⟩:=h;exact⟨H1,n1,o,l2,⟨hT,hH,hn,h1⟩,by simp[h2],h3⟩
theorem JX(hF:∀g,F g=true->QE P g=true)(hJ:∀w,B.has w->J w){ops:Array Oper}{len:Nat}:∀(l:List Oper) (T:Tm) (H:Qr) (n:Nat) (sc:QO) (q:Nat) (L:List Prop) (r:I0),T.len=len->Under H n->bC P F J B ops l T H n sc q L=some r->QB r.L->
 (∀x∈r.Qx,a9 len x)/\(∀x∈r.Qx,Py P B ops x)/\RegOk P B ops l T H n r
 |[],T,H,n,sc,q,L,r,hl,hu,h,ha=>by
  simp only[bC,YO]at h;subst h;exact⟨fun r hr=>by simp at hr,fun r hr=>by simp at hr,⟨rfl,rfl,rfl⟩,rfl,hu⟩
 |o::l,T,H,n,sc,q,L,r,hl,hu,h,ha=>by
  simp only[bC]at h;cases hd:JH T o.dst with
  |false=>rw[hd]at h;cases h
  |true=>
   have hdst:=KT hd;rw[hl]at hdst;rw[hd]at h;simp only[cond_true]at h;cases hw:Region.wanted o (XR ops T)with
   |true=>
    rw[hw]at h;simp only[cond_true]at h;split at h
    ·rename_i v H1 n1 R W p Zy;split at h
     ·rename_i r' hr;simp only[YO]at h;subst h;have hpL:=db (Jo l _ _ _ _ _ _ r' hr ha);obtain⟨hdo,Po⟩:=nS hF hJ hu Zy hpL.1;obtain⟨h1,h2,h3⟩:=JX hF hJ (ops:=ops) (len:=len) l (V3 T o.dst v) H1 n1 _ _ _ r' (by rw[Uk];exact hl) (hu.shape Po) hr ha;refine⟨fun x hx=> ?_,fun x hx=> ?_,RegOk.cons (x:=⟨o,true,v,T,H,H1,n,n1,R,W⟩) h3 rfl rfl rfl⟩
      ·rcases List.mem_cons.1 hx with rfl|hx
       ·exact⟨Po.le,Po.keep,Po.top,Po.sub,Po.wlt,hdst⟩
       ·exact h1 x hx
      ·rcases List.mem_cons.1 hx with rfl|hx
       ·exact⟨hw.symm,(fun _=>hdo),(fun e=>by cases e)⟩
       ·exact h2 x hx
     ·cases h
    ·rename_i v H1 n1 R W p Zy;simp only[YO]at h;subst h;obtain⟨hdo,Po⟩:=nS hF hJ hu Zy (db ha).1;exact⟨fun r hr=>by simp at hr,fun r hr=>by simp at hr,H,n,o,l,⟨rfl,rfl,rfl⟩,rfl,hw,hdo,Po,hu.shape Po⟩
    ·cases h
   |false=>
    rw[hw]at h;simp only[cond_false]at h;split at h
    ·rename_i r' hr;simp only[YO]at h;subst h;obtain⟨h1,h2,h3⟩:=JX hF hJ (ops:=ops) (len:=len) l (V3 T o.dst undef) H n _ _ _ r' (by rw[Uk];exact hl) hu hr ha;refine⟨fun x hx=> ?_,fun x hx=> ?_,RegOk.cons (x:=⟨o,false,undef,T,H,H,n,n,[],[]⟩) h3 rfl rfl rfl⟩
     ·rcases List.mem_cons.1 hx with rfl|hx
      ·exact⟨LC _,fun _ _ _=>rfl,fun _ _=>rfl,fun i hi=>by simp at hi,fun i hi=>by simp at hi,hdst⟩
      ·exact h1 x hx
     ·rcases List.mem_cons.1 hx with rfl|hx
      ·exact⟨hw.symm,(fun e=>by cases e),fun _=>⟨rfl,rfl,rfl,rfl⟩⟩
      ·exact h2 x hx
    ·cases h
theorem lZ{c:CF}{H:Qr}{n:Nat}{id:Nat}{ops:Array Oper}{k:List Item}{Qx:List Rec}{v:Value}{H':Qr}{n':Nat}{R W:List Nat}{T':Tm}(hm:c.mode=.run)
 (ht:c.todo=.code (.region id ops false)::k) (hs:∀x∈Qx,a9 c.tmps.len x) (hk:∀x∈Qx,Py P B ops x)
 (h:∃H1 n1 o l2,Kw Qx c.tmps H n T' H1 n1/\Qx.map (·.o)++o::l2=ops.toList/\Region.wanted o (XR ops T')=true/\RL P B o (Zp T') H1 n1 (.ZO v) H' n' R W/\Shape H1 n1 H' n' R W/\Under H' n'):
 GoJ P B c H n {c with tmps:=T',mode:=.ZO v} H' n' (KE Qx++R) (Ug Qx++W):=by
 obtain⟨H1,n1,o,l2,P8,hmap,U6,hdo,Po,_⟩:=h;have hown:=Ur (l2:=o::l2) hmap rfl;have hlen:ops.size=Qx.length+(l2.length+1):=by have:=congrArg Li hmap;simp at this;omega
 have hat:ops[Qx.length]? =some o:=by
  rw[<-Lq,<-hmap,Lt (by simp)];simp
 have hsh1:=ZY Qx _ _ _ _ _ _ P8 hs;have l1:=hsh1.le;have l3:=Po.le;refine⟨hsh1.trans Po,fun S μ w fr cs Z QH hB hS hf XM hR=> ?_⟩;obtain⟨a,b,d⟩:=XM.running hm;rw[ht]at d;obtain⟨L',e,hL⟩:=d.code;have hf1:YV μ n n1:=fun q x y=>hf q x (by omega)
 obtain⟨μ1,A1,w1,hp,hT,Zm⟩:=TC (fr:=fr) (cs:=cs) (k:=L') a Qx 0 c.tmps H n T' H1 n1 (LD Qx.length (l2.length+1)) P8 hs hk (fun j r hj=>by rw[LF];exact hown j r hj) rfl S μ w fr.tmps QH hB hS hf1
  (fun q hq Xu=>hR q (Ll _ hq) Xu) b
 have hr:LD 0 Qx.length++LD Qx.length (l2.length+1)=LD 0 ops.size:=by
  rw[hlen];have:=List.range'_append_1 (s:=0) (m:=Qx.length) (n:=l2.length+1);simpa using this
 rw[hr,List.range'_succ]at Zm;obtain⟨Zn,w2,μ2,JP,ho,hst2⟩:=hdo _ μ1 w1 (Xo fr A1 ops (Qx.length::LD (Qx.length+1) l2.length) L') cs L' ops Qx.length _ hp.ok (hB.post QH hp) (fun q hq=>hq.elim (fun e=>by have:=hS q e;omega) (fun e=>e.2))
  (fun q x y=>by rw[hp.ext q (by omega)];exact hf q (by omega) y) (fun x _ v hv=>me (fr:=Xo fr A1 ops (Qx.length::LD (Qx.length+1) l2.length) L') hT x v hv) (fun q hq Xu=>by
   rcases LI q n with h1|h1
   ·exact .inl (hR q (Lx _ hq) h1)
   ·exact .inr ⟨h1,Xu⟩) a rfl hat (by rw[show(Xo fr A1 ops (Qx.length::LD (Qx.length+1) l2.length) L').tmps=A1 from rfl,Kb hT];exact U6)
 have hpp:=hp.trans JP;cases ho with
 |ZO hv=>
  rename_i v';refine⟨{Xo fr A1 ops (Qx.length::LD (Qx.length+1) l2.length) L' with mode:=.panicking [{v:=v',recovered:=false}]},w2,μ2,hpp,⟨XM.fn,hT.mono (JP.mu fun q x y=>by rw[hp.ext q (by omega)];exact hf q (by omega) y),(fun h=>by cases h),XM.defers.mono (hpp.mu hf),.ZO hv,XM.kind,XM.round.mono (hpp.mu hf)⟩,rfl,rfl,
   .head (Wh a e) (Zm.trans (hst2.trans ?_))⟩
  simp only[OO.on,Frame.raise,Xo,a];exact Steps.refl _ _
theorem uA(hF:∀g,F g=true->QE P g=true)(Zc:P.follows .mixedOrders=true){c c':CF}{H H':Qr}{n n':Nat}{f:Operand}{params:Array Tmp}{assign body:Code}{k:List Item}{keys W:List Nat}{out:OO}{UC:Qr}{p:Prop}(hu:Under H n)(hm:c.mode=.run)(ht:c.todo=.code (.rangeFunc f params assign body)::k)
 (h:Dl P F B c H n f params assign body k keys out UC n' W=some (c',H',p)) (hp:p):∃R,GoJ P B c H n c' H' n' R W:=by
 unfold Dl at h;split at h
 ·rename_i fv hfv;split at h
  ·rename_i H1 l ds R1 ho;split at h
   ·rename_i g args R2 hc;split at h
    ·rename_i c1 he;refine⟨R1++R2++keys, ?_⟩;split at h
     ·rename_i v;simp only[YO,YR]at h;obtain⟨rfl,rfl,rfl⟩:=h;have:Pr P F X5 (RX c1 H1 (l+1) ⟨.ret v,UC++H1,n',keys,W⟩) c H n=some (.go {c with todo:=.endRangeFunc l::k,defers:=ds++c.defers} (UC++H1) n' (R1++R2++keys) W):=by
       unfold Pr;simp only[hm,ht,hfv,ho,hc,he,PI]
      exact V2 hF Zc (QR P B) (FJ.recS hp) hu this
     ·rename_i v;simp only[YO,YR]at h;obtain⟨rfl,rfl,rfl⟩:=h;have:Pr P F X5 (RX c1 H1 (l+1) ⟨.ZO v,UC++H1,n',keys,W⟩) c H n=some (.go {c with mode:=.ZO v,defers:=ds++c.defers} (UC++H1) n' (R1++R2++keys) W):=by
       unfold Pr;simp only[hm,ht,hfv,ho,hc,he,PI]
      exact V2 hF Zc (QR P B) (FJ.recS hp) hu this
    ·cases h
   ·cases h
  ·cases h
 ·cases h
theorem RU(b:Nat):∀(fuel:Nat) (c:CF) (H:Qr) (n:Nat) (sc:QO) (q:Nat) (W0:List Nat) (L:List Prop) (s:ST),Q2 P F J B fuel b c H n sc q W0 L=some s->QB s.L->QB L:=by
 intro fuel;induction fuel with
 |zero=>intro c H n sc q W0 L s h ha;simp only[Q2,YO]at h;subst h;exact ha
 |succ k ih=>
  intro c H n sc q W0 L s h ha;simp only[Q2]at h;split at h
  ·split at h
   ·rename_i r' hr';split at h
    ·have h:=KY h;exact Jo _ _ _ _ _ _ _ _ hr' (ih _ _ _ _ _ _ _ _ h ha)
    ·exact Jo _ _ _ _ _ _ _ _ hr' (ih _ _ _ _ _ _ _ _ (KY h) ha)
   ·cases h
  ·split at h
   ·split at h
    ·exact(ih _ _ _ _ _ _ _ _ h ha).2
    ·cases h
   ·split at h
    ·exact(ih _ _ _ _ _ _ _ _ h ha).2
    ·cases h
   ·cases h
  ·split at h
   ·exact ih _ _ _ _ _ _ _ _ h ha
   ·simp only[YO]at h;subst h;exact ha
   ·cases h
theorem Wu(hF:∀g,F g=true->QE P g=true)(hJ:∀w,B.has w->J w)(Zc:P.follows .mixedOrders=true):∀(fuel b:Nat) (c:CF) (H:Qr) (n:Nat) (sc:QO) (q:Nat) (W0:List Nat) (L:List Prop) (s:ST),Under H n->Q2 P F J B fuel b c H n sc q W0 L=some s->QB s.L->
 ∃R W,I8 P B c H n R W s.r/\∀i,i<b->(i∈s.W<->i∈W0\/i∈W)
 |0,b,c,H,n,sc,q,W0,L,s,hu,h,ha=>by
  simp only[Q2,YO]at h;subst h;exact⟨[],[],GoJ.refl c H n,fun i _=>by simp⟩
 |k+1,b,c,H,n,sc,q,W0,L,s,hu,h,ha=>by
  have plain:(match Pr P F X5 (fun _ _ _=>none) c H n with
   |some (.go c' H' n' _ W')=>Q2 P F J B k b c' H' n' sc q (Wd b W' W0) L
   |some (.done out H' n' _ W')=>some ⟨.fin out H' n',Wd b W' W0,L⟩
   |none=>none)=some s->∃R W,I8 P B c H n R W s.r/\∀i,i<b->(i∈s.W<->i∈W0\/i∈W):=by
   intro h;split at h
   ·rename_i c' H' n' R' W' hs;have JF:GoJ P B c H n c' H' n' R' W':=V2 hF Zc (QR P B) YW hu hs;obtain⟨R,W,h1,h2⟩:=Wu hF hJ Zc k b c' H' n' sc q _ L s (hu.shape JF.shape) h ha;refine⟨_,_,JF.srj h1,fun i hi=> ?_⟩;rw[h2 i hi,Z2 hi,L6,or_assoc]
   ·rename_i out H' n' R' W' hs;have hdone:FJ P B c H n out H' n' R' W':=V2 hF Zc (QR P B) YW hu hs;simp only[YO]at h;subst h;exact⟨R',W',hdone,fun i hi=>Z2 hi⟩
   ·cases h
  simp only[Q2]at h;split at h
  ·rename_i id ops draw todo hm ht;split at h
   ·rename_i r hr;cases hpan:r.ZO with
    |none=>
     rw[hpan]at h;simp only at h;cases hd:(!draw || (Vm 0 ops.toList && indep ops 0 r.Qx (YU ops.toList [])))with
     |false=>rw[hd]at h;cases h
     |true=>
      rw[hd]at h;simp only[cond_true]at h;have hL:QB r.L:=by
       exact RU b k _ _ _ _ _ _ _ s h ha
      obtain⟨h1,h2,WX⟩:=JX hF hJ (len:=c.tmps.len) ops.toList c.tmps H n sc q L r rfl hu hr hL;unfold RegOk at WX;rw[hpan]at WX;obtain⟨h3,h4,h5⟩:=WX;have JF:=qe Zc hm ht h1 h2 h3 h4 hd;obtain⟨R,W,k1,k2⟩:=Wu hF hJ Zc k b _ _ _ _ _ _ _ s h5 h ha;refine⟨_,_,JF.srj k1,fun i hi=> ?_⟩;rw[k2 i hi,Z2 hi,L6,or_assoc]
    |some p=>
     obtain⟨v,R1,W1⟩:=p;rw[hpan]at h;simp only at h;cases hd:(!draw || Ss ops r.Qx r.T)with
     |false=>rw[hd]at h;cases h
     |true=>
      rw[hd]at h;simp only[cond_true]at h;have hL:QB r.L:=by
       exact RU b k _ _ _ _ _ _ _ s h ha
      obtain⟨h1,h2,WX⟩:=JX hF hJ (len:=c.tmps.len) ops.toList c.tmps H n sc q L r rfl hu hr hL;unfold RegOk at WX;rw[hpan]at WX;have JF:GoJ P B c H n {c with tmps:=r.T,mode:=.ZO v} r.H r.n (KE r.Qx++R1) (Ug r.Qx++W1):=by
       cases draw with
       |true=>
        obtain⟨H1,n1,o,l2,x1,x2,x3,x4,x5,_⟩:=WX;exact fH Zc hm ht h1 h2 ⟨H1,n1,o,l2,x1,x2,x3,x4,x5⟩ (by simpa using hd)
       |false=>exact lZ hm ht h1 h2 WX
      obtain⟨_,_,_,_,_,_,_,_,_,h5⟩:=WX;obtain⟨R,W,k1,k2⟩:=Wu hF hJ Zc k b _ _ _ _ _ _ _ s h5 h ha;refine⟨_,_,JF.srj k1,fun i hi=> ?_⟩;rw[k2 i hi,Z2 hi,L6 (s:=Ug r.Qx++W1),or_assoc]
   ·cases h
  ·rename_i f params assign body todo hm ht;split at h
   ·rename_i keys out UC n1 W1 sc' htold;split at h
    ·rename_i c' H' p hi;have hL:=RU b k _ _ _ _ _ _ _ s h ha;obtain⟨R0,JF⟩:=uB hF Zc hu hm ht hi hL.1;obtain⟨R,W,h1,h2⟩:=Wu hF hJ Zc k b _ _ _ _ _ _ _ s (hu.shape JF.shape) h ha;refine⟨_,_,JF.srj h1,fun i hi=> ?_⟩;rw[h2 i hi,Z2 hi,L6,or_assoc]
    ·cases h
   ·rename_i keys out UC n1 W1 sc' htold;split at h
    ·rename_i c' H' p hi;have hL:=RU b k _ _ _ _ _ _ _ s h ha;obtain⟨R0,JF⟩:=uA hF Zc hu hm ht hi hL.1;obtain⟨R,W,h1,h2⟩:=Wu hF hJ Zc k b _ _ _ _ _ _ _ s (hu.shape JF.shape) h ha;refine⟨_,_,JF.srj h1,fun i hi=> ?_⟩;rw[h2 i hi,Z2 hi,L6,or_assoc]
    ·cases h
   ·cases h
  ·exact plain h
end
end Go.CE

namespace Go.CE
open Go Go.RowKit

def YG(H:Qr)(n:Nat):List Nat:=(Ln n).filter fun r=>XB (Qu H r)
theorem mW{H:Qr}{n r:Nat}:r∈YG H n<->r<n/\XB (Qu H r)=true:=by simp[YG]
noncomputable def gC(n n1:Nat)(ρ:Nat->Nat)(μ μ':Mu)(fm:Nat->Option Obj):Mu:=fun i=>if i=n then some ⟨0,0,0,false,fm⟩else if n<i/\i<n1 then μ' (ρ i)else μ i
structure x6 (n n' n1:Nat) (W:List Nat) (μ μ':Mu) (H H' H1:Qr) (w':World) (ρ:Nat->Nat) (fk:List Nat):Prop where
 le:n<n1
 id:∀i,i<n->ρ i=i
 rng:∀i,n<i->i<n1->n<=ρ i/\ρ i<n'
 inj:∀i j,n<i->i<n1->n<j->j<n1->ρ i=ρ j->i=j
 under:Under H1 n1
 Zl:∀i,i<n->i ∉ W->Qu H1 i=Qu H i
 Y6:Qu H1 n=some XG
 obj:∀i o1,i<n1->(n<i\/i∈W/\i<n)->Qu H1 i=some o1->¬W8 o1/\(live o1->∃o,Qu H' (ρ i)=some o/\live o/\∀im,μ' (ρ i)=some im->OR μ' w' im o->OR (gC n n1 ρ μ μ' (KF μ' H' w' (YG H' n'++fk))) w' im o1)
 fz:∀k∈fk,n<=k/\k<n'/\(∃o,Qu H' k=some o/\live o)/\∀i,n<i->i<n1->ρ i≠k
theorem Post.merge{B n n' n1:Nat}{W:List Nat}{μ μ':Mu}{H H' H1:Qr}{w w':World}{ρ:Nat->Nat}{fk:List Nat}(QH:Ok B (fun i=>i<n) μ (Qu H) w)(hf:∀i,n<=i->μ i=none)(hp:Post B (fun i=>i<n) n n' W μ μ' H H' w w')(k:x6 n n' n1 W μ μ' H H' H1 w' ρ fk):
 Post B (fun i=>i<n) n n1 W μ (gC n n1 ρ μ μ' (KF μ' H' w' (YG H' n'++fk))) H H1 w w':=by
 have le1:=k.le;have hlow:∀i,i<n->gC n n1 ρ μ μ' (KF μ' H' w' (YG H' n'++fk)) i=μ i:=fun i hi=>by unfold gC;rw[if_neg (by omega),if_neg (by omega)]
 have hhigh:∀i,n<i->i<n1->gC n n1 ρ μ μ' (KF μ' H' w' (YG H' n'++fk)) i=μ' (ρ i):=fun i h1 h2=>by unfold gC;rw[if_neg (by omega),if_pos ⟨h1,h2⟩]
 have hmid:gC n n1 ρ μ μ' (KF μ' H' w' (YG H' n'++fk)) n=some ⟨0,0,0,false,KF μ' H' w' (YG H' n'++fk)⟩:=by unfold gC;rw[if_pos rfl]
 have hext:Ext μ (gC n n1 ρ μ μ' (KF μ' H' w' (YG H' n'++fk))):=by
  intro i im QP;rcases LI i n with h|h
  ·rw[hlow i h];exact QP
  ·rw[hf i h]at QP;cases QP
 generalize hM:gC n n1 ρ μ μ' (KF μ' H' w' (YG H' n'++fk))=μ1 at *;have obj:=k.obj;rw[hM]at obj
 -- an object of the new heap: an Zl one PD was left, the region, or one of the run
 have other:∀i o im,i<n->i ∉ W->Qu H i=some o->live o->μ i=some im->w'.heap[im.Z7]? =w.heap[im.Z7]? :=by
  intro i o im hi hw ho hl QP;refine hp.frame _ (QH.low i o im hi ho hl QP).1 fun q hq hqn ZL QZ hb=> ?_
  obtain⟨_,⟨oq,hoq,hlq⟩,im2,WJ,hr⟩:=hp.wr q hq hqn;rw[QZ]at WJ;cases WJ;by_cases hra:im.rw=true
  ·exact QH.inj q i oq o ZL im hqn hi (fun e=>hw (e ▸ hq)) hoq ho hlq hl QZ QP hr hra hb
  ·have a:=(QH.low i o im hi ho hl QP).2.2 (by simpa using hra);have b:=(QH.low q oq ZL hqn hoq hlq QZ).2.1 hr;omega
 have hS':∀i,i<n1->i≠n->(ρ i<n\/n<=ρ i/\ρ i<n'):=by
  intro i hi KC;rcases LI i n with h|h
  ·exact .inl (by rw[k.id i h];exact h)
  ·exact .inr (k.rng i (by omega) hi)
 have hmuR:∀i,i<n1->i≠n->μ1 i=μ' (ρ i):=by
  intro i hi KC;rcases LI i n with h|h
  ·rw[hlow i h,k.id i h,hp.ext i (by omega)]
  ·exact hhigh i (by omega) hi
 have VZ:∀i,(i<n\/n<=i/\i<n1)->i<n1:=fun i hi=>hi.elim (fun e=>by omega) (fun e=>e.2)
 have liveH':∀i o1,i<n1->Qu H1 i=some o1->live o1->i≠n/\∃o,Qu H' (ρ i)=some o/\live o:=by
  intro i o1 hi ho hl;have KC:i≠n:=fun e=>by rw[e,k.Y6]at ho;cases ho;exact hl.elim
  refine⟨KC, ?_⟩;by_cases h:n<i\/i∈W/\i<n
  ·obtain⟨o,h1,h2,_⟩:=(obj i o1 hi h ho).2 hl;exact⟨o,h1,h2⟩
  ·have h1:i<n:=by omega
   have h2:i ∉ W:=fun e=>h (.inr ⟨e,h1⟩)
   rw[k.Zl i h1 h2]at ho;exact⟨o1,by rw[k.id i h1,hp.keep i h1 h2];exact ho,hl⟩
 have hinj:∀i j,i<n1->j<n1->i≠n->j≠n->ρ i=ρ j->i=j:=by
  intro i j hi hj Y7 hjn e;rcases LI i n with h|h <;> rcases LI j n with h'|h'
  ·rw[k.id i h,k.id j h']at e;exact e
  ·have:=k.rng j (by omega) hj;rw[k.id i h]at e;omega
  ·have:=k.rng i (by omega) hi;rw[k.id j h']at e;omega
  ·exact k.inj i j (by omega) hi (by omega) hj e
 have regH1:∀i o,i<n1->Qu H1 i=some o->W8 o->i=n\/(i<n/\i ∉ W/\Qu H i=some o/\Qu H' i=some o):=by
  intro i o hi ho hr;by_cases KC:i=n
  ·exact .inl KC
  ·by_cases h:n<i\/i∈W/\i<n
   ·exact absurd hr (obj i o hi h ho).1
   ·have h1:i<n:=by omega
    have h2:i ∉ W:=fun e=>h (.inr ⟨e,h1⟩)
    rw[k.Zl i h1 h2]at ho;exact .inr ⟨h1,h2,ho,by rw[hp.keep i h1 h2];exact ho⟩
 have deadW:∀q,q∈W->q<n->(∀o,Qu H' q=some o->¬live o)->∀o,Qu H1 q=some o->¬live o:=by
  intro q hq hqn hd o ho hl;obtain⟨_,o',h5,h6⟩:=liveH' q o (by omega) ho hl;rw[k.id q hqn]at h5;exact hd o' h5 h6
 -- what stands in the region
 have fmCase:∀b x,KF μ' H' w' (YG H' n'++fk) b=some x->w'.heap[b]? =some x/\((∃r o im,r<n'/\Qu H' r=some o/\W8 o/\μ' r=some im/\im.fm b=some x)\/∃q o im,q∈fk/\Qu H' q=some o/\live o/\μ' q=some im/\im.Z7=b):=by
  intro b x h;have hw:=WS h;refine⟨hw, ?_⟩;unfold KF at h;split at h
  ·rename_i hc;obtain⟨i,hi,o,im,ho,QP,U7⟩:=hc;rcases List.mem_append.1 hi with hi|hi
   ·obtain⟨Xu,Kx⟩:=mW.1 hi;obtain⟨o',UY,hr'⟩:=ZW Kx;rw[ho]at UY;cases UY;rcases U7 with ⟨_,KC⟩|⟨hl,_⟩
    ·cases hx:im.fm b with
     |none=>exact absurd hx KC
     |some y=>
      obtain⟨ZL,QZ,hf'⟩:=hp.ok.Y6 i o (by rcases LI i n with h|h;exact .inl h;exact .inr ⟨h,Xu⟩) ho hr'
      rw[QP]at QZ;cases QZ;have:=hf' b y hx;rw[hw]at this;cases this;exact .inl ⟨i,o,im,Xu,ho,hr',QP,hx⟩
    ·exact absurd hl (by cases o <;> first|exact id|exact hr'.elim)
   ·obtain⟨h1,h2,⟨o',UY,hl'⟩,_⟩:=k.fz i hi;rw[ho]at UY;cases UY;rcases U7 with ⟨hr,_⟩|⟨hl,hb⟩
    ·exact absurd hl' (by cases o <;> first|exact id|exact hr.elim)
    ·exact .inr ⟨i,o,im,hi,ho,hl,QP,hb⟩
  ·cases h
 have hin':∀r,r<n'->(r<n\/n<=r/\r<n'):=fun r h=>by omega
 refine⟨⟨fun i o hi ho hl=> ?_,fun i o im hi ho hl QP=> ?_,fun i j oi oj a b hi hj Pq Wt Ws hli Ui ha hb hra Kx=> ?_,fun i o hi ho hr=> ?_,fun i j oi oj a b x hi hj Wt Ws YD Ui ha hb Kx hx=> ?_⟩,by omega,fun i hi=> ?_,fun i hi hw=>k.Zl i hi hw,hp.grow,hp.frame,hp.wr,fun i im o h1 h2 ho hl QP=> ?_,fun i im o hi ho hr QP b x hx=> ?_,hp.os,hp.tape,hp.output⟩
 ·have hi1:=VZ i hi;have KC:=(liveH' i o hi1 ho hl).1;by_cases h:n<i\/i∈W/\i<n
  ·obtain⟨o',h1,h2,h4⟩:=(obj i o hi1 h ho).2 hl;obtain⟨im,QP,We⟩:=hp.ok.rel (ρ i) o' (hS' i hi1 KC) h1 h2;exact⟨im,by rw[hmuR i hi1 KC];exact QP,h4 im QP We⟩
  ·have h1:i<n:=by omega
   have h2:i ∉ W:=fun e=>h (.inr ⟨e,h1⟩)
   rw[k.Zl i h1 h2]at ho;obtain⟨im,QP,We⟩:=QH.rel i o h1 ho hl;exact⟨im,hext _ _ QP,We.keep hext (other i o im h1 h2 ho hl QP)⟩
 ·have hi1:=VZ i hi;obtain⟨KC,o',h1,h2⟩:=liveH' i o hi1 ho hl;rw[hmuR i hi1 KC]at QP;exact hp.ok.low (ρ i) o' im (hS' i hi1 KC) h1 h2 QP
 ·have hi1:=VZ i hi;have hj1:=VZ j hj;obtain⟨hni,o1,h1,h2⟩:=liveH' i oi hi1 Wt hli;obtain⟨hnj,o2,h3,h4⟩:=liveH' j oj hj1 Ws Ui;rw[hmuR i hi1 hni]at ha;rw[hmuR j hj1 hnj]at hb;exact hp.ok.inj (ρ i) (ρ j) o1 o2 a b (hS' i hi1 hni) (hS' j hj1 hnj) (fun e=>Pq (hinj i j hi1 hj1 hni hnj e)) h1 h3 h2 h4 ha hb hra Kx
 ·rcases regH1 i o (VZ i hi) ho hr with Y7|⟨h1,h2,h3,h4⟩
  ·rw[Y7];exact⟨_,hmid,fun b x h=>WS h⟩
  ·obtain⟨im,QP,hf'⟩:=hp.ok.Y6 i o (.inl h1) h4 hr;rw[hp.ext i (by omega)]at QP;exact⟨im,hext _ _ QP,hf'⟩
 ·have hj1:=VZ j hj;obtain⟨hnj,o2,h3,h4⟩:=liveH' j oj hj1 Ws Ui;rw[hmuR j hj1 hnj]at hb;rcases regH1 i oi (VZ i hi) Wt YD with Y7|⟨h1,h2,h5,h6⟩
  ·rw[Y7,hmid]at ha;cases ha;obtain⟨_,U7⟩:=fmCase _ _ hx;rcases U7 with ⟨r,o,im,Xu,ho,hr,QP,hfx⟩|⟨q,o,im,hq,ho,hl,QP,hbb⟩
   ·exact hp.ok.sep r (ρ j) o o2 im b x (hin' r Xu) (hS' j hj1 hnj) ho h3 hr h4 QP hb Kx hfx
   ·obtain⟨q1,q2,_,q3⟩:=k.fz q hq;have KC:q≠ρ j:=by
     intro e;rcases LI j n with h|h
     ·rw[k.id j h]at e;omega
     ·exact q3 j (by omega) hj1 e.symm
    have Pp:=(hp.fresh q im o q1 q2 ho hl QP).1;exact hp.ok.inj q (ρ j) o o2 im b (hin' q q2) (hS' j hj1 hnj) KC ho h3 hl h4 QP hb Pp Kx hbb
  ·rw[hlow i h1]at ha;exact hp.ok.sep i (ρ j) oi o2 a b x (.inl h1) (hS' j hj1 hnj) h6 h3 YD h4 (by rw[hp.ext i (by omega)];exact ha) hb Kx hx
 ·rw[<-hM];unfold gC;rw[if_neg (by omega),if_neg (by omega)]
 ·obtain⟨KC,o',h3,h4⟩:=liveH' i o h2 ho hl;rw[hmuR i h2 KC]at QP;obtain⟨a,b⟩:=k.rng i (by omega) h2;obtain⟨hr,XM⟩:=hp.fresh (ρ i) im o' a b h3 h4 QP;exact⟨hr,XM.imp id fun⟨q,hq,hqn,hb,hd⟩=>⟨q,hq,hqn,hb,deadW q hq hqn hd⟩⟩
 ·have hi1:i<n1:=by omega
  rcases regH1 i o hi1 ho hr with Y7|⟨h1,h2,_⟩
  ·rw[Y7,hmid]at QP;cases QP;obtain⟨_,U7⟩:=fmCase _ _ hx;rcases U7 with ⟨r,o,im,Xu,ho,hr,QP,hfx⟩|⟨q,o,im,hq,ho,hl,QP,hbb⟩
   ·by_cases hx:n<=r/\r<n'\/r∈W/\r<n
    ·rcases hp.rf r im o hx ho hr QP b x hfx with c|c|⟨q,hq,hqn,hb,hd⟩
     ·exact .inl c
     ·exact .inr (.inl c)
     ·exact .inr (.inr ⟨q,hq,hqn,hb,deadW q hq hqn hd⟩)
    ·have h:r<n:=by omega
     rw[hp.keep r h fun e=>hx (.inr ⟨e,h⟩)]at ho;rw[hp.ext r (by omega)]at QP;exact .inr (.inl ⟨r,im,o,h,h,ho,hr,QP,hfx⟩)
   ·obtain⟨q1,q2,_,_⟩:=k.fz q hq;rcases(hp.fresh q im o q1 q2 ho hl QP).2 with c|⟨q',hq',hqn,⟨ZL,QZ,hb'⟩,hd⟩
    ·exact .inl (by omega)
    ·exact .inr (.inr ⟨q',hq',hqn,⟨ZL,QZ,by omega⟩,deadW q' hq' hqn hd⟩)
  ·rcases hi with hi|hi
   ·omega
   ·exact absurd hi.1 h2
end Go.CE

namespace Go.CE
open Go Go.RowKit

section
variable (H:Qr) (m:Nat) (pos:Nat->Option Nat) (fz:List Fz)
def G0(v:Value):Option (Value×List Prop):=bif simple v then some (v,[])else match v with
 | .func (.via r ⟨[]⟩ 0 true) ⟨[t]⟩ ⟨[]⟩=>bif XB (Qu H r) && Vg t then some (Q4 ((pos r).getD m) t,[])else none
 | .pointer (some ⟨k,o,none⟩)=>match pos k with
   |some j=>some (.pointer (some ⟨j,o,none⟩),[])
   |none=>match fJ fz k,Qu H k with
    |some x,some (.cells cs _ (0,0))=>bif x.rs.all fun r=>XB (Qu H r)then some (Q4 m (P1 o x.cs),[Zk x.rs cs x.cs])else none
    |_,_=>some (.chan none,[])
 | .slice (some ⟨k,o,none⟩) n z=>match pos k with
   |some j=>some (.slice (some ⟨j,o,none⟩) n z,[])
   |none=>match o,fJ fz k,Qu H k with
    |0,some x,some (.cells cs _ (0,0))=>bif x.rs.all fun r=>XB (Qu H r)then some (Q4 m (QV n x.cs),[Zk x.rs cs x.cs])else none
    |_,_,_=>some (.chan none,[])
 | .map (some r)=>match pos r with
   |some j=>some (.map (some j),[])
   |none=>some (.chan none,[])
 | .func (.yield l) ⟨[]⟩ ⟨[]⟩=>match pos l with
   |some j=>some (.func (.yield j) #[] #[],[])
   |none=>some (.chan none,[])
 | .chan none=>some (.chan none,[])
 |_=>none
def og(f:Value->Option (Value×List Prop)):List Value->Option (List Value×List Prop)
 |[]=>some ([],[])
 |v::l=>match f v with
  |some (t,L)=>match og f l with
   |some (ts,L2)=>some (t::ts,L++L2)
   |none=>none
  |none=>none
def ql:Nat->Value->Option (Value×List Prop)
 |0,v=>G0 H m pos fz v
 |f+1,v=>match v with
  | .agg xs=>match og (ql f) xs.toList with
    |some (l,L)=>some (.agg l.toArray,L)
    |none=>none
  | .tuple xs=>match og (ql f) xs.toList with
    |some (l,L)=>some (.tuple l.toArray,L)
    |none=>none
  | .iface t x=>match ql f x with
    |some (x,L)=>some (.iface t x,L)
    |none=>none
  | .func (.func g) xs ys=>match og (ql f) xs.toList with
    |some (l,L)=>match og (ql f) ys.toList with
     |some (k,L2)=>some (.func (.func g) l.toArray k.toArray,L++L2)
     |none=>none
    |none=>none
  |v=>G0 H m pos fz v
def I3(rs:List Nat)(v v1:Value):Prop:=(simple v=true/\v1=v)\/∃r∈rs,∃t,v=Q4 r t/\v1=Q4 m t/\Vg t=true
def QQ(rs:List Nat)(cs cs1:Array Value):Prop:=cs.size=cs1.size/\∀(i:Nat) v v1,cs[i]? =some v->cs1[i]? =some v1->I3 m rs v v1
end
theorem Qs{m:Nat}{rs:List Nat}{cs:Array Value}(h:∀v∈cs,simple v=true):QQ m rs cs cs:=⟨rfl,fun i v v1 h1 h2=>by
 rw[h1]at h2;cases h2;exact .inl ⟨h v (LM h1),rfl⟩⟩
inductive fT (m:Nat) (rs:List (Nat×Nat)) (JR:List (Nat×Array Value)) (ow:List (Nat×Nat)):Value->Value->Prop
 |simple {v}:CE.simple v=true->fT m rs JR ow v v
 |Y6 {r j t}:(r,j)∈rs->Vg t=true->fT m rs JR ow (Q4 r t) (Q4 j t)
 |own {k cs n c}:(k,cs)∈JR->fT m rs JR ow (.slice (some ⟨k,0,none⟩) n c) (Q4 m (QV n cs))
 |nil:fT m rs JR ow (.slice none 0 0) (Q4 m (QV 0 #[]))
 |keep {k j n c}:(k,j)∈ow->fT m rs JR ow (.slice (some ⟨k,0,none⟩) n c) (.slice (some ⟨j,0,none⟩) n c)
def AllX(m:Nat)(rs:List (Nat×Nat))(JR:List (Nat×Array Value))(ow:List (Nat×Nat)):List Value->List Value->Prop
 |[],[]=>True
 |v::l,u::k=>fT m rs JR ow v u/\AllX m rs JR ow l k
 |_,_=>False
def X3(m:Nat)(rs:List (Nat×Nat))(JR:List (Nat×Array Value))(ow:List (Nat×Nat))(cs cs1:Array Value):Prop:=AllX m rs JR ow cs.toList cs1.toList
theorem AllX.get{m:Nat}{rs:List (Nat×Nat)}{JR:List (Nat×Array Value)}{ow:List (Nat×Nat)}:∀{l k:List Value},AllX m rs JR ow l k->k.length=l.length/\∀(i:Nat) v u,l[i]? =some v->k[i]? =some u->fT m rs JR ow v u
 |[],[],_=>⟨rfl,fun i v u h=>by simp at h⟩
 |v::l,u::k,h=>by
  obtain⟨a,b⟩:=AllX.get h.2;refine⟨by simp[a],fun i x y hx hy=> ?_⟩;cases i with
  |zero=>
   simp only[Lv,YO]at hx hy;subst hx hy;exact h.1
  |succ i=>exact b i x y (by simpa using hx) (by simpa using hy)
 |[],_::_,h=>h.elim
 |_::_,[],h=>h.elim
theorem AllX.append{m:Nat}{rs:List (Nat×Nat)}{JR:List (Nat×Array Value)}{ow:List (Nat×Nat)}:∀{l k l2 k2:List Value},AllX m rs JR ow l k->AllX m rs JR ow l2 k2->AllX m rs JR ow (l++l2) (k++k2)
 |[],[],_,_,_,h2=>h2
 |_::_,_::_,_,_,h,h2=>⟨h.1,AllX.append h.2 h2⟩
 |[],_::_,_,_,h,_=>h.elim
 |_::_,[],_,_,h,_=>h.elim
section
variable {B:Nat} {S:Nat->Prop} {H:Qr} {m:Nat} {pos:Nat->Option Nat} {fz:List Fz} {μ μ1:Mu} {w:World} {n':Nat} {fk:List Nat} {im1:bt}
structure vd (H:Qr) (m:Nat) (pos:Nat->Option Nat) (fz:List Fz) (μ μ1:Mu) (w:World) (n':Nat) (fk:List Nat) (im1:bt):Prop where
 ok:∃B S,Ok B S μ (Qu H) w/\∀i,i<n'->S i
 under:Under H n'
 here:∀k j,pos k=some j->μ1 j=μ k
 Y6:μ1 m=some im1
 fm:im1.fm=KF μ H w (YG H n'++fk)
 sub:∀x∈fz,x.k∈fk
theorem ez:∀(l:List Fz) (k:Nat) (x:Fz),fJ l k=some x->x∈l/\x.k=k
 |[],k,x,h=>by cases h
 |y::l,k,x,h=>by
  simp only[fJ]at h;cases e:Lk y.k k with
  |true=>
   rw[e]at h;simp only[cond_true,YO]at h;subst h;exact⟨by simp,YE e⟩
  |false=>
   rw[e]at h;obtain⟨h1,h2⟩:=ez l k x h;exact⟨Lw _ h1,h2⟩
theorem Ac(hu:Under H n'){r:Nat}(h:XB (Qu H r)=true):r<n':=by
 obtain⟨o,ho,_⟩:=ZW h;exact hu.lt ho
theorem dy(c:vd H m pos fz μ μ1 w n' fk im1){r:Nat}(hr:XB (Qu H r)=true){im:bt}(QP:μ r=some im){b:Nat}{x:Obj}(hx:im.fm b=some x):im1.fm b=some x:=by
 obtain⟨B,S,QH,hS⟩:=c.ok;rw[c.fm];have Xu:=Ac c.under hr;exact gU QH (Ll _ (mW.2 ⟨Xu,hr⟩)) (hS r Xu) hr QP hx
theorem fL(c:vd H m pos fz μ μ1 w n' fk im1){rs:List Nat}(WX:(rs.all fun r=>XB (Qu H r))=true){v v1 v':Value}(h:mC rs v v1)(hv:VR μ v v'):TRv im1.fm v1 v':=by
 rcases h with ⟨h1,rfl⟩|⟨r,hr,rfl,_⟩
 ·rw[simple_eq h1 hv];exact .simple h1
 ·obtain⟨im,QP,ht⟩:=hv.top_inv;exact ht.mono fun b x hx=>dy c (List.all_eq_true.1 WX r hr) QP hx
theorem RE(c:vd H m pos fz μ μ1 w n' fk im1){v v' t:Value}{L:List Prop}(h:G0 H m pos fz v=some (t,L))(hL:QB L)(hv:VR μ v v'):VR μ1 t v':=by
 obtain⟨B,S,QH,hS⟩:=c.ok;have addr:∀{k j o:Nat} {a':Addr},pos k=some j->AR μ ⟨k,o,none⟩ a'->AR μ1 ⟨j,o,none⟩ a':=by
  rintro k j o a' hp ⟨im,h1,h2,h3⟩;exact⟨im,by rw[c.here k j hp];exact h1,rfl,h3⟩
 unfold G0 at h;cases hs:simple v with
 |true=>
  rw[hs]at h;simp only[cond_true,YO,YR]at h;obtain⟨rfl,rfl⟩:=h;rw[simple_eq hs hv];exact Wg hs
 |false=>
  rw[hs]at h;simp only[cond_false]at h;split at h
  ·rename_i r t0;cases hg:(XB (Qu H r) && Vg t0)with
   |false=>rw[hg]at h;cases h
   |true=>
    rw[hg]at h;simp only[cond_true,YO,YR]at h;obtain⟨rfl,rfl⟩:=h;simp only[YB]at hg;obtain⟨im,QP,ht⟩:=VR.top_inv (r:=r) (t:=t0) hv;cases hp:pos r with
    |none=>exact .top hg.2 c.Y6 (ht.mono fun b x hx=>dy c hg.1 QP hx)
    |some j=>exact .top hg.2 (by rw[Option.getD_some,c.here r j hp];exact QP) ht
  ·rename_i k o;split at h
   ·rename_i j hj;simp only[YO,YR]at h;obtain⟨rfl,rfl⟩:=h;cases hv with
    |ptr har=>exact .ptr (addr hj har)
   ·split at h
    ·rename_i x cs ty hx hg;cases hr:(x.rs.all fun r=>XB (Qu H r))with
     |false=>rw[hr]at h;cases h
     |true=>
      rw[hr]at h;simp only[cond_true,YO,YR]at h;obtain⟨rfl,rfl⟩:=h;obtain⟨⟨h2,h3⟩,_⟩:=hL;obtain⟨hxm,hxk⟩:=ez _ _ _ hx;have hkf:k∈fk:=hxk ▸ c.sub x hxm;obtain⟨im,arr,QP,_,hoff,harr,hle,_,hcells⟩:=al QH (hS k (c.under.lt hg)) hg;cases hv with
      |ptr har=>
       obtain⟨im2,WJ,_,rfl⟩:=har;rw[QP]at WJ;cases WJ;rw[hoff];refine .top rfl c.Y6 (TRv.ptr (o:=0) (by rw[c.fm];exact(gW (Lx _ hkf) hg trivial QP).trans harr) (fun i hi=>by omega) fun i v v' hv Wn=> ?_);simp only[LF]at Wn;have hi:i<cs.size:=by rw[h2];exact(Array.getElem?_eq_some_iff.1 hv).1
       obtain⟨u,Sy,hu2⟩:=hcells i cs[i] (by simp[hi]);rw[Wn]at Sy;cases Sy;exact fL c hr (h3 i _ _ (by simp[hi]) hv) hu2
    ·simp only[YO,YR]at h;obtain⟨rfl,rfl⟩:=h;cases hv;exact .KB (fun b e=>by cases e) rfl rfl
  ·rename_i k o n z;split at h
   ·rename_i j hj;simp only[YO,YR]at h;obtain⟨rfl,rfl⟩:=h;cases hv with
    |slice har a b d=>
     refine .slice (addr hj har) a b fun hz im QP Pp hoff=>d hz im ?_ Pp hoff
     rw[<-c.here k j hj];exact QP
   ·split at h
    ·rename_i x cs ty hx hg;cases hr:(x.rs.all fun r=>XB (Qu H r))with
     |false=>rw[hr]at h;cases h
     |true=>
      rw[hr]at h;simp only[cond_true,YO,YR]at h;obtain⟨rfl,rfl⟩:=h;obtain⟨⟨h2,h3⟩,_⟩:=hL;obtain⟨hxm,hxk⟩:=ez _ _ _ hx;have hkf:k∈fk:=hxk ▸ c.sub x hxm;obtain⟨im,arr,QP,_,hoff,harr,hle,_,hcells⟩:=al QH (hS k (c.under.lt hg)) hg;cases hv with
      |slice har a b _=>
       obtain⟨im2,WJ,_,rfl⟩:=har;rw[QP]at WJ;cases WJ;rw[hoff];refine .top rfl c.Y6 (TRv.slice (o:=0) a b (by rw[c.fm];exact(gW (Lx _ hkf) hg trivial QP).trans harr) (fun i hi=>by omega) fun i v v' hv Wn=> ?_);simp only[LF]at Wn;have hi:i<cs.size:=by rw[h2];exact(Array.getElem?_eq_some_iff.1 hv).1
       obtain⟨u,Sy,hu2⟩:=hcells i cs[i] (by simp[hi]);rw[Wn]at Sy;cases Sy;exact fL c hr (h3 i _ _ (by simp[hi]) hv) hu2
    ·simp only[YO,YR]at h;obtain⟨rfl,rfl⟩:=h;cases hv;exact .KB (fun b e=>by cases e) rfl rfl
  ·rename_i r;split at h
   ·rename_i j hj;simp only[YO,YR]at h;obtain⟨rfl,rfl⟩:=h;cases hv with
    |map hr=>exact .map (by rw[c.here r j hj];exact hr)
   ·simp only[YO,YR]at h;obtain⟨rfl,rfl⟩:=h;cases hv;exact .KB (fun b e=>by cases e) rfl rfl
  ·rename_i l;split at h
   ·rename_i j hj;simp only[YO,YR]at h;obtain⟨rfl,rfl⟩:=h;cases hv with
    |yield hl=>exact .yield (by rw[c.here l j hj];exact hl)
   ·simp only[YO,YR]at h;obtain⟨rfl,rfl⟩:=h;cases hv;exact .KB (fun b e=>by cases e) rfl rfl
  ·simp only[YO,YR]at h;obtain⟨rfl,rfl⟩:=h;cases hv with
   |KB a b c=>exact .KB a b c
  ·cases h
theorem eE{f:Value->Option (Value×List Prop)}(hf:∀v v' t L,f v=some (t,L)->QB L->VR μ v v'->VR μ1 t v'):∀(l ts:List Value) (L:List Prop) (l':List Value),og f l=some (ts,L)->QB L->l.length=l'.length->(∀(i:Nat) v v',l[i]? =some v->l'[i]? =some v'->VR μ v v')->
 ts.length=l'.length/\∀(i:Nat) v v',ts[i]? =some v->l'[i]? =some v'->VR μ1 v v'
 |[],ts,L,l',h,hL,hl,hv=>by
  simp only[og,YO,YR]at h;obtain⟨rfl,rfl⟩:=h;exact⟨hl,fun i v v' h=>by simp at h⟩
 |v::l,ts,L,[],h,hL,hl,hv=>by simp at hl
 |v::l,ts,L,v'::l',h,hL,hl,hv=>by
  simp only[og]at h;split at h
  ·rename_i t L1 h1;split at h
   ·rename_i ts2 L2 h2;simp only[YO,YR]at h;obtain⟨rfl,rfl⟩:=h;obtain⟨a,b⟩:=Xl hL;have k1:=hf v v' t L1 h1 a (hv 0 v v' rfl rfl);obtain⟨k2,k3⟩:=eE hf l ts2 L2 l' h2 b (by simpa using hl) fun i u u' x y=>hv (i+1) u u' (by simpa using x) (by simpa using y)
    refine⟨by simp[k2],fun i u u' x y=> ?_⟩;cases i with
    |zero=>
     simp only[Lv,YO]at x y;subst x y;exact k1
    |succ i=>exact k3 i u u' (by simpa using x) (by simpa using y)
   ·cases h
  ·cases h
theorem VW(c:vd H m pos fz μ μ1 w n' fk im1):∀(f:Nat) (v v' t:Value) (L:List Prop),ql H m pos fz f v=some (t,L)->QB L->VR μ v v'->VR μ1 t v'
 |0,v,v',t,L,h,hL,hv=>RE c h hL hv
 |f+1,v,v',t,L,h,hL,hv=>by
  have arr:∀{xs xs':Array Value} {l:List Value} {L:List Prop},og (ql H m pos fz f) xs.toList=some (l,L)->QB L->xs.size=xs'.size->(∀(i:Nat) v v',xs[i]? =some v->xs'[i]? =some v'->VR μ v v')->l.toArray.size=xs'.size/\∀(i:Nat) v v',l.toArray[i]? =some v->xs'[i]? =some v'->VR μ1 v v':=by
   intro xs xs' l L h hL hs hx;obtain⟨a,b⟩:=eE (fun v v' t L=>VW c f v v' t L) xs.toList l L xs'.toList h hL (by simpa using hs) fun i v v' x y=>hx i v v' (by simpa using x) (by simpa using y)
   exact⟨by simpa using a,fun i v v' x y=>b i v v' (by simpa using x) (by simpa using y)⟩
  cases v with
  |agg xs=>
   simp only[ql]at h;split at h
   ·rename_i l L1 hl;simp only[YO,YR]at h;obtain⟨rfl,rfl⟩:=h;cases hv with
    |agg h1 h2=>exact .agg (arr hl hL h1 h2).1 (arr hl hL h1 h2).2
   ·cases h
  |tuple xs=>
   simp only[ql]at h;split at h
   ·rename_i l L1 hl;simp only[YO,YR]at h;obtain⟨rfl,rfl⟩:=h;cases hv with
    |tuple h1 h2=>exact .tuple (arr hl hL h1 h2).1 (arr hl hL h1 h2).2
   ·cases h
  |iface ty x=>
   simp only[ql]at h;split at h
   ·rename_i l L1 hl;simp only[YO,YR]at h;obtain⟨rfl,rfl⟩:=h;cases hv with
    |iface hv=>exact .iface (VW c f _ _ _ _ hl hL hv)
   ·cases h
  |func fn xs ys=>
   cases fn with
   |func g=>
    simp only[ql]at h;split at h
    ·rename_i l L1 hl;split at h
     ·rename_i k L2 hk;simp only[YO,YR]at h;obtain⟨rfl,rfl⟩:=h;obtain⟨a,b⟩:=Xl hL;cases hv with
      |func h1 h2 h3 h4=>
       have k1:=arr hl a h1 h3;have k2:=arr hk b h2 h4;exact .func k1.1 k2.1 k1.2 k2.2
     ·cases h
    ·cases h
   |_=>exact RE (fz:=fz) c (by exact h) hL hv
  |_=>exact RE (fz:=fz) c (by exact h) hL hv
end
inductive KS where
 |auto
 |cells (rs:List Nat) (cs:Array Value)
 |same
 |dead
 |rows (rs:List (Nat×Nat)) (ks:List Nat) (ow:List (Nat×Nat)) (cs:Array Value)
def Dk(pos:Nat->Option Nat)(p:Nat×Nat):Bool:=match pos p.1 with
 |some j=>Lk j p.2
 |none=>false
def DD(H:Qr)(pos:Nat->Option Nat)(fz:List Fz):List Nat->Option (List (Nat×Array Value)×List Prop)
 |[]=>some ([],[])
 |k::l=>match pos k,fJ fz k,Qu H k with
  |none,some x,some (.cells cs _ (0,0))=>bif x.rs.all fun r=>XB (Qu H r)then match DD H pos fz l with
   |some (JR,L)=>some ((k,x.cs)::JR,Zk x.rs cs x.cs::L)
   |none=>none
    else none
  |_,_,_=>none
theorem uQ{H:Qr}{m:Nat}{pos:Nat->Option Nat}{fz:List Fz}:∀(ks:List Nat) (JR:List (Nat×Array Value)) (L:List Prop),DD H pos fz ks=some (JR,L)->QB L->∀k cs n c,(k,cs)∈JR->∃L',G0 H m pos fz (.slice (some ⟨k,0,none⟩) n c)=some (Q4 m (QV n cs),L')/\QB L'
 |[],JR,L,h,hL,k,cs,n,c,hm=>by
  simp only[DD,YO,YR]at h;obtain⟨rfl,rfl⟩:=h;simp at hm
 |k0::l,JR,L,h,hL,k,cs,n,c,hm=>by
  simp only[DD]at h;split at h
  ·rename_i x cs0 t0 h1 h2 h3;cases hr:(x.rs.all fun r=>XB (Qu H r))with
   |false=>rw[hr]at h;cases h
   |true=>
    rw[hr]at h;simp only[cond_true]at h;split at h
    ·rename_i frs2 L2 h4;simp only[YO,YR]at h;obtain⟨rfl,rfl⟩:=h;rcases List.mem_cons.1 hm with e|e
     ·simp only[YR]at e;obtain⟨rfl,rfl⟩:=e;refine⟨[Zk x.rs cs0 x.cs], ?_,hL.1,trivial⟩;unfold G0;have hs:simple (.slice (some ⟨k,0,none⟩) n c)=false:=rfl;rw[hs];simp only[cond_false,h1,h2,h3,hr,cond_true]
     ·exact uQ l frs2 L2 h4 hL.2 k cs n c e
    ·cases h
  ·cases h
def HK(H:Qr)(m:Nat)(pos:Nat->Option Nat)(fz:List Fz):Option Obj->KS->Option (Obj×List Prop)
 |some (.cells cs t fl),.auto=>match og (ql H m pos fz 3) cs.toList with
  |some (l,L)=>some (.cells l.toArray t fl,L)
  |none=>none
 |some (.cells cs t fl),.cells rs cs1=>bif rs.all fun r=>XB (Qu H r)then some (.cells cs1 t fl,[QQ m rs cs cs1])else none
 |some (.cells cs t fl),.rows rs ks ow cs1=>bif (rs.all fun p=>XB (Qu H p.1) && Lk ((pos p.1).getD m) p.2) && ow.all (Dk pos)then match DD H pos fz ks with
  |some (JR,L)=>some (.cells cs1 t fl,X3 m rs JR ow cs cs1::L)
  |none=>none
   else none
 |some (.map es JS),.same=>some (.map es JS,[XW es])
 |some (.loop r),.auto=>match og (ql H m pos fz 3) r.tmps.toList with
  |some (l,L)=>some (.loop {r with tmps:=l.toArray},L)
  |none=>none
 |some (.deferred ds),.same=>some (.deferred ds,[])
 |some (.pending _ _),.dead=>some (.pending #[] 0,[])
 |_,_=>none
theorem RG{H:Qr}{m:Nat}{pos:Nat->Option Nat}{fz:List Fz}{μ μ1:Mu}{w:World}{n':Nat}{fk:List Nat}{im1:bt}(c:vd H m pos fz μ μ1 w n' fk im1){o:Option Obj}{s:KS}{o1:Obj}{L:List Prop}(h:HK H m pos fz o s=some (o1,L))(hL:QB L):
 (∃x,o=some x)/\¬W8 o1/\(live o1->∃x,o=some x/\live x/\∀im,OR μ w im x->OR μ1 w im o1):=by
 have cells:∀{cs cs1:Array Value} {t:TypeId} {fl:Nat×Nat},cs1.size=cs.size->(∀(i:Nat) v v1 v',cs[i]? =some v->cs1[i]? =some v1->VR μ v v'->VR μ1 v1 v')->∀im,OR μ w im (.cells cs t fl)->OR μ1 w im (.cells cs1 t fl):=by
  intro cs cs1 t fl hs hc im We;have get:∀(i:Nat) v1,cs1[i]? =some v1->∃v,cs[i]? =some v:=fun i v1 h=>by
   have:=(Array.getElem?_eq_some_iff.1 h).1;exact⟨cs[i],by simp[show i<cs.size by omega]⟩
  rcases We with ⟨h1,h2,h3,arr,h4,h5,h6,h7⟩|⟨h1,h2⟩
  ·refine .inl ⟨h1,h2,h3,arr,h4,by omega,h6,fun i v1 hv1=> ?_⟩;obtain⟨v,hv⟩:=get i v1 hv1;obtain⟨v',a,b⟩:=h7 i v hv;exact⟨v',a,hc i v v1 v' hv hv1 b⟩
  ·refine .inr ⟨h1,fun i v1 hv1=> ?_⟩;obtain⟨v,hv⟩:=get i v1 hv1;obtain⟨v',a,b⟩:=h2 i v hv;exact⟨v',a,hc i v v1 v' hv hv1 b⟩
 unfold HK at h;split at h
 ·rename_i cs t fl;split at h
  ·rename_i l L1 hl;simp only[YO,YR]at h;obtain⟨rfl,rfl⟩:=h;have key:∀(l ts:List Value) (L:List Prop),og (ql H m pos fz 3) l=some (ts,L)->QB L->ts.length=l.length/\∀(i:Nat) v v1 v',l[i]? =some v->ts[i]? =some v1->VR μ v v'->VR μ1 v1 v':=by
    intro l;induction l with
    |nil=>
     intro ts L h hL;simp only[og,YO,YR]at h;obtain⟨rfl,rfl⟩:=h;exact⟨rfl,fun i v v1 v' h=>by simp at h⟩
    |cons v l ih=>
     intro ts L h hL;simp only[og]at h;split at h
     ·rename_i t L1 h1;split at h
      ·rename_i ts2 L2 h2;simp only[YO,YR]at h;obtain⟨rfl,rfl⟩:=h;obtain⟨a,b⟩:=Xl hL;obtain⟨k1,k2⟩:=ih ts2 L2 h2 b;refine⟨by simp[k1],fun i u u1 u' x y hr=> ?_⟩;cases i with
       |zero=>
        simp only[Lv,YO]at x y;subst x y;exact VW c 3 _ _ _ _ h1 a hr
       |succ i=>exact k2 i u u1 u' (by simpa using x) (by simpa using y) hr
      ·cases h
     ·cases h
   obtain⟨k1,k2⟩:=key _ _ _ hl hL;refine⟨⟨_,rfl⟩,id,fun _=> ?_⟩;exact⟨_,rfl,trivial,cells (by simpa using k1) fun i v v1 v' x y=>k2 i v v1 v' (by simpa using x) (by simpa using y)⟩
  ·cases h
 ·rename_i cs t fl rs cs1;cases hr:(rs.all fun r=>XB (Qu H r))with
  |false=>rw[hr]at h;cases h
  |true=>
   rw[hr]at h;simp only[cond_true,YO,YR]at h;obtain⟨rfl,rfl⟩:=h;obtain⟨⟨h1,h2⟩,_⟩:=hL;refine⟨⟨_,rfl⟩,id,fun _=> ?_⟩;refine⟨_,rfl,trivial,cells h1.symm fun i v v1 v' x y hv=> ?_⟩;rcases h2 i v v1 x y with ⟨hs,rfl⟩|⟨r,hrm,t,rfl,rfl,ht⟩
   ·rw[simple_eq hs hv];exact Wg hs
   ·obtain⟨im,QP,htr⟩:=hv.top_inv;exact .top ht c.Y6 (htr.mono fun b x hx=>dy c (List.all_eq_true.1 hr r hrm) QP hx)
 ·rename_i cs t fl rs ks ow cs1;cases hr0:((rs.all fun p=>XB (Qu H p.1) && Lk ((pos p.1).getD m) p.2) && ow.all (Dk pos))with
  |false=>rw[hr0]at h;cases h
  |true=>
   rw[hr0]at h;simp only[cond_true]at h;simp only[YB]at hr0;obtain⟨hr,how⟩:=hr0;split at h
   ·rename_i JR L2 hks;simp only[YO,YR]at h;obtain⟨rfl,rfl⟩:=h;obtain⟨hx,hL2⟩:=hL;obtain⟨h1,h2⟩:=AllX.get hx;refine⟨⟨_,rfl⟩,id,fun _=> ?_⟩;refine⟨_,rfl,trivial,cells (by simpa using h1) fun i v v1 v' x y hv=> ?_⟩;have hc:=h2 i v v1 (by simpa using x) (by simpa using y);cases hc with
    |simple hs=>rw[simple_eq hs hv];exact Wg hs
    |Y6 hm ht=>
     rename_i r j t0;have:=List.all_eq_true.1 hr _ hm;simp only[YB]at this;have e:G0 H m pos fz (Q4 r t0)=some (Q4 j t0,[]):=by
      have hs:simple (Q4 r t0)=false:=rfl;unfold G0;rw[hs];simp only[cond_false,Q4,this.1,ht,Bool.and_self,cond_true,YE this.2]
     exact RE c e trivial hv
    |own hm=>
     obtain⟨L',e,hL'⟩:=uQ ks JR L2 hks hL2 _ _ _ _ hm;exact RE c e hL' hv
    |nil=>
     cases hv;exact .top rfl c.Y6 .nil
    |keep hm=>
     have hk:=List.all_eq_true.1 how _ hm;unfold Dk at hk;split at hk
     ·rename_i j0 hj0;have hk:=YE hk;have e:=c.here _ _ hj0;rw[hk]at e;cases hv with
      |slice har h1 h2 h3=>
       obtain⟨im,hi,_,rfl⟩:=har;refine .slice ⟨im,e.trans hi,rfl,rfl⟩ h1 h2 fun hs ZL QZ=> ?_
       rw[e]at QZ;exact h3 hs ZL QZ
     ·cases hk
   ·cases h
 ·rename_i es JS;simp only[YO,YR]at h;obtain⟨rfl,rfl⟩:=h;obtain⟨hp,_⟩:=hL;refine⟨⟨_,rfl⟩,id,fun _=> ?_⟩;refine⟨_,rfl,trivial,fun im We=> ?_⟩;obtain⟨h1,Kg,h2,h3,h4⟩:=We;refine⟨h1,Kg,h2,h3,fun i e e' x y=> ?_⟩;obtain⟨p,q,r,s⟩:=h4 i e e' x y;have hs:=hp i e x;exact⟨p,q,r,by rw[RK hs s];exact Jk hs⟩
 ·rename_i r;split at h
  ·rename_i l L1 hl;simp only[YO,YR]at h;obtain⟨rfl,rfl⟩:=h;refine⟨⟨_,rfl⟩,id,fun _=> ?_⟩;refine⟨_,rfl,trivial,fun im We=> ?_⟩;obtain⟨h1,tm,df,h2,h3⟩:=We;obtain⟨a,b⟩:=eE (fun v v' t L=>VW c 3 v v' t L) r.tmps.toList l L1 tm.toList hl hL (by simpa using h3.1) fun i v v' x y=>h3.2 i v v' (by simpa using x) (by simpa using y)
   exact⟨h1,tm,df,h2,by simpa using a,fun i v v' x y=>b i v v' (by simpa using x) (by simpa using y)⟩
  ·cases h
 ·rename_i ds;simp only[YO,YR]at h;obtain⟨rfl,rfl⟩:=h;exact⟨⟨_,rfl⟩,id,fun _=>⟨_,rfl,trivial,fun im We=>We⟩⟩
 ·simp only[YO,YR]at h;obtain⟨rfl,rfl⟩:=h;exact⟨⟨_,rfl⟩,id,fun hl=>hl.elim⟩
 ·cases h
end Go.CE
