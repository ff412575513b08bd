/- TW 3: operations on trees. -/
import Derived.Test.YtncjjangllkokaaZRQ08
set_option linter.all false
open Nat renaming beq->NH,blt->NO,min->OA,ble->Oo,le_refl->NZ,zero_add->Ob,lt_or_ge->Oe
open Array renaming getElem?_extract->Oz,mem_of_getElem? ->Om,getElem?_toList->NM
open Option renaming map_some->Oh
open List renaming length->NG,getElem?_append_right->NL,range'->Oa,mem_append_left->NK,mem_append_right->NT,mem_append->OD,range->NI,getElem?_cons_zero->NQ,mem_cons_of_mem->NS
namespace Go.CE
open Go Go.RowKit

inductive Qj where
 |XV (h:Hint)
 |tidx (k:Nat) (es:Array Value)
 |tarr (k:Nat) (es:Array Value)
 |tslc (k m':Nat) (cs':Array Value)
 |tapp (cs':Array Value)
 |tapp0
 |tcpy (cs':Array Value)
 |pure (out:Value) (fz:List Fz)
 |pureK (out:Value) (fz:List Fz)
 |bin (v:Value)
 |call (keys:List Nat) (out:OO) (Ut:Qp) (n':Nat) (W:List Nat)
 |eval (s:Rs)
 |wri (κ R:List Nat) (ps qs:List Bool) (out:OO) (outs news:List Obj)
 |tnil
 |wriC (κ R:List Nat) (ps qs:List Bool) (out:OO) (outs news:List Obj) (o2:OO)
def killL(H:Qp):List Nat->Qp
 |[]=>H
 |k::K=>S8 (killL H K) (some k)
def Ts:Option Obj->Bool
 |some (.cells _ _ (0,0))=>true
 |_=>false
def wS(P:Program)(T:Tm)(o:Oper):Option (Value×Nat):=match o.op with
 | .call c=>match c.callee with
   | .builtin .len=>match c.args.toList,c.argTypes.toList with
     |[x],[t]=>match Zd T x with
      |some v=>match fI v,Jl P t with
       |some (r,k,_),some (.slice _)=>some (.int .i64 k,r)
       |_,_=>none
      |none=>none
     |_,_=>none
   |_=>none
 | .fieldAddr s x f=>match Zd T x with
   |some v=>match rY v with
    |some (r,off,cs)=>match Wx P s f (.pointer (some ⟨0,off,none⟩))with
     |some (.pointer (some ⟨0,off',none⟩))=>some (Q6 r (Ra off' cs),r)
     |_=>none
    |none=>none
   |none=>none
 | .load t x=>match Zd T x with
   |some v=>match rY v with
    |some (r,off,cs)=>match K5 P t cs off with
     |some v=>bif qk 4 v then some (Q8 r 4 v,r)else none
     |none=>none
    |none=>none
   |none=>none
 |_=>none
def KL:Value->Bool
 | .slice none 0 0| .chan (some 0)=>true
 |_=>false
def TF(P:Program)(T:Tm)(o:Oper):Option (Value×Nat×Nat×Array Value×TypeId×Nat×Nat×Value):=match o.op with
 | .call c=>match c.callee with
   | .builtin .append=>match c.args.toList,c.argTypes.toList with
     |[s,x],[t,t']=>match Zd T s,Zd T x with
      |some sv,some xv=>match fI xv,Jl P t with
       |some (r,k,cs),some (.slice e)=>match inf P e with
        |some i=>match i.zero,i.size with
         |some zv,z+1=>bif NH t t' && KL sv && NH zv.cells.size (z+1)then some (sv,r,k,cs,e,z+1,i.bytes,zv)else none
         |_,_=>none
        |none=>none
       |_,_=>none
      |_,_=>none
     |_,_=>none
   |_=>none
 |_=>none
def iv(P:Program)(T:Tm)(o:Oper):Option (Nat×Nat×Nat×Nat×Nat×Array Value×Nat):=match o.op with
 | .call c=>match c.callee with
   | .builtin .copy=>match c.args.toList,c.argTypes.toList with
     |[s,x],[t,_]=>match Zd T s,Zd T x with
      |some (.slice (some ⟨b,off,none⟩) k _),some xv=>match fI xv,Jl P t with
       |some (r,m,cs2),some (.slice e)=>match WN P e with
        |some z=>some (b,off,k,r,m,cs2,z)
        |none=>none
       |_,_=>none
      |_,_=>none
     |_,_=>none
   |_=>none
 |_=>none
def ny(P:Program)(op:BinOp)(t:TypeId)(a b v:Value):Prop:=∀(x y:Operand) (w:World),(do eqGuard op t x y a b;binOp op t a b:Sem Value).run P w=.ok v w
def Nr(P:Program)(F:FuncId->Bool)(J:World->Prop)(B:Lo)(T:Tm)(o:Oper)(H:Qp)(n:Nat):Option Qj->Option Told
 |none=>match wS P T o with
  |some (v,r)=>bif NO r n && Xx (Qu H r)then some ⟨⟨.ret v,H,n,[r],[]⟩,none⟩else none
  |none=>MI P F B T o H n none
 |some (.XV h)=>MI P F B T o H n (some h)
 |some (.tidx k es)=>match o.op with
  | .indexAddr t x i=>match Zd T x,Zd T i with
    |some v,some (.int _ q)=>match fI v,Jl P t with
     |some (r,m,cs),some (.slice e)=>match WN P e with
      |some z=>bif NO r n && Xx (Qu H r)then some ⟨⟨.ret (Q6 r (Ra 0 es)),H,n,[r],[]⟩,some (q=(k:Int)/\k<m/\cs.extract (k*z) (k*z+z)=es)⟩else none
      |none=>none
     |_,_=>none
    |_,_=>none
  |_=>none
 |some (.tarr k es)=>match o.op with
  | .indexAddr t x i=>match Zd T x,Zd T i with
    |some v,some (.int _ q)=>match rY v,Jl P t with
     |some (r,off,cs),some (.array m e)=>match WN P e with
      |some z=>bif NO r n && Xx (Qu H r)then some ⟨⟨.ret (Q6 r (Ra 0 es)),H,n,[r],[]⟩,some (q=(k:Int)/\k<m/\cs.extract (off+k*z) (off+k*z+z)=es)⟩else none
      |none=>none
     |_,_=>none
    |_,_=>none
  |_=>none
 |some (.tslc k m' cs')=>match o.op with
  | .slice t x (some lo) none none=>match Zd T x,Zd T lo with
    |some v,some (.int _ q)=>match fI v,Jl P t with
     |some (r,m,cs),some (.slice e)=>match WN P e with
      |some z=>bif NO r n && Xx (Qu H r)then some ⟨⟨.ret (Q6 r (QO m' cs')),H,n,[r],[]⟩,some (q=(k:Int)/\k<m/\m'=m-k/\cs.extract (k*z) cs.size=cs')⟩else none
      |none=>none
     |_,_=>none
    |_,_=>none
  |_=>none
 |some (.tapp cs')=>match TF P T o with
  |some (_,r,k,cs,e,z,by',_)=>bif NO r n && Xx (Qu H r)then
   some ⟨⟨.ret (.slice (some ⟨n,0,none⟩) k z),(n,.cells cs' e (0,0))::H,n+1,[r],[]⟩,some (0<k/\k<=maxLen/\k*by'<=140737488355328/\cs.size=k*z/\cs.map (ZX r)=cs'/\(cs.all fun v=>simple v || WO v)=true/\ones cs'=true)⟩else none
  |none=>none
 |some .tapp0=>match TF P T o with
  |some (sv,r,k,_,_,_,_,_)=>bif NO r n && Xx (Qu H r)then some ⟨⟨.ret sv,H,n,[r],[]⟩,some (k=0)⟩else none
  |none=>none
 |some (.tcpy cs')=>match iv P T o with
  |some (b,off,k,r,m,cs2,z)=>match Qu H b with
   |some (.cells cs te (0,0))=>bif NO r n && Xx (Qu H r) && NO b n then
    some ⟨⟨.ret (.int .i64 (OA m k)),V6 H b (.cells cs' te (0,0)),n,[b,r],[b]⟩,some (0<m/\off+OA m k*z<=cs.size/\OA m k*z<=cs2.size/\(cs2.all fun v=>simple v || WO v)=true/\ones ((cs2.extract 0 (OA m k*z)).map (ZX r))=true/\splice cs off ((cs2.extract 0 (OA m k*z)).map (ZX r))=cs')⟩else none
   |_=>none
  |none=>none
 |some (.eval s)=>some ⟨s,some (b6 P F Xw (fun _ _ _=>none) T o H n=some s)⟩
 |some (.bin v)=>match o.op with
  | .binOp op t x y _=>match Zd T x,Zd T y with
    |some a,some b=>bif af a && af b && af v then some ⟨⟨.ret v,H,n,[],[]⟩,some (ny P op t a b v)⟩else none
    |_,_=>none
  |_=>none
 |some (.call keys out Ut n' W)=>match o.op with
  | .call _=>match P9 P F (Zd T) o H n with
    |some ⟨.enter g args,H1,n1,R,W1⟩=>bif NH n1 n && W1.isEmpty then
     match Wo P g args with
     |some c1=>some ⟨⟨out,Ut++H1,n',R++keys,W⟩,some (FJ P B c1 H1 n out (Ut++H1) n' keys W)⟩
     |none=>none
      else none
    |some ⟨.round l fn tm a b,H1,n1,R,W1⟩=>bif NH n1 n && W1.isEmpty && Oo tm.size 16000 then some ⟨⟨out,Ut++H1,n',R++keys,W⟩,some (FJ P B ⟨fn,ofList tm.size tm.toList,[.code a,.beginRound,.code b],[],.run,some l⟩ H1 n out (Ut++H1) n' keys W)⟩else none
    |_=>none
  |_=>none
 |some (.pure out fz)=>match o.op with
  | .call _=>match P9 P F (Zd T) o H n with
    |some ⟨.enter g args,H1,n1,R,W1⟩=>bif NH n1 n && W1.isEmpty then
     match UH (VK H1 fz 3) args.toList with
     |some (ts,R2,L)=>bif R2.all fun i=>NO i n then
      bif Td 2 out then some ⟨⟨.ret out,H1,n,R++R2,[]⟩,some (Q7 L/\Q4 P J g ts.toArray out)⟩
      else bif (R2.all fun i=>Xx (Qu H1 i)) && qk 4 out then some ⟨⟨.ret (Q8 n 4 out),(n,Xp)::H1,n+1,R++R2,[]⟩,some (Q7 L/\Q4 P J g ts.toArray out)⟩else none
       else none
     |none=>none
      else none
    |_=>none
  |_=>none
 |some (.pureK out fz)=>match o.op with
  | .call _=>match P9 P F (Zd T) o H n with
    |some ⟨.enter g args,H1,n1,R,W1⟩=>bif NH n1 n && W1.isEmpty then
     match UH (VK H1 fz 3) args.toList with
     |some (ts,R2,L)=>bif (R2.all fun i=>NO i n) && (R2.all fun i=>Xx (Qu H1 i) || Ts (Qu H1 i)) && qk 4 out then
      some ⟨⟨.ret (Q8 n 4 out),(n,Xp)::killL H1 (R2.filter fun i=>Ts (Qu H1 i)),n+1,R++R2,R2.filter fun i=>Ts (Qu H1 i)⟩,some (Q7 L/\Q4 P J g ts.toArray out)⟩else none
     |none=>none
      else none
    |_=>none
  |_=>none
 |some (.wri κ R ps qs out outs news)=>match o.op with
  | .call _=>match P9 P F (Zd T) o H n with
    |some ⟨.enter g args,H1,n1,R0,W1⟩=>bif NH n1 n && W1.isEmpty then
     match G0 H1 n κ R ps qs args out outs news with
     |some (as,bs,o1,Ut,L)=>some ⟨⟨o1,Ut++H1,n+1+news.length,R0++(κ++R),κ⟩,some (Q7 L/\WriC P J g as.toArray bs out outs news)⟩
     |none=>none
      else none
    |_=>none
  |_=>none
 |some .tnil=>match o.op with
  | .binOp op t x y _=>match Zd T x,Zd T y with
    |some v,some (.slice none 0 0)=>match fI v,Jl P t with
     |some (r,m,_),some (.slice _)=>bif NO r n && Xx (Qu H r)then match op with
      | .eql=>some ⟨⟨.ret (.bool false),H,n,[r],[]⟩,some (0<m)⟩
      | .neq=>some ⟨⟨.ret (.bool true),H,n,[r],[]⟩,some (0<m)⟩
      |_=>none
       else none
     |_,_=>none
    |_,_=>none
  |_=>none
 |some (.wriC κ R ps qs out outs news o2)=>match o.op with
  | .call _=>match P9 P F (Zd T) o H n with
    |some ⟨.enter g args,H1,n1,R0,W1⟩=>bif NH n1 n && W1.isEmpty then
     match G0 H1 n κ R ps qs args out outs news with
     |some (as,bs,o1,Ut,L)=>some ⟨⟨o2,Ut++H1,n+1+news.length,R0++(κ++R),κ⟩,some ((Q7 L/\WriC P J g as.toArray bs out outs news)/\o1=o2)⟩
     |none=>none
      else none
    |_=>none
  |_=>none
section
variable {P:Program} {F:FuncId->Bool} {J:World->Prop} {B:Lo} {T:Tm} {o:Oper} {H:Qp} {n:Nat}
theorem KR(hF:∀g,F g=true->QA P g=true){c:Call}(Zi:o.op=.call c)(hu:Under H n){g:FuncId}{args:Array Value}{H1 H2:Qp}{R keys W:List Nat}{n':Nat}{out:OO}(hcr:P9 P F (Zd T) o H n=some ⟨.enter g args,H1,n,R,[]⟩)(hcj:nv P B g args H1 n out H2 n' keys W):
 RB P B o (Zd T) H n out H2 n' (R++keys) W/\Shape H n H2 n' (R++keys) W:=by
 have Wl:WB P B (fun g' a' H' m'=>open Classical in if g'=g/\a'=args/\H'=H1/\m'=n then some ⟨out,H2,n',keys,W⟩else none):=by
  intro g' a' H' m' s _ h;simp only at h;split at h
  ·rename_i q;obtain⟨rfl,rfl,rfl,rfl⟩:=q;simp only[YO]at h;subst h;exact hcj
  ·cases h
 have:=KK hF YW Wl hu (T:=T) (o:=o) (s:=⟨out,H2,n',R++keys,W⟩) (by simp[b6,Zi,hcr]);exact this
theorem FJ.callJ{g:FuncId}{args:Array Value}{c0:CF}{H':Qp}{n':Nat}{R W:List Nat}{out:OO}(hc:Wo P g args=some c0)(h:FJ P B c0 H n out H' n' R W):nv P B g args H n out H' n' R W:=
 ⟨h.shape,fun S μ w args' cs QD hB hS hf ha hR=>h.sem S μ w (Frame.enter P g args' .normal) cs QD hB hS hf (Ui hc ha) hR⟩
theorem FJ.recS{c:CF}{H1:Qp}{n n':Nat}{out:OO}{Ut:Qp}{W keys:List Nat}(h:FJ P B c H1 n out (Ut++H1) n' keys W):fw P B (RM c H1 n ⟨out,Ut++H1,n',keys,W⟩):=by
 intro c' H' m' s _ hs;unfold RM at hs;split at hs
 ·rename_i q;obtain⟨rfl,rfl,rfl⟩:=q;simp only[YO]at hs;subst hs;exact h
 ·cases hs
theorem bm(hJ:∀w,B.has w->J w){g:FuncId}{args:Array Value}{fz:List Fz}{H1:Qp}{ts:List Value}{R2:List Nat}{L:List Prop}{out:Value}(XZ:UH (VK H1 fz 3) args.toList=some (ts,R2,L))(hL:Q7 L)(hp:Q4 P J g ts.toArray out)
 {S:Nat->Prop} {μ:Mu} {w:World} {args':Array Value} (QD:Ok B.B S μ (Qu H1) w) (hB:B.has w) (hv:VRs μ args args') (hS:∀r∈R2,S r):Calls P g args' w fun e w'=> ∃v',e=.returned v'/\Below w.heap.size w w'/\TRv (P8 (K8 μ H1 w R2) w w') out v':=by
 obtain⟨a,b⟩:=RI (fun v v' t R L h1 h2 h3 h4=>Kp QD 3 v v' t R L h1 h2 h3 h4) args.toList ts R2 L args'.toList XZ hL hS (by simpa using hv.1) fun i v v' x y=>hv.2 i v v' (by simpa using x) (by simpa using y)
 exact hp (K8 μ H1 w R2) w args' (hJ w hB) (fun b x h=>WR h) ⟨by simpa using a,fun i v v' x y=>b i v v' (by simpa using x) (by simpa using y)⟩
theorem xq(hJ:∀w,B.has w->J w){g:FuncId}{args:Array Value}{fz:List Fz}{H1:Qp}{ts:List Value}{R2:List Nat}{L:List Prop}{out:Value}(XZ:UH (VK H1 fz 3) args.toList=some (ts,R2,L))(hL:Q7 L)(hp:Q4 P J g ts.toArray out)(V7:Td 2 out=true)(Xm:(R2.all fun i=>NO i n)=true):
 nv P B g args H1 n (.ret out) H1 n R2 []:=by
 refine⟨Shape.same _ _ _,fun S μ w args' cs QD hB hS _ ha hR=> ?_⟩;obtain⟨e,w1,fr,⟨v',rfl,hb,ht⟩,hc,hf,hl⟩:=bm hJ XZ hL hp QD hB ha (fun r hr=>hR r hr (YL (List.all_eq_true.1 Xm r hr))) cs;refine⟨.ret v',w1,μ,Post.ofBelow QD hb,.ret (eL 2 out v' V7 ht),fun _=>⟨fr,hc,by rw[hf];rfl,hl⟩,fun c cs' e=> ?_⟩;subst e;exact Steps.trans hc (.one (step_leave_returned hl))
theorem tJ(hJ:∀w,B.has w->J w){g:FuncId}{args:Array Value}{fz:List Fz}{H1:Qp}{ts:List Value}{R2:List Nat}{L:List Prop}{out:Value}(XZ:UH (VK H1 fz 3) args.toList=some (ts,R2,L))(hL:Q7 L)(hp:Q4 P J g ts.toArray out)(Xm:(R2.all fun i=>NO i n)=true)
 (WK:(R2.all fun i=>Xx (Qu H1 i))=true) (ho:qk 4 out=true):nv P B g args H1 n (.ret (Q8 n 4 out)) ((n,Xp)::H1) (n+1) R2 []:=by
 refine⟨Shape.new _ _ _ _,fun S μ w args' cs QD hB hS hf ha hR=> ?_⟩;have hSR:∀r∈R2,S r:=fun r hr=>hR r hr (YL (List.all_eq_true.1 Xm r hr))
 obtain⟨e,w1,fr,⟨v',rfl,hb,ht⟩,hc,hfn,hl⟩:=bm hJ XZ hL hp QD hB ha hSR cs;have hfm:∀b x,P8 (K8 μ H1 w R2) w w1 b=some x->w1.heap[b]? =some x:=by
  intro b x h;unfold P8 at h;split at h
  ·rename_i Xm;rw[hb.block b Xm];exact WR h
  ·exact h
 have XF:=Post.region (n:=n) QD hS (hf n (NZ _) (by omega)) hb (P8 (K8 μ H1 w R2) w w1) hfm fun b x h=>by
  unfold P8 at h;split at h
  ·refine .inr ?_;have hw:=WR h;unfold K8 at h;split at h
   ·rename_i hc;obtain⟨i,hi,o,im,ho,QI,Uv⟩:=hc;obtain⟨o',UD,hr'⟩:=ZL (List.all_eq_true.1 WK i hi);rw[ho]at UD;cases UD;rcases Uv with ⟨_,K1⟩|⟨hl,_⟩
    ·cases hx:im.fm b with
     |none=>exact absurd hx K1
     |some y=>
      obtain⟨Z8,QR,hf'⟩:=QD.Y0 i o (hSR i hi) ho hr';rw[QI]at QR;cases QR;have:=hf' b y hx;rw[hw]at this;cases this;exact⟨i,im,o,hSR i hi,ho,hr',QI,hx⟩
    ·exact absurd hl (by cases o <;> first|exact id|exact hr'.elim)
   ·cases h
  ·rename_i hge;exact .inl (Nat.le_of_not_lt hge)
 refine⟨.ret v',w1,_,XF,.ret (PV X0 4 out v' ho ht),fun _=>⟨fr,hc,by rw[hfn];rfl,hl⟩,fun c cs' e=> ?_⟩;subst e;exact Steps.trans hc (.one (step_leave_returned hl))
theorem KN(H:Qp)(K:List Nat)(i:Nat):Qu (killL H K) i=if i∈K/\(Qu H i).isSome then some (.pending #[] 0)else Qu H i:=by
 induction K with
 |nil=>simp[killL]
 |cons k K ih=>
  simp only[killL];rw[Uh,ih];by_cases e:i=k
  ·subst e;cases hs:Qu H i with
   |none=>simp
   |some o=>by_cases hm:i∈K <;> simp[hm]
  ·simp[e]
theorem Post.regionK{B n:Nat}{S:Nat->Prop}{μ:Mu}{H:Qp}{w w':World}(K:List Nat)(QD:Ok B S μ (Qu H) w)(hS:∀i,S i->i<n)(hf:μ n=none)(Sx:Below w.heap.size w w')(hK:∀k∈K,S k/\(∃o,Qu H k=some o/\live o)/\∃im,μ k=some im/\im.rw=true)
 (fm:Nat->Option Obj) (hfm:∀b x,fm b=some x->w'.heap[b]? =some x)
 (XC:∀b x,fm b=some x->w.heap.size<=b\/(∃k VV ko,S k/\Qu H k=some ko/\Ws ko/\μ k=some VV/\VV.fm b=some x)\/∃k∈K,∃im,μ k=some im/\im.Zv=b):Post B S n (n+1) K μ (upd μ n ⟨0,0,0,false,fm⟩) H ((n,Xp)::killL H K) w w':=by
 have hp:=Post.ofBelow (n:=n) QD Sx;have K1:∀i,S i->i≠n:=fun i hi=>by have:=hS i hi;omega
 have JV:∀i,S i->upd μ n ⟨0,0,0,false,fm⟩ i=μ i:=fun i hi=>by simp[upd,K1 i hi]
 have XL:∀i,S i->Qu ((n,Xp)::killL H K) i=Qu (killL H K) i:=fun i hi=>by rw[QZ,if_neg (K1 i hi)]
 have hgl:∀i o,S i->Qu ((n,Xp)::killL H K) i=some o->live o\/Ws o->Qu H i=some o/\(live o->i ∉ K):=fun i o hi ho hl=>by
  rw[XL i hi,KN]at ho;split at ho
  ·cases ho;exact(hl.elim id id).elim
  ·rename_i hn;exact⟨ho,fun _ hm=>hn ⟨hm,by rw[ho];rfl⟩⟩
 have Ug:Qu ((n,Xp)::killL H K) n=some Xp:=by rw[QZ,if_pos rfl]
 have isn:∀i,(n<=i/\i<n+1)->i=n:=fun i hi=>by omega
 refine⟨⟨fun i o hi ho hl=> ?_,fun i o im hi ho hl QI=> ?_,fun i j oi oj a b hi hj Pr Wc Wb hli VW ha hb hra Km=> ?_,fun i o hi ho hr=> ?_,fun i j oi oj a b x hi hj Wc Wb Y8 VW ha hb Km hx=> ?_⟩,by omega,fun i hi=> ?_,fun i hi hw=> ?_,Sx.size,fun b hb _=>Sx.block b hb,fun i hi _=>hK i hi,
  fun i im o h1 h2 ho hl QI=> ?_,fun i im o hi ho hr QI b x hx=> ?_,Sx.os,Sx.tape,Sx.output⟩
 ·rcases hi with hi|hi
  ·have ho:=(hgl i o hi ho (.inl hl)).1;obtain⟨im,QI,hr⟩:=hp.ok.rel i o (.inl hi) ho hl;exact⟨im,by rw[JV i hi];exact QI,hr.keep (Kn hf) rfl⟩
  ·rw[isn i hi,Ug]at ho;cases ho;exact hl.elim
 ·rcases hi with hi|hi
  ·have ho:=(hgl i o hi ho (.inl hl)).1;rw[JV i hi]at QI;exact hp.ok.low i o im (.inl hi) ho hl QI
  ·rw[isn i hi,Ug]at ho;cases ho;exact hl.elim
 ·rcases hi with hi|hi
  ·rcases hj with hj|hj
   ·have Wc:=(hgl i oi hi Wc (.inl hli)).1;have Wb:=(hgl j oj hj Wb (.inl VW)).1;rw[JV i hi]at ha;rw[JV j hj]at hb;exact QD.inj i j oi oj a b hi hj Pr Wc Wb hli VW ha hb hra Km
   ·rw[isn j hj,Ug]at Wb;cases Wb;exact VW.elim
  ·rw[isn i hi,Ug]at Wc;cases Wc;exact hli.elim
 ·rcases hi with hi|hi
  ·have ho:=(hgl i o hi ho (.inr hr)).1;obtain⟨im,QI,h⟩:=hp.ok.Y0 i o (.inl hi) ho hr;exact⟨im,by rw[JV i hi];exact QI,h⟩
  ·rw[isn i hi];exact⟨_,X0,hfm⟩
 ·have hjS:S j:=hj.elim id fun h=>by rw[isn j h,Ug]at Wb;cases Wb;exact VW.elim
  obtain⟨Wb,hjK⟩:=hgl j oj hjS Wb (.inl VW);rw[JV j hjS]at hb;rcases hi with hi|hi
  ·have Wc:=(hgl i oi hi Wc (.inr Y8)).1;rw[JV i hi]at ha;exact QD.sep i j oi oj a b x hi hjS Wc Wb Y8 VW ha hb Km hx
  ·rw[isn i hi,X0]at ha;cases ha;rcases XC _ _ hx with h|⟨k,VV,ko,h1,h2,h3,h4,h5⟩|⟨k,hk,VV,h1,h2⟩
   ·have:=(QD.low j oj b hjS Wb VW hb).1;omega
   ·exact QD.sep k j ko oj VV b x h1 hjS h2 Wb h3 VW h4 hb Km h5
   ·obtain⟨k1,⟨ko,k2,k3⟩,kim',k4,k5⟩:=hK k hk;rw[h1]at k4;cases k4;have hkj:k≠j:=fun e=>hjK VW (e ▸ hk)
    exact QD.inj k j ko oj VV b k1 hjS hkj k2 Wb k3 VW h1 hb k5 Km h2
 ·simp only[upd];rw[if_neg (by omega)]
 ·rw[QZ,if_neg (by omega),KN,if_neg (fun h=>hw h.1)]
 ·rw[isn i ⟨h1,h2⟩,Ug]at ho;cases ho;exact hl.elim
 ·rcases hi with hi|hi
  ·have Y1:=isn i hi;subst Y1;rw[X0]at QI;cases QI;rcases XC b x hx with h|⟨k,VV,ko,h1,h2⟩|⟨k,hk,VV,h1,h2⟩
   ·exact .inl h
   ·exact .inr (.inl ⟨k,VV,ko,h1,hS k h1,h2⟩)
   ·refine .inr (.inr ⟨k,hk,hS k (hK k hk).1,⟨VV,h1,h2⟩,fun o' UD=> ?_⟩);have hks:=(hK k hk).1;obtain⟨ko,k2,_⟩:=(hK k hk).2.1;rw[XL k hks,KN,if_pos ⟨hk,by rw[k2];rfl⟩]at UD;cases UD;exact id
  ·obtain⟨hiK,Y1⟩:=hi;have hks:=(hK i hiK).1;obtain⟨ko,k2,_⟩:=(hK i hiK).2.1;rw[XL i hks,KN,if_pos ⟨hiK,by rw[k2];rfl⟩]at ho;cases ho;exact hr.elim
theorem Shape.killL{H:Qp}{n:Nat}{K R:List Nat}(o:Obj)(hK:∀k∈K,k<n)(hs:∀k∈K,k∈R):Shape H n ((n,o)::killL H K) (n+1) R K:=by
 refine⟨by omega,fun i hi hw=> ?_,fun i hi=> ?_,hs,fun i hi=>by have:=hK i hi;omega⟩
 ·rw[QZ,if_neg (by omega),KN,if_neg (fun h=>hw h.1)]
 ·rw[QZ,if_neg (by omega),KN,if_neg (fun h=>by have:=hK i h.1;omega)]
theorem yc{o:Option Obj}(h:Ts o=true):∃cs t,o=some (.cells cs t (0,0)):=by
 unfold Ts at h;split at h
 ·exact⟨_,_,rfl⟩
 ·cases h
theorem pK(hJ:∀w,B.has w->J w){g:FuncId}{args:Array Value}{fz:List Fz}{H1:Qp}{ts:List Value}{R2:List Nat}{L:List Prop}{out:Value}(XZ:UH (VK H1 fz 3) args.toList=some (ts,R2,L))(hL:Q7 L)(hp:Q4 P J g ts.toArray out)(Xm:(R2.all fun i=>NO i n)=true)
 (WK:(R2.all fun i=>Xx (Qu H1 i) || Ts (Qu H1 i))=true) (ho:qk 4 out=true):nv P B g args H1 n (.ret (Q8 n 4 out)) ((n,Xp)::killL H1 (R2.filter fun i=>Ts (Qu H1 i))) (n+1) R2 (R2.filter fun i=>Ts (Qu H1 i)):=by
 have hltn:∀r∈R2,r<n:=fun r hr=>YL (List.all_eq_true.1 Xm r hr)
 refine⟨Shape.killL _ (fun k hk=>hltn k ((List.mem_filter.1 hk).1)) (fun k hk=>(List.mem_filter.1 hk).1),fun S μ w args' cs QD hB hS hf ha hR=> ?_⟩;have hSR:∀r∈R2,S r:=fun r hr=>hR r hr (hltn r hr)
 obtain⟨e,w1,fr,⟨v',rfl,hb,ht⟩,hc,hfn,hl⟩:=bm hJ XZ hL hp QD hB ha hSR cs;have hfm:∀b x,P8 (K8 μ H1 w R2) w w1 b=some x->w1.heap[b]? =some x:=by
  intro b x h;unfold P8 at h;split at h
  ·rename_i Xm;rw[hb.block b Xm];exact WR h
  ·exact h
 have hK:∀k∈R2.filter fun i=>Ts (Qu H1 i),S k/\(∃o,Qu H1 k=some o/\live o)/\∃im,μ k=some im/\im.rw=true:=fun k hk=>by
  obtain⟨h1,h2⟩:=List.mem_filter.1 hk;obtain⟨cs0,t0,h3⟩:=yc h2;obtain⟨im,QI,ZU⟩:=QD.rel k _ (hSR k h1) h3 trivial;refine⟨hSR k h1,⟨_,h3,trivial⟩,im,QI, ?_⟩;rcases ZU with ⟨_,h,_⟩|⟨h,_⟩
  ·exact h
  ·exact absurd rfl h
 have XF:=Post.regionK (n:=n) (R2.filter fun i=>Ts (Qu H1 i)) QD hS (hf n (NZ _) (by omega)) hb hK (P8 (K8 μ H1 w R2) w w1) hfm fun b x h=>by
  unfold P8 at h;split at h
  ·refine .inr ?_;have hw:=WR h;unfold K8 at h;split at h
   ·rename_i hc;obtain⟨i,hi,o,im,ho,QI,Uv⟩:=hc;have ZU:=List.all_eq_true.1 WK i hi;rw[Bool.or_eq_true]at ZU;rcases Uv with ⟨hr',K1⟩|⟨hl,hblk⟩
    ·left;cases hx:im.fm b with
     |none=>exact absurd hx K1
     |some y=>
      obtain⟨Z8,QR,hf'⟩:=QD.Y0 i o (hSR i hi) ho hr';rw[QI]at QR;cases QR;have:=hf' b y hx;rw[hw]at this;cases this;exact⟨i,im,o,hSR i hi,ho,hr',QI,hx⟩
    ·right;rcases ZU with ZU|ZU
     ·obtain⟨o',UD,hr'⟩:=ZL ZU;rw[ho]at UD;cases UD;exact absurd hl (by cases o <;> first|exact id|exact hr'.elim)
     ·exact⟨i,List.mem_filter.2 ⟨hi,ZU⟩,im,QI,hblk⟩
   ·cases h
  ·rename_i hge;exact .inl (Nat.le_of_not_lt hge)
 refine⟨.ret v',w1,_,XF,.ret (PV X0 4 out v' ho ht),fun _=>⟨fr,hc,by rw[hfn];rfl,hl⟩,fun c cs' e=> ?_⟩;subst e;exact Steps.trans hc (.one (step_leave_returned hl))
theorem Ur{r:Nat}{v:Value}(Xm:r<n)(WK:Xx (Qu H r)=true)(hd:∀c,o.op≠.defer c)
 (h:∀(μ:Mu) (w:World) (ρ:Operand->Value) (im:aQ),μ r=some im->(∀b x,im.fm b=some x->w.heap[b]? =some x)->(∀x∈o.op.operands,∀v,Zd T x=some v->VR μ v (ρ x))->∃v',(execOp ρ o).run P w=.ok (.value v') w/\VR μ v v'):
 RB P B o (Zd T) H n (.ret v) H n [r] []:=fun S μ w fr _ _ _ _ _ QD hB _ _ XN hR hm ht ho hw=>by
 obtain⟨x,hx,hr⟩:=ZL WK;obtain⟨im,QI,hf⟩:=QD.Y0 r x (hR r (by simp) Xm) hx hr;obtain⟨v',h1,h2⟩:=h μ w fr.eval im QI hf XN;exact⟨.ret v',w,μ,Post.refl QD,.ret h2,JC hm ht ho hw hd h1⟩
theorem yP{fm:Nat->Option Obj}{w:World}(hw:∀b x,fm b=some x->w.heap[b]? =some x){off:Nat}{cs:Array Value}{u v:Value}{t:TypeId}(hu:TRv fm (Ra off cs) u)(h:K5 P t cs off=some v):∃v',(Instr.loadAt t u).run P w=.ok v' w/\TRv fm v v':=by
 obtain⟨b,o,arr,ty,fl,rfl,h1,h2,h3⟩:=hu.ptr_inv;have hb:=hw _ _ h1;have hcell:∀i,i<cs.size->∃v',w.cell? ⟨b,o+i,none⟩=some v'/\∀v,cs[i]? =some v->TRv fm v v':=by
  intro i hi;have Xm:=h2 i hi;exact⟨arr[o+i],by simp[World.cell?,hb,Xm],fun v hv=>h3 i v _ hv (by simp[Xm])⟩
 unfold K5 at h;cases hag:nq P t with
 |none=>rw[hag]at h;cases h
 |some g=>
  rw[hag]at h;cases g with
  |true=>
   cases hz:WN P t with
   |none=>rw[hz]at h;cases h
   |some z=>
    rw[hz]at h;dsimp only at h;cases hb2:Oo (off+z) cs.size with
    |false=>rw[hb2]at h;cases h
    |true=>
     rw[hb2]at h;simp only[cond_true,YO]at h;subst h;have hle:=YL hb2;have hr:=run_loadCells (P:=P) w ⟨b,o+off,none⟩ z (fun j=>(w.cell? ⟨b,o+(off+j),none⟩).getD undef) (fun j hj=>by
      obtain⟨v',ZY,_⟩:=hcell (off+j) (by omega);rw[WL,show o+off+j=o+(off+j)by omega,ZY];rfl)
     refine⟨.agg _,by simp[Instr.loadAt,Instr.sureAddr,loadVar,U7 hag,Zm hz,hr];rfl,.agg (by simp;omega) fun i v v' hv ZY=> ?_⟩;have hi:i<z:=by
      have:=(Array.getElem?_eq_some_iff.1 hv).1;simp at this;omega
     obtain⟨u,h4,h5⟩:=hcell (off+i) (by omega);simp[hi,h4]at ZY;subst ZY;refine h5 v ?_;rw[Oz]at hv;split at hv
     ·exact hv
     ·cases hv
  |false=>
   simp only at h;have hi:=(Array.getElem?_eq_some_iff.1 h).1;obtain⟨v',ZY,ht⟩:=hcell off hi;exact⟨v',by simp[Instr.loadAt,Instr.sureAddr,loadVar,U7 hag,run_load,ZY],ht v h⟩
theorem pr{v:Value}{r:Nat}(e:wS P T o=some (v,r))(Xm:r<n)(WK:Xx (Qu H r)=true):RB P B o (Zd T) H n (.ret v) H n [r] []:=by
 unfold wS at e;split at e
 ·rename_i c Zi;split at e
  ·rename_i hc;split at e
   ·rename_i x t ha ht;split at e
    ·rename_i u hx;split at e
     ·rename_i r0 k cs el htop hue;rw[Z1]at hue;simp only[YO,YR]at e;obtain⟨rfl,rfl⟩:=e;refine Ur Xm WK (fun c h=>by rw[Zi]at h;cases h) fun μ w ρ im QI hf XN=> ?_
      have ea:c.args=#[x]:=by rw[<-ha]
      have et:c.argTypes=#[t]:=by rw[<-ht]
      have hv:=XN x (by simp[Zi,Op.operands,Call.operands,hc,ea]) _ hx;rw[PD htop]at hv;obtain⟨Z8,_,htr⟩:=hv.top_inv;have hlen:∃a c,ρ x=.slice a k c:=by
       rcases htr.slice_inv with ⟨b,o',c',arr,t',fl,h1,_⟩|⟨rfl,_,a',c',h1,_⟩
       ·exact⟨_,_,h1⟩
       ·exact⟨_,_,h1⟩
      obtain⟨a,cp,hv⟩:=hlen;refine⟨.int .i64 k, ?_,.int _ _⟩;simp[execOp,Zi,resolve,hc,invoke,builtin,ea,et,hv,Builtin.len_,run_underlying hue,goInt]
     ·cases e
    ·cases e
   ·cases e
  ·cases e
 ·rename_i s x f Zi;split at e
  ·rename_i u hx;split at e
   ·rename_i r0 off cs htop;split at e
    ·rename_i off' hc;simp only[YO,YR]at e;obtain⟨rfl,rfl⟩:=e;refine Ur Xm WK (fun c h=>by rw[Zi]at h;cases h) fun μ w ρ im QI hf XN=> ?_
     have hv:=XN x (by simp[Zi,Op.operands]) _ hx;rw[jj htop]at hv;obtain⟨Z8,QR,htr⟩:=hv.top_inv;rw[QI]at QR;cases QR;obtain⟨b,o',arr,ty,fl,h1,h2,h3,h4⟩:=htr.ptr_inv;have hc2:∃d,off'=off+d/\Wx P s f (.pointer (some ⟨b,o'+off,none⟩))=some (.pointer (some ⟨b,o'+off+d,none⟩)):=by
      unfold Wx at hc ⊢;simp only at hc ⊢;split at hc
      ·split at hc
       ·split at hc
        ·simp only[YO,Value.pointer.injEq,Addr.mk.injEq,true_and,and_true]at hc;rename_i fd hfd _ _ hz;refine⟨fd.offset,hc.symm, ?_⟩;simp_all
        ·cases hc
       ·cases hc
      ·cases hc
     obtain⟨d,rfl,hc2⟩:=hc2;obtain⟨_,hr⟩:=TB (P:=P) hc2 w;refine⟨.pointer (some ⟨b,o'+off+d,none⟩),by simp[execOp,Zi,h1,hr],.top rfl QI ?_⟩;rw[Nat.add_assoc];exact .ptr h2 h3 h4
    ·cases e
   ·cases e
  ·cases e
 ·rename_i t x Zi;split at e
  ·rename_i u hx;split at e
   ·rename_i r0 off cs htop;split at e
    ·rename_i v0 hc;cases QD:qk 4 v0 with
     |false=>rw[QD]at e;cases e
     |true=>
      rw[QD]at e;simp only[cond_true,YO,YR]at e;obtain⟨rfl,rfl⟩:=e;refine Ur Xm WK (fun c h=>by rw[Zi]at h;cases h) fun μ w ρ im QI hf XN=> ?_
      have hv:=XN x (by simp[Zi,Op.operands]) _ hx;rw[jj htop]at hv;obtain⟨Z8,QR,htr⟩:=hv.top_inv;rw[QI]at QR;cases QR;obtain⟨v',h1,h2⟩:=yP hf htr hc;exact⟨v',by simp[execOp,Zi,h1],PV QI 4 v0 v' QD h2⟩
    ·cases e
   ·cases e
  ·cases e
 ·cases e
theorem sq{P:Program}{t e:TypeId}{b off m c z k:Nat}{q:Int}{kk:IntKind}(hu:Jl P t=some (.slice e))(hz:WN P e=some z)(hq:q=(k:Int))(hk:k<m)(hc:m<=c)(w:World):
 (Instr.sliceAt t (.slice (some ⟨b,off,none⟩) m c) (some (.int kk q)) none none).run P w=.ok (.slice (some ⟨b,off+k*z,none⟩) (m-k) (c-k)) w:=by
 rw[Z1]at hu;subst hq;have hb:Cp m (some (.int kk (k:Int))) none=some (k,m):=by
  simp only[Cp,Cs,decide_eq_true (show(0:Int)<=(k:Int)by omega),decide_eq_true (show(k:Int)<=(m:Int)by omega),Bool.and_self,cond_true,Int.toNat_natCast]
 obtain⟨hr,_,_⟩:=nm (P:=P) (μ:=fun _=>none) (sl:=true) (lo':=some (.int kk (k:Int))) (hi':=none) hb (show VR _ _ _ from .int _ _) trivial hc w;simp only[Instr.sliceAt,Instr.slice,Sem.run_bind,run_underlying hu,Result.andThen_ok,hr,Zm hz,Sem.run_pure,Oh,WL];rw[if_neg (by omega)]
theorem fH{sv:Value}{r k z by':Nat}{cs:Array Value}{e:TypeId}{zv:Value}(h:TF P T o=some (sv,r,k,cs,e,z,by',zv)):
 ∃c s x t i,o.op=.call c/\c.callee=.builtin .append/\c.args=#[s,x]/\c.argTypes=#[t,t]/\Zd T s=some sv/\Zd T x=some (Q6 r (QO k cs))/\KL sv=true/\P.underlying t=some (.slice e)/\P.info? e=some i/\i.zero=some zv/\i.size=z/\i.bytes=by'/\zv.cells.size=z/\0<z:=by
 unfold TF at h;split at h
 ·rename_i c Zi;split at h
  ·rename_i hc;split at h
   ·rename_i s x t t' ha ht;split at h
    ·rename_i sv' xv hs hx;split at h
     ·rename_i r' k' cs' e' htop hu;split at h
      ·rename_i i hi;split at h
       ·rename_i zv' z' hz Z0;cases hq:(NH t t' && KL sv' && NH zv'.cells.size (z'+1))with
        |false=>rw[hq]at h;cases h
        |true=>
         rw[hq]at h;simp only[cond_true,YO,YR]at h;obtain⟨rfl,rfl,rfl,rfl,rfl,rfl,rfl,rfl⟩:=h;simp only[YB]at hq;obtain⟨⟨q1,q2⟩,q3⟩:=hq;obtain rfl:=YE q1;rw[Z1]at hu;rw[Y6]at hi;exact⟨c,s,x,t,i,Zi,hc,by rw[<-ha],by rw[<-ht],hs,by rw[hx,PD htop],q2,hu,hi,hz,Z0,rfl,YE q3,by omega⟩
       ·cases h
      ·cases h
     ·cases h
    ·cases h
   ·cases h
  ·cases h
 ·cases h
theorem gK{μ:Mu}{s s':Value}(h:KL s=true)(hs:VR μ s s'):∃a,s'=.slice a 0 0:=by
 unfold KL at h;split at h
 ·cases hs;exact⟨_,rfl⟩
 ·cases hs;exact⟨_,rfl⟩
 ·cases h
theorem pw{sv:Value}{r k z by':Nat}{cs cs':Array Value}{e:TypeId}{zv:Value}(h:TF P T o=some (sv,r,k,cs,e,z,by',zv))(Xm:r<n)(WK:Xx (Qu H r)=true)
 (hp:0<k/\k<=maxLen/\k*by'<=140737488355328/\cs.size=k*z/\cs.map (ZX r)=cs'/\(cs.all fun v=>simple v || WO v)=true/\ones cs'=true):
 RB P B o (Zd T) H n (.ret (.slice (some ⟨n,0,none⟩) k z)) ((n,.cells cs' e (0,0))::H) (n+1) [r] []:=by
 intro S μ w fr _ _ _ _ _ QD hB hS hf XN hR hm ht ho hw;obtain⟨c,s,x,t,i,Zi,hc,ea,et,hs,hx,hbn,hu,hi,hz,Z0,hby,hzs,hzp⟩:=fH h;obtain⟨p1,p2,p3,p4,p5,p6,p7⟩:=hp;obtain⟨xr,hxr,hr⟩:=ZL WK;obtain⟨im,QI,hfm⟩:=QD.Y0 r xr (hR r (by simp) Xm) hxr hr;have hvs:=XN s (by simp[Zi,Op.operands,Call.operands,hc,ea]) _ hs;have hvx:=XN x (by simp[Zi,Op.operands,Call.operands,hc,ea]) _ hx;obtain⟨a,hsa⟩:=gK hbn hvs;obtain⟨Z8,QR,htr⟩:=hvx.top_inv;rw[QI]at QR;cases QR;rcases htr.slice_inv with ⟨b,o',c',arr,ty,fl,h1,h2,h3,h4,h5,h6⟩|⟨h0,_⟩
 ·have hb:=hfm _ _ h4;obtain⟨news,hnews⟩:∃news,news=(arr.toList.drop o').take (k*z):=⟨_,rfl⟩
  have hnl:news.length=k*z:=by
   rw[hnews,List.length_take,List.length_drop,Array.length_toList];have:∀j,j<k*z->o'+j<arr.size:=fun j hj=>h5 j (by omega)
   have:=this (k*z-1) (by have:=Nat.mul_pos p1 hzp;omega);have:=Nat.mul_pos p1 hzp;omega
  have Qu:∀(j:Nat) u,news[j]? =some u->arr[o'+j]? =some u:=by
   intro j u hj;rw[hnews,List.getElem?_take]at hj;split at hj
   ·rw[List.getElem?_drop]at hj;simpa using hj
   ·cases hj
  have hcell:∀(j:Nat) u,news[j]? =some u->w.cell? ((⟨b,o',none⟩:Addr).add j)=some u:=by
   intro j u hj;rw[WL];have:=Qu j u hj;simp[World.cell?,hb];exact this
  have hV:VRs μ cs' news.toArray:=by
   refine⟨by rw[<-p5];simp[hnl,p4],fun j v v' hv ZY=> ?_⟩;rw[<-p5,Array.getElem?_map]at hv;cases hy:cs[j]? with
   |none=>rw[hy]at hv;cases hv
   |some y=>
    rw[hy]at hv;simp only[Oh,YO]at hv;subst hv;exact SZ QI (Array.all_eq_true'.1 p6 y (Om hy)) (h6 j y v' hy (Qu j v' (by simpa using ZY)))
  have VN:∃C,k<=C/\C<=maxLen/\(Builtin.append_ #[t,t] o.type #[fr.eval s,fr.eval x]).run P w=.ok (.slice (some ⟨w.heap.size,0,none⟩) k C) (w.drew.alloc (.cells (news.toArray++Builtin.zeroCells zv.cells (C-k)) e)):=by
   have hk63:(k:Int)<=9223372036854775807:=by simp only[maxLen]at p2;omega
   have hr0:=run_append_nil (P:=P) w t o.type e i zv hu hi hz ⟨b,o',none⟩ k c' news (by rw[hnl,Z0]) hcell p1 hk63 (by rw[hby];omega);refine⟨grownCap w k 0 e,grownCap_ge w k 0 e,grownCap_le_maxLen w k 0 e p2, ?_⟩;rw[hsa,h1];cases a with
   |none=>exact hr0
   |some a=>rw[gL hu hi hz w a ⟨b,o',none⟩ k c' news (by rw[hnl,Z0]) hcell p1 p2 (by rw[hby];exact p3)];exact hr0
  obtain⟨C,hC1,hC2,VN⟩:=VN;have hfn:=hf n (NZ _) (by omega);have harr:(news.toArray++Builtin.zeroCells zv.cells (C-k)).size=C*z:=by
   rw[Array.size_append,size_zeroCells,hzs,List.size_toArray,hnl,<-Nat.add_mul];congr 1;omega
  refine⟨.ret (.slice (some ⟨w.heap.size,0,none⟩) k C),_,_,eK QD hS hfn none (fun _ h=>by cases h) w.heap.size (news.toArray++Builtin.zeroCells zv.cells (C-k)).size _ hB.le (by simp) (.inl (NZ _)) (by simp) (fun b hb _=>Below.heap_alloc w.drew _ b hb) (.ofCells (heap_alloc_new w.drew _) ?_ rfl fun j v hv=> ?_) ⟨rfl,rfl,rfl⟩,.ret ?_,JC hm ht ho hw (fun c h=>by rw[Zi]at h;cases h) (w':=w.drew.alloc _) ?_⟩
  ·rw[Array.size_append];have:=hV.1;simp only[List.size_toArray]at this ⊢;omega
  ·obtain⟨u,e1,e2⟩:=hV.get hv;have hj:j<news.toArray.size:=(Array.getElem?_eq_some_iff.1 e1).1;exact⟨u,by rw[Array.getElem?_append_left hj];exact e1,e2.mono (Kn hfn)⟩
  ·refine .slice ⟨_,X0,rfl,rfl⟩ hC1 hC2 (fun _ im QI _ _=> ?_);rw[X0]at QI;cases QI;exact harr.symm
  ·simp[execOp,Zi,resolve,hc,invoke,builtin,ea,et,VN]
 ·omega
theorem n5{sv:Value}{r k z by':Nat}{cs:Array Value}{e:TypeId}{zv:Value}(h:TF P T o=some (sv,r,k,cs,e,z,by',zv))(Xm:r<n)(WK:Xx (Qu H r)=true)(hk:k=0):
 RB P B o (Zd T) H n (.ret sv) H n [r] []:=by
 obtain⟨c,s,x,t,i,Zi,hc,ea,et,hs,hx,hbn,hu,hi,hz,Z0,hby,hzs,hzp⟩:=fH h;refine Ur Xm WK (fun c h=>by rw[Zi]at h;cases h) fun μ w ρ im QI hf XN=> ?_
 have hvs:=XN s (by simp[Zi,Op.operands,Call.operands,hc,ea]) _ hs;have hvx:=XN x (by simp[Zi,Op.operands,Call.operands,hc,ea]) _ hx;obtain⟨a,hsa⟩:=gK hbn hvs;obtain⟨Z8,QR,htr⟩:=hvx.top_inv;rw[QI]at QR;cases QR;subst hk;have hxx:∃b d,ρ x=.slice b 0 d:=by
  rcases htr.slice_inv with ⟨b,o',c',arr,ty,fl,h1,_⟩|⟨_,_,a',c',h1,_⟩
  ·exact⟨_,_,h1⟩
  ·exact⟨_,_,h1⟩
 obtain⟨b,d,hxx⟩:=hxx;refine⟨.slice a 0 0, ?_,by rw[<-hsa];exact hvs⟩;have hszp:WN P e=some z:=by simp[WN,Y6,hi,Z0]
 have hr:=gM (ty:=o.type) hu hszp w a b 0 0 d (NZ _);simp[execOp,Zi,resolve,hc,invoke,builtin,ea,et,hsa,hxx,hr]
theorem rW{b off k r m z:Nat}{cs2:Array Value}(h:iv P T o=some (b,off,k,r,m,cs2,z)):
 ∃c s x t t2 e s1,o.op=.call c/\c.callee=.builtin .copy/\c.args=#[s,x]/\c.argTypes=#[t,t2]/\Zd T s=some (.slice (some ⟨b,off,none⟩) k s1)/\Zd T x=some (Q6 r (QO m cs2))/\P.underlying t=some (.slice e)/\WN P e=some z:=by
 unfold iv at h;split at h
 ·rename_i c Zi;split at h
  ·rename_i hc;split at h
   ·rename_i s x t t2 ha ht;split at h
    ·rename_i b' off' k' s1 xv hs hx;split at h
     ·rename_i r' m' cs' e' htop hu;split at h
      ·rename_i z' hz;simp only[YO,YR]at h;obtain⟨rfl,rfl,rfl,rfl,rfl,rfl,rfl⟩:=h;rw[Z1]at hu;exact⟨c,s,x,t,t2,e',s1,Zi,hc,by rw[<-ha],by rw[<-ht],hs,by rw[hx,PD htop],hu,hz⟩
      ·cases h
     ·cases h
    ·cases h
   ·cases h
  ·cases h
 ·cases h
theorem pt{b off k r m z:Nat}{cs cs2 cs':Array Value}{te:TypeId}(h:iv P T o=some (b,off,k,r,m,cs2,z))(hg:Qu H b=some (.cells cs te (0,0)))(Xm:r<n)(WK:Xx (Qu H r)=true)(hbn:b<n)
 (hp:0<m/\off+OA m k*z<=cs.size/\OA m k*z<=cs2.size/\(cs2.all fun v=>simple v || WO v)=true/\ones ((cs2.extract 0 (OA m k*z)).map (ZX r))=true/\splice cs off ((cs2.extract 0 (OA m k*z)).map (ZX r))=cs'):
 RB P B o (Zd T) H n (.ret (.int .i64 (OA m k))) (V6 H b (.cells cs' te (0,0))) n [b,r] [b]:=by
 intro S μ w fr _ _ _ _ _ QD hB hS hf XN hR hm ht ho hw;obtain⟨c,s,x,t,t2,e,s1,Zi,hc,ea,et,hs,hx,hu,hz⟩:=rW h;obtain⟨p0,h1,h2,p4,h3,rfl⟩:=hp;obtain⟨xr,hxr,hr⟩:=ZL WK;obtain⟨imr,himr,hfm⟩:=QD.Y0 r xr (hR r (by simp) Xm) hxr hr;have hb:S b:=hR b (by simp) hbn;obtain⟨im,QI,ZU⟩:=QD.rel b _ hb hg trivial;have hvs:=XN s (by simp[Zi,Op.operands,Call.operands,hc,ea]) _ hs;have hvx:=XN x (by simp[Zi,Op.operands,Call.operands,hc,ea]) _ hx;obtain⟨imr',himr',htr⟩:=hvx.top_inv;rw[himr]at himr';cases himr';generalize hsv:fr.eval s=sv at hvs;cases hvs with
 |slice har q1 q2 q3=>
  obtain⟨Z8,QR,_,rfl⟩:=har;simp only at QR;rw[QI]at QR;cases QR;rcases htr.slice_inv with ⟨b2,o',c',arr2,ty,fl,g1,g2,g3,g4,g5,g6⟩|⟨h0,_⟩
  ·have hb2:=hfm _ _ g4;have hcell:∀j,j<OA m k*z->w.cell? ((⟨b2,o',none⟩:Addr).add j)=some (arr2.getD (o'+j) undef):=by
    intro j hj;have hlt2:=g5 j (by omega);rw[WL];simp[World.cell?,hb2,hlt2]
   have hload:=run_loadCells (P:=P) w ⟨b2,o',none⟩ (OA m k*z) (fun j=>arr2.getD (o'+j) undef) hcell;generalize hxsd:(((Array.range (OA m k*z)).map fun j=>arr2.getD (o'+j) undef):Array Value)=xs0;obtain⟨xs,hload,hxs⟩:∃xs,(loadCells ⟨b2,o',none⟩ (OA m k*z)).run P w=.ok xs w/\VRs μ ((cs2.extract 0 (OA m k*z)).map (ZX r)) xs:=by
    refine⟨_,hload,⟨by simp;omega,fun i v v' hv ZY=> ?_⟩⟩;rw[Array.getElem?_map]at hv;cases hy:(cs2.extract 0 (OA m k*z))[i]? with
    |none=>rw[hy]at hv;cases hv
    |some y=>
     rw[hy]at hv;simp only[Oh,YO]at hv;subst hv;rw[Oz]at hy;split at hy
     ·rename_i hlt3;have hi:i<OA m k*z:=by omega
      have hy2:cs2[i]? =some y:=by simpa using hy
      simp[hi]at ZY;have hlt2:=g5 i (by omega);refine SZ himr (Array.all_eq_true'.1 p4 y (Om hy2)) (g6 i y v' hy2 ?_);rw[<-ZY];simp[hlt2]
     ·cases hy
   have hxsz:xs.size=OA m k*z:=by rw[<-hxs.1];simp;omega
   have hexsz:((cs2.extract 0 (OA m k*z)).map (ZX r)).size=OA m k*z:=by simp;omega
   rcases ZU with ⟨_,KY,hoo,arr,ha,hle,hcap,hcs⟩|⟨hz0,_⟩
   ·have XZ:=run_storeCells_at (P:=P) im.Zv off te xs.toList 0 arr w ha (by simp[hxsz];omega) (hxs.ones h3);simp only[Nat.add_zero]at XZ;refine⟨.ret (.int .i64 (OA m k)),w.setRow im.Zv (CE.splice arr off xs),μ,Post.write QD hS b _ (.cells (CE.splice cs off ((cs2.extract 0 (OA m k*z)).map (ZX r))) te (0,0)) im hb hg trivial QI KY (w':=w.setRow im.Zv (CE.splice arr off xs)) ?_ ?_ ?_ ⟨rfl,rfl,rfl⟩,.ret (.int _ _),JC hm ht ho hw (fun c h=>by rw[Zi]at h;cases h) ?_⟩
    ·simp[World.setRow]
    ·intro y hy;exact setRow_other w im.Zv y _ hy
    ·refine .inl ⟨rfl,KY,hoo,CE.splice arr off xs,setRow_heap w im.Zv arr _ te _ ha, ?_, ?_, ?_⟩
     ·rw[WS (by rw[hexsz];omega),WS (by rw[hxsz];omega)];exact hle
     ·rw[WS (by rw[hxsz];omega)];exact hcap
     ·exact VRs.splice (by rw[hexsz];omega) hle hcs hxs
    ·simp[execOp,Zi,resolve,hc,invoke,builtin,ea,et,hsv,g1,Builtin.copy_,Builtin.lenOf,Builtin.firstCells,Sem.run_bind,Sem.run_pure,Result.andThen_ok,run_underlying hu,Zm hz,hload,hoo,XZ,CE.splice,goInt]
   ·exact absurd rfl hz0
  ·omega
theorem oN(hF:∀g,F g=true->QA P g=true)(hJ:∀w,B.has w->J w)(hu:Under H n){h:Option Qj}{a:Told}(e:Nr P F J B T o H n h=some a)(hp:∀p,a.p=some p->p):
 RB P B o (Zd T) H n a.s.out a.s.H a.s.n a.s.R a.s.W/\Shape H n a.s.H a.s.n a.s.R a.s.W:=by
 unfold Nr at e;split at e
 ·split at e
  ·rename_i v r htr;cases hq:(NO r n && Xx (Qu H r))with
   |false=>rw[hq]at e;cases e
   |true=>
    rw[hq]at e;simp only[cond_true,YO]at e;subst e;simp only[YB]at hq;exact⟨pr htr (YL hq.1) hq.2,Shape.same _ _ _⟩
  ·exact oO hF hu e hp
 ·exact oO hF hu e hp
 ·rename_i k es;split at e
  ·rename_i t x i Zi;split at e
   ·rename_i u kk q hx hi;split at e
    ·rename_i r m cs el htop hue;split at e
     ·rename_i z hz;cases hq:(NO r n && Xx (Qu H r))with
      |false=>rw[hq]at e;cases e
      |true=>
       rw[hq]at e;simp only[cond_true,YO]at e;subst e;simp only[YB]at hq;obtain⟨Xm,WK⟩:=hq;obtain⟨hqk,Sw,hes⟩:=hp _ rfl;refine⟨Ur (YL Xm) WK (fun c h=>by rw[Zi]at h;cases h) fun μ w ρ im QI hf XN=> ?_,Shape.same _ _ _⟩;have hv:=XN x (by simp[Zi,Op.operands]) _ hx;have hiv:=mJ (XN i (by simp[Zi,Op.operands]) _ hi);rw[PD htop]at hv;obtain⟨Z8,QR,htr⟩:=hv.top_inv;rw[QI]at QR;cases QR;have Uv:=htr.slice_inv;rcases Uv with ⟨b,o',c',arr,ty,fl,h1,h2,h3,h4,h5,h6⟩|⟨rfl,_⟩
       ·have hess:k*z+es.size<=cs.size\/es.size=0:=by rw[<-hes];simp;omega
        refine⟨.pointer (some ⟨b,o'+k*z,none⟩),by simp[execOp,Zi,h1,hiv,oV hue hz hqk Sw],.top rfl QI ?_⟩;refine TRv.ptr (o:=o'+k*z) (off:=0) h4 (fun i hi=> ?_) fun i v v' hv ZY=> ?_
        ·have:=h5 (k*z+i) (by omega);omega
        ·rw[<-hes,Oz]at hv;split at hv
         ·refine h6 (k*z+i) v v' hv ?_;rw[<-ZY,Nat.add_assoc]
         ·cases hv
       ·omega
     ·cases e
    ·cases e
   ·cases e
  ·cases e
 ·rename_i k es;split at e
  ·rename_i t x i Zi;split at e
   ·rename_i u kk q hx hi;split at e
    ·rename_i r off cs m el htop hue;split at e
     ·rename_i z hz;cases hq:(NO r n && Xx (Qu H r))with
      |false=>rw[hq]at e;cases e
      |true=>
       rw[hq]at e;simp only[cond_true,YO]at e;subst e;simp only[YB]at hq;obtain⟨Xm,WK⟩:=hq;obtain⟨hqk,Sw,hes⟩:=hp _ rfl;refine⟨Ur (YL Xm) WK (fun c h=>by rw[Zi]at h;cases h) fun μ w ρ im QI hf XN=> ?_,Shape.same _ _ _⟩;have hv:=XN x (by simp[Zi,Op.operands]) _ hx;have hiv:=mJ (XN i (by simp[Zi,Op.operands]) _ hi);rw[jj htop]at hv;obtain⟨Z8,QR,htr⟩:=hv.top_inv;rw[QI]at QR;cases QR;obtain⟨b,o',arr,ty,fl,h1,h2,h3,h4⟩:=htr.ptr_inv;refine⟨.pointer (some ⟨b,o'+off+k*z,none⟩),by simp[execOp,Zi,h1,hiv,dQ hue hz hqk Sw],.top rfl QI ?_⟩;rw[Nat.add_assoc o'];refine TRv.ptr (o:=o'+(off+k*z)) (off:=0) h2 (fun i hi=> ?_) fun i v v' hv ZY=> ?_
       ·have Z0:es.size<=cs.size-(off+k*z):=by rw[<-hes];simp;omega
        have:=h3 (off+k*z+i) (by omega);omega
       ·rw[<-hes,Oz]at hv;split at hv
        ·refine h4 (off+k*z+i) v v' hv ?_;rw[<-ZY,Nat.add_assoc o']
        ·cases hv
     ·cases e
    ·cases e
   ·cases e
  ·cases e
 ·rename_i k m' cs';split at e
  ·rename_i t x lo Zi;split at e
   ·rename_i u kk q hx hi;split at e
    ·rename_i r m cs el htop hue;split at e
     ·rename_i z hz;cases hq:(NO r n && Xx (Qu H r))with
      |false=>rw[hq]at e;cases e
      |true=>
       rw[hq]at e;simp only[cond_true,YO]at e;subst e;simp only[YB]at hq;obtain⟨Xm,WK⟩:=hq;obtain⟨hqk,Sw,hm',hes⟩:=hp _ rfl;refine⟨Ur (YL Xm) WK (fun c h=>by rw[Zi]at h;cases h) fun μ w ρ im QI hf XN=> ?_,Shape.same _ _ _⟩;have hv:=XN x (by simp[Zi,Op.operands]) _ hx;have hiv:=mJ (XN lo (by simp[Zi,Op.operands]) _ hi);rw[PD htop]at hv;obtain⟨Z8,QR,htr⟩:=hv.top_inv;rw[QI]at QR;cases QR;have Uv:=htr.slice_inv;rcases Uv with ⟨b,o',c',arr,ty,fl,h1,h2,h3,h4,h5,h6⟩|⟨rfl,_⟩
       ·refine⟨.slice (some ⟨b,o'+k*z,none⟩) (m-k) (c'-k),by simp[execOp,Zi,h1,hiv,sq hue hz hqk Sw h2],.top rfl QI ?_⟩;rw[hm'];refine TRv.slice (o:=o'+k*z) (by omega) (by omega) h4 (fun i hi=> ?_) fun i v v' hv ZY=> ?_
        ·rw[<-hes,Array.size_extract]at hi;have:=h5 (k*z+i) (by omega);omega
        ·rw[<-hes,Oz]at hv;split at hv
         ·refine h6 (k*z+i) v v' hv ?_;rw[<-ZY,Nat.add_assoc]
         ·cases hv
       ·omega
     ·cases e
    ·cases e
   ·cases e
  ·cases e
 ·rename_i cs';split at e
  ·rename_i u1 r k cs el z by' u2 hta
   cases hq:(NO r n && Xx (Qu H r))with
   |false=>rw[hq]at e;cases e
   |true=>
    rw[hq]at e;simp only[cond_true,YO]at e;subst e;simp only[YB]at hq;exact⟨pw hta (YL hq.1) hq.2 (hp _ rfl),Shape.new _ _ _ _⟩
  ·cases e
 ·split at e
  ·rename_i sv r k cs el z by' u2 hta
   cases hq:(NO r n && Xx (Qu H r))with
   |false=>rw[hq]at e;cases e
   |true=>
    rw[hq]at e;simp only[cond_true,YO]at e;subst e;simp only[YB]at hq;exact⟨n5 hta (YL hq.1) hq.2 (hp _ rfl),Shape.same _ _ _⟩
  ·cases e
 ·rename_i cs';split at e
  ·rename_i b off k r m cs2 z hta;split at e
   ·rename_i cs te hg;cases hq:(NO r n && Xx (Qu H r) && NO b n)with
    |false=>rw[hq]at e;cases e
    |true=>
     rw[hq]at e;simp only[cond_true,YO]at e;subst e;simp only[YB]at hq;have hb:=YL hq.2;exact⟨pt hta hg (YL hq.1.1) hq.1.2 hb (hp _ rfl),(Shape.set _ hb).moreR (fun i hi=>by simp at hi ⊢;exact .inl hi)⟩
   ·cases e
  ·cases e
 ·rename_i s;simp only[YO]at e;subst e;exact KK hF YW (QL P B) hu (hp _ rfl)
 ·rename_i v;split at e
  ·rename_i op t x y yt Zi;split at e
   ·rename_i a b hx hy;cases hq:(af a && af b && af v)with
    |false=>rw[hq]at e;cases e
    |true=>
     rw[hq]at e;simp only[cond_true,YO]at e;subst e;simp only[YB]at hq;have hb:=hp _ rfl;refine⟨U5 (fun c h=>by rw[Zi]at h;cases h) fun μ w ρ _ XN=> ?_,Shape.same _ _ _⟩;have e1:=RA hq.1.1 (XN x (by simp[Zi,Op.operands]) _ hx);have e2:=RA hq.1.2 (XN y (by simp[Zi,Op.operands]) _ hy);refine⟨v, ?_,Jk hq.2⟩;simp only[execOp,Zi,e1,e2];rw[Sem.run_bind,hb x y w];rfl
   ·cases e
  ·cases e
 ·rename_i keys out Ut n' W;split at e
  ·rename_i c Zi;split at e
   ·rename_i g args H1 n1 R W1 hcr;cases hn:(NH n1 n && W1.isEmpty)with
    |false=>rw[hn]at e;cases e
    |true=>
     rw[hn]at e;simp only[cond_true]at e;simp only[YB,List.isEmpty_iff]at hn;obtain⟨JZ,rfl⟩:=hn;have JZ:=YE JZ;subst JZ;split at e
     ·rename_i c1 hc1;simp only[YO]at e;subst e;exact KR hF Zi hu hcr ((hp _ rfl).callJ hc1)
     ·cases e
   ·rename_i l fn tm cda cdb H1 n1 R W1 hcr;cases hn:(NH n1 n && W1.isEmpty && Oo tm.size 16000)with
    |false=>rw[hn]at e;cases e
    |true=>
     rw[hn]at e;simp only[cond_true,YO]at e;subst e;simp only[YB,List.isEmpty_iff]at hn;obtain⟨⟨JZ,rfl⟩,Z0⟩:=hn;have JZ:=YE JZ;subst JZ;have Vu:=FJ.recS (hp _ rfl);have:=KK hF Vu (QL P B) hu (T:=T) (o:=o) (s:=⟨out,Ut++H1,n',R++keys,W⟩) (by
      simp[b6,Zi,hcr,Z0,PH])
     exact this
   ·cases e
  ·cases e
 ·rename_i out fz;split at e
  ·rename_i c Zi;split at e
   ·rename_i g args H1 n1 R W1 hcr;cases hn:(NH n1 n && W1.isEmpty)with
    |false=>rw[hn]at e;cases e
    |true=>
     rw[hn]at e;simp only[cond_true]at e;simp only[YB,List.isEmpty_iff]at hn;obtain⟨JZ,rfl⟩:=hn;have JZ:=YE JZ;subst JZ;split at e
     ·rename_i ts R2 L XZ;cases Xm:(R2.all fun i=>NO i n1)with
      |false=>rw[Xm]at e;cases e
      |true=>
       rw[Xm]at e;simp only[cond_true]at e;cases V7:Td 2 out with
       |true=>
        rw[V7]at e;simp only[cond_true,YO]at e;subst e;obtain⟨hL,hpc⟩:=hp _ rfl;exact KR hF Zi hu hcr (xq hJ XZ hL hpc V7 Xm)
       |false=>
        rw[V7]at e;simp only[cond_false]at e;cases hq:((R2.all fun i=>Xx (Qu H1 i)) && qk 4 out)with
        |false=>rw[hq]at e;cases e
        |true=>
         rw[hq]at e;simp only[cond_true,YO]at e;subst e;simp only[YB]at hq;obtain⟨hL,hpc⟩:=hp _ rfl;exact KR hF Zi hu hcr (tJ hJ XZ hL hpc Xm hq.1 hq.2)
     ·cases e
   ·cases e
  ·cases e
 ·rename_i out fz;split at e
  ·rename_i c Zi;split at e
   ·rename_i g args H1 n1 R W1 hcr;cases hn:(NH n1 n && W1.isEmpty)with
    |false=>rw[hn]at e;cases e
    |true=>
     rw[hn]at e;simp only[cond_true]at e;simp only[YB,List.isEmpty_iff]at hn;obtain⟨JZ,rfl⟩:=hn;have JZ:=YE JZ;subst JZ;split at e
     ·rename_i ts R2 L XZ;cases hq:((R2.all fun i=>NO i n1) && (R2.all fun i=>Xx (Qu H1 i) || Ts (Qu H1 i)) && qk 4 out)with
      |false=>rw[hq]at e;cases e
      |true=>
       rw[hq]at e;simp only[cond_true,YO]at e;subst e;simp only[YB]at hq;obtain⟨hL,hpc⟩:=hp _ rfl;exact KR hF Zi hu hcr (pK hJ XZ hL hpc hq.1.1 hq.1.2 hq.2)
     ·cases e
   ·cases e
  ·cases e
 ·rename_i κ R ps qs out outs news;split at e
  ·rename_i c Zi;split at e
   ·rename_i g args H1 n1 R0 W1 hcr;cases hn:(NH n1 n && W1.isEmpty)with
    |false=>rw[hn]at e;cases e
    |true=>
     rw[hn]at e;simp only[cond_true]at e;simp only[YB,List.isEmpty_iff]at hn;obtain⟨JZ,rfl⟩:=hn;have JZ:=YE JZ;subst JZ;split at e
     ·rename_i as bs o1 Ut L hw;simp only[YO]at e;subst e;obtain⟨hL,hwr⟩:=hp _ rfl;exact KR hF Zi hu hcr (hwr.callJ hJ κ R ps qs hw hL rfl rfl)
     ·cases e
   ·cases e
  ·cases e
 ·-- a tree Y2 is not nil
  split at e
  ·rename_i op t x y yt Zi;split at e
   ·rename_i v hx hy;split at e
    ·rename_i r m cs el htop hue;cases hq:(NO r n && Xx (Qu H r))with
     |false=>rw[hq]at e;cases e
     |true=>
      rw[hq]at e;simp only[cond_true]at e;simp only[YB]at hq;obtain⟨Xm,WK⟩:=hq;have key:0<m->∀(μ:Mu) (w:World) (ρ:Operand->Value) (im:aQ),μ r=some im->(∀x'∈o.op.operands,∀v',Zd T x'=some v'->VR μ v' (ρ x'))->ρ y=.slice none 0 0/\∃p c,ρ x=.slice (some p) m c:=fun hm μ w ρ im QI XN=>by
       have hv:=XN x (by simp[Zi,Op.operands]) _ hx;have h2:=XN y (by simp[Zi,Op.operands]) _ hy;rw[PD htop]at hv;obtain⟨Z8,QR,htr⟩:=hv.top_inv;have e2:ρ y=.slice none 0 0:=by generalize ρ y=z at h2;cases h2;rfl
       refine⟨e2, ?_⟩;rcases htr.slice_inv with ⟨b,o',c',arr,ty,fl,h1,_,_,_,_,_⟩|⟨h0,_⟩
       ·exact⟨_,_,h1⟩
       ·omega
      have heq:∀(p:Addr) (c:Nat) (w:World),(Op.equal t (.slice (some p) m c) (.slice none 0 0)).run P w=.ok false w:=fun p c w=>by
       show(Op.equalIn (9999+1) t (.slice (some p) m c) (.slice none 0 0)).run P w=.ok false w;unfold Op.equalIn;rw[Z1]at hue;simp[Sem.run_bind,run_underlying hue,Sem.run_pure]
      split at e
      ·rename_i hop2;simp only[YO]at e;subst e;have hm:=hp _ rfl;refine⟨Ur (YL Xm) WK (fun c h=>by rw[Zi]at h;cases h) fun μ w ρ im QI hf XN=> ?_,Shape.same _ _ _⟩;obtain⟨e2,p,c,e1⟩:=key hm μ w ρ im QI XN;exact⟨.bool false,by simp[execOp,Zi,e1,e2,eqGuard,binOp,Sem.run_bind,Sem.run_pure,heq],.bool _⟩
      ·rename_i hop2;simp only[YO]at e;subst e;have hm:=hp _ rfl;refine⟨Ur (YL Xm) WK (fun c h=>by rw[Zi]at h;cases h) fun μ w ρ im QI hf XN=> ?_,Shape.same _ _ _⟩;obtain⟨e2,p,c,e1⟩:=key hm μ w ρ im QI XN;exact⟨.bool true,by simp[execOp,Zi,e1,e2,eqGuard,binOp,Sem.run_bind,Sem.run_pure,heq],.bool _⟩
      ·cases e
    ·cases e
   ·cases e
  ·cases e
 ·rename_i κ R ps qs out outs news o2;split at e
  ·rename_i c Zi;split at e
   ·rename_i g args H1 n1 R0 W1 hcr;cases hn:(NH n1 n && W1.isEmpty)with
    |false=>rw[hn]at e;cases e
    |true=>
     rw[hn]at e;simp only[cond_true]at e;simp only[YB,List.isEmpty_iff]at hn;obtain⟨JZ,rfl⟩:=hn;have JZ:=YE JZ;subst JZ;split at e
     ·rename_i as bs o1 Ut L hw;simp only[YO]at e;subst e;obtain⟨⟨hL,hwr⟩,ho⟩:=hp _ rfl;subst ho;exact KR hF Zi hu hcr (hwr.callJ hJ κ R ps qs hw hL rfl rfl)
     ·cases e
   ·cases e
  ·cases e
end
abbrev Vq(k:Int)(n:Nat)(xs:Array Value)(t:Nat)(v:Array Value):Prop:=k=(↑k.toNat:Int)/\k.toNat<n/\xs.extract (k.toNat*t) (k.toNat*t+t)=v
abbrev JQ(a v r:Array Value)(n f z:Nat):Prop:=a.size=n*f/\n+1<=maxLen/\(n+1)*z<=140737488355328/\a++v=r
end Go.CE

namespace Go.CE
open Go Go.RowKit

abbrev QE:=List (Nat×Qj)
def IC(sc:QE)(q:Nat):Option Qj×QE:=match sc with
 |(k,h)::l=>bif NH k q then(some h,l)else(none,sc)
 |[]=>(none,[])
structure MY where
 Qy:List Rec
 T:Tm
 H:Qp
 n:Nat
 sc:QE
 q:Nat
 L:List Prop
 ZH:Option (Value×List Nat×List Nat)
def bX(P:Program)(F:FuncId->Bool)(J:World->Prop)(B:Lo)(ops:Array Oper):List Oper->Tm->Qp->Nat->QE->Nat->List Prop->Option MY
 |[],T,H,n,sc,q,L=>some ⟨[],T,H,n,sc,q,L,none⟩
 |o::l,T,H,n,sc,q,L=>
  bif JO T o.dst then
   bif Region.wanted o (XI ops T)then
    match IC sc q with
    |(h,sc')=>match Nr P F J B T o H n h with
     |some ⟨⟨.ret v,H1,n1,R,W⟩,p⟩=>match bX P F J B ops l (Vy T o.dst v) H1 n1 sc' (q+1) (more p L)with
      |some r=>some {r with Qy:=⟨o,true,v,T,H,H1,n,n1,R,W⟩::r.Qy}
      |none=>none
     |some ⟨⟨.ZH v,H1,n1,R,W⟩,p⟩=>some ⟨[],T,H1,n1,sc',q+1,more p L,some (v,R,W)⟩
     |none=>none
   else match bX P F J B ops l (Vy T o.dst undef) H n sc (q+1) L with
    |some r=>some {r with Qy:=⟨o,false,undef,T,H,H,n,n,[],[]⟩::r.Qy}
    |none=>none
  else none
def F3(P:Program)(F:FuncId->Bool)(B:Lo)(c:CF)(H:Qp)(n:Nat)(f:Operand)(params:Array Tmp)(assign body:Code)(k:List Item)(keys:List Nat)(out:OO)(Ut:Qp)(n':Nat)(W:List Nat):Option (CF×Qp×Prop):=
 match Zd c.tmps f with
 |some fv=>match U2 c H n params assign body with
  |some (H1,l,ds,_)=>match Pv F H1 fv #[.func (.yield l) #[] #[]]with
   |some (.enter g args,_)=>match Wo P g args with
    |some c1=>match out with
     | .ret _=>some ({c with todo:=.endRangeFunc l::k,defers:=ds++c.defers},Ut++H1,FJ P B c1 H1 (l+1) out (Ut++H1) n' keys W)
     | .ZH v=>some ({c with mode:=.ZH v,defers:=ds++c.defers},Ut++H1,FJ P B c1 H1 (l+1) out (Ut++H1) n' keys W)
    |none=>none
   |_=>none
  |none=>none
 |none=>none
def Qv(P:Program)(F:FuncId->Bool)(J:World->Prop)(B:Lo):Nat->Nat->CF->Qp->Nat->QE->Nat->List Nat->List Prop->Option ST
 |0,_,c,H,n,_,_,W,L=>some ⟨.at c H n,W,L⟩
 |k+1,b,c,H,n,sc,q,W,L=>
  match c.mode,c.todo with
  | .run,.code (.region _ ops draw)::todo=>match bX P F J B ops ops.toList c.tmps H n sc q L with
    |some r=>match r.ZH with
     |none=>bif !draw || (Vi 0 ops.toList && indep ops 0 r.Qy (YT ops.toList []))then Qv P F J B k b {c with tmps:=r.T,todo:=todo} r.H r.n r.sc r.q (ZT b (VU r.Qy) W) r.L else none
     |some (v,_,W1)=>bif !draw || Sm ops r.Qy r.T then Qv P F J B k b {c with tmps:=r.T,mode:=.ZH v} r.H r.n r.sc r.q (ZT b (VU r.Qy++W1) W) r.L else none
    |none=>none
  | .run,.code (.rangeFunc f params assign body)::todo=>match IC sc q with
    |(some (.XV (.call keys out Ut n1 W1)),sc')=>match F5 P F B c H n f params assign body todo keys out Ut n1 W1 with
     |some (c',H',p)=>Qv P F J B k b c' H' n1 sc' q (ZT b W1 W) (p::L)
     |none=>none
    |(some (.call keys out Ut n1 W1),sc')=>match F3 P F B c H n f params assign body todo keys out Ut n1 W1 with
     |some (c',H',p)=>Qv P F J B k b c' H' n1 sc' q (ZT b W1 W) (p::L)
     |none=>none
    |_=>none
  |_,_=>match Ps P F Xw (fun _ _ _=>none) c H n with
   |some (.go c' H' n' _ W')=>Qv P F J B k b c' H' n' sc q (ZT b W' W) L
   |some (.done out H' n' _ W')=>some ⟨.fin out H' n',ZT b W' W,L⟩
   |none=>none
section
variable {P:Program} {F:FuncId->Bool} {J:World->Prop} {B:Lo}
theorem Jn{ops:Array Oper}:∀(l:List Oper) (T:Tm) (H:Qp) (n:Nat) (sc:QE) (q:Nat) (L:List Prop) (r:MY),bX P F J B ops l T H n sc q L=some r->Q7 r.L->Q7 L
 |[],T,H,n,sc,q,L,r,h,ha=>by
  simp only[bX,YO]at h;subst h;exact ha
 |o::l,T,H,n,sc,q,L,r,h,ha=>by
  simp only[bX]at h;cases hd:JO T o.dst with
  |false=>rw[hd]at h;cases h
  |true=>
   rw[hd]at h;simp only[cond_true]at h;cases hw:Region.wanted o (XI ops T)with
   |true=>
    rw[hw]at h;simp only[cond_true]at h;split at h
    ·rename_i v H1 n1 R W p Zi;split at h
     ·rename_i r' hr;simp only[YO]at h;subst h;exact(dH (Jn l _ _ _ _ _ _ r' hr ha)).2
     ·cases h
    ·simp only[YO]at h;subst h;exact(dH ha).2
    ·cases h
   |false=>
    rw[hw]at h;simp only[cond_false]at h;split at h
    ·rename_i r' hr;simp only[YO]at h;subst h;exact Jn l _ _ _ _ _ _ r' hr ha
    ·cases h
def RegOk(P:Program)(B:Lo)(ops:Array Oper)(l:List Oper)(T:Tm)(H:Qp)(n:Nat)(r:MY):Prop:=match r.ZH with
 |none=>Kk r.Qy T H n r.T r.H r.n/\r.Qy.map (·.o)=l/\Under r.H r.n
 |some (v,R,W)=> ∃H1 n1 o l2,Kk r.Qy T H n r.T H1 n1/\r.Qy.map (·.o)++o::l2=l/\Region.wanted o (XI ops r.T)=true/\RB P B o (Zd r.T) H1 n1 (.ZH v) r.H r.n R W/\Shape H1 n1 r.H r.n R W/\Under r.H r.n
theorem RegOk.cons{ops:Array Oper}{l:List Oper}{T:Tm}{H:Qp}{n:Nat}{r:MY}{x:Rec}(h:RegOk P B ops l (Vy T x.o.dst x.v) x.H' x.n' r)(hT:x.T=T)(hH:x.H=H)(hn:x.n=n):RegOk P B ops (x.o::l) T H n {r with Qy:=x::r.Qy}:=by
 unfold RegOk at h ⊢;cases hp:r.ZH with
 |none=>
  rw[hp]at h;obtain⟨h3,h4,h5⟩:=h;exact⟨⟨hT,hH,hn,h3⟩,by simp[h4],h5⟩
 |some p=>
  obtain⟨v,R,W⟩:=p;rw[hp]at h;obtain⟨H1,n1,o,l2,h1,h2,h3⟩:=h;exact⟨H1,n1,o,l2,⟨hT,hH,hn,h1⟩,by simp[h2],h3⟩
theorem Pc(hF:∀g,F g=true->QA P g=true)(hJ:∀w,B.has w->J w){ops:Array Oper}{len:Nat}:∀(l:List Oper) (T:Tm) (H:Qp) (n:Nat) (sc:QE) (q:Nat) (L:List Prop) (r:MY),T.len=len->Under H n->bX P F J B ops l T H n sc q L=some r->Q7 r.L->
 (∀x∈r.Qy,aJ len x)/\(∀x∈r.Qy,Pz P B ops x)/\RegOk P B ops l T H n r
 |[],T,H,n,sc,q,L,r,hl,hu,h,ha=>by
  simp only[bX,YO]at h;subst h;exact⟨fun r hr=>by simp at hr,fun r hr=>by simp at hr,⟨rfl,rfl,rfl⟩,rfl,hu⟩
 |o::l,T,H,n,sc,q,L,r,hl,hu,h,ha=>by
  simp only[bX]at h;cases hd:JO T o.dst with
  |false=>rw[hd]at h;cases h
  |true=>
   have hdst:=KP hd;rw[hl]at hdst;rw[hd]at h;simp only[cond_true]at h;cases hw:Region.wanted o (XI ops T)with
   |true=>
    rw[hw]at h;simp only[cond_true]at h;split at h
    ·rename_i v H1 n1 R W p Zi;split at h
     ·rename_i r' hr;simp only[YO]at h;subst h;have hpL:=dH (Jn l _ _ _ _ _ _ r' hr ha);obtain⟨hdo,Pq⟩:=oN hF hJ hu Zi hpL.1;obtain⟨h1,h2,h3⟩:=Pc hF hJ (ops:=ops) (len:=len) l (Vy T o.dst v) H1 n1 _ _ _ r' (by rw[VX];exact hl) (hu.shape Pq) hr ha;refine⟨fun x hx=> ?_,fun x hx=> ?_,RegOk.cons (x:=⟨o,true,v,T,H,H1,n,n1,R,W⟩) h3 rfl rfl rfl⟩
      ·rcases List.mem_cons.1 hx with rfl|hx
       ·exact⟨Pq.le,Pq.keep,Pq.top,Pq.sub,Pq.wlt,hdst⟩
       ·exact h1 x hx
      ·rcases List.mem_cons.1 hx with rfl|hx
       ·exact⟨hw.symm,(fun _=>hdo),(fun e=>by cases e)⟩
       ·exact h2 x hx
     ·cases h
    ·rename_i v H1 n1 R W p Zi;simp only[YO]at h;subst h;obtain⟨hdo,Pq⟩:=oN hF hJ hu Zi (dH ha).1;exact⟨fun r hr=>by simp at hr,fun r hr=>by simp at hr,H,n,o,l,⟨rfl,rfl,rfl⟩,rfl,hw,hdo,Pq,hu.shape Pq⟩
    ·cases h
   |false=>
    rw[hw]at h;simp only[cond_false]at h;split at h
    ·rename_i r' hr;simp only[YO]at h;subst h;obtain⟨h1,h2,h3⟩:=Pc hF hJ (ops:=ops) (len:=len) l (Vy T o.dst undef) H n _ _ _ r' (by rw[VX];exact hl) hu hr ha;refine⟨fun x hx=> ?_,fun x hx=> ?_,RegOk.cons (x:=⟨o,false,undef,T,H,H,n,n,[],[]⟩) h3 rfl rfl rfl⟩
     ·rcases List.mem_cons.1 hx with rfl|hx
      ·exact⟨NZ _,fun _ _ _=>rfl,fun _ _=>rfl,fun i hi=>by simp at hi,fun i hi=>by simp at hi,hdst⟩
      ·exact h1 x hx
     ·rcases List.mem_cons.1 hx with rfl|hx
      ·exact⟨hw.symm,(fun e=>by cases e),fun _=>⟨rfl,rfl,rfl,rfl⟩⟩
      ·exact h2 x hx
    ·cases h
theorem mN{c:CF}{H:Qp}{n:Nat}{id:Nat}{ops:Array Oper}{k:List Item}{Qy:List Rec}{v:Value}{H':Qp}{n':Nat}{R W:List Nat}{T':Tm}(hm:c.mode=.run)
 (ht:c.todo=.code (.region id ops false)::k) (hs:∀x∈Qy,aJ c.tmps.len x) (hk:∀x∈Qy,Pz P B ops x)
 (h:∃H1 n1 o l2,Kk Qy c.tmps H n T' H1 n1/\Qy.map (·.o)++o::l2=ops.toList/\Region.wanted o (XI ops T')=true/\RB P B o (Zd T') H1 n1 (.ZH v) H' n' R W/\Shape H1 n1 H' n' R W/\Under H' n'):
 GoJ P B c H n {c with tmps:=T',mode:=.ZH v} H' n' (K7 Qy++R) (VU Qy++W):=by
 obtain⟨H1,n1,o,l2,P7,hmap,Uu,hdo,Pq,_⟩:=h;have hown:=Ud (l2:=o::l2) hmap rfl;have hlen:ops.size=Qy.length+(l2.length+1):=by have:=congrArg NG hmap;simp at this;omega
 have hat:ops[Qy.length]? =some o:=by
  rw[<-NM,<-hmap,NL (by simp)];simp
 have hsh1:=ZN Qy _ _ _ _ _ _ P7 hs;have l1:=hsh1.le;have l3:=Pq.le;refine⟨hsh1.trans Pq,fun S μ w fr cs Z QD hB hS hf XC hR=> ?_⟩;obtain⟨a,b,d⟩:=XC.running hm;rw[ht]at d;obtain⟨L',e,hL⟩:=d.code;have hf1:YU μ n n1:=fun q x y=>hf q x (by omega)
 obtain⟨μ1,A1,w1,hp,hT,XZ⟩:=TH (fr:=fr) (cs:=cs) (k:=L') a Qy 0 c.tmps H n T' H1 n1 (Oa Qy.length (l2.length+1)) P7 hs hk (fun j r hj=>by rw[Ob];exact hown j r hj) rfl S μ w fr.tmps QD hB hS hf1
  (fun q hq Xm=>hR q (NK _ hq) Xm) b
 have hr:Oa 0 Qy.length++Oa Qy.length (l2.length+1)=Oa 0 ops.size:=by
  rw[hlen];have:=List.range'_append_1 (s:=0) (m:=Qy.length) (n:=l2.length+1);simpa using this
 rw[hr,List.range'_succ]at XZ;obtain⟨Zf,w2,μ2,JU,ho,hst2⟩:=hdo _ μ1 w1 (Xj fr A1 ops (Qy.length::Oa (Qy.length+1) l2.length) L') cs L' ops Qy.length _ hp.ok (hB.post QD hp) (fun q hq=>hq.elim (fun e=>by have:=hS q e;omega) (fun e=>e.2))
  (fun q x y=>by rw[hp.ext q (by omega)];exact hf q (by omega) y) (fun x _ v hv=>mS (fr:=Xj fr A1 ops (Qy.length::Oa (Qy.length+1) l2.length) L') hT x v hv) (fun q hq Xm=>by
   rcases Oe q n with h1|h1
   ·exact .inl (hR q (NT _ hq) h1)
   ·exact .inr ⟨h1,Xm⟩) a rfl hat (by rw[show(Xj fr A1 ops (Qy.length::Oa (Qy.length+1) l2.length) L').tmps=A1 from rfl,UG hT];exact Uu)
 have hpp:=hp.trans JU;cases ho with
 |ZH hv=>
  rename_i v';refine⟨{Xj fr A1 ops (Qy.length::Oa (Qy.length+1) l2.length) L' with mode:=.panicking [{v:=v',recovered:=false}]},w2,μ2,hpp,⟨XC.fn,hT.mono (JU.mu fun q x y=>by rw[hp.ext q (by omega)];exact hf q (by omega) y),(fun h=>by cases h),XC.defers.mono (hpp.mu hf),.ZH hv,XC.kind,XC.round.mono (hpp.mu hf)⟩,rfl,rfl,
   .head (ZW a e) (XZ.trans (hst2.trans ?_))⟩
  simp only[OO.on,Frame.raise,Xj,a];exact Steps.refl _ _
theorem vY(hF:∀g,F g=true->QA P g=true)(XS:P.follows .mixedOrders=true){c c':CF}{H H':Qp}{n n':Nat}{f:Operand}{params:Array Tmp}{assign body:Code}{k:List Item}{keys W:List Nat}{out:OO}{Ut:Qp}{p:Prop}(hu:Under H n)(hm:c.mode=.run)(ht:c.todo=.code (.rangeFunc f params assign body)::k)
 (h:F3 P F B c H n f params assign body k keys out Ut n' W=some (c',H',p)) (hp:p):∃R,GoJ P B c H n c' H' n' R W:=by
 unfold F3 at h;split at h
 ·rename_i fv hfv;split at h
  ·rename_i H1 l ds R1 ho;split at h
   ·rename_i g args R2 hc;split at h
    ·rename_i c1 he;refine⟨R1++R2++keys, ?_⟩;split at h
     ·rename_i v;simp only[YO,YR]at h;obtain⟨rfl,rfl,rfl⟩:=h;have:Ps P F Xw (RM c1 H1 (l+1) ⟨.ret v,Ut++H1,n',keys,W⟩) c H n=some (.go {c with todo:=.endRangeFunc l::k,defers:=ds++c.defers} (Ut++H1) n' (R1++R2++keys) W):=by
       unfold Ps;simp only[hm,ht,hfv,ho,hc,he,PH]
      exact Vx hF XS (QL P B) (FJ.recS hp) hu this
     ·rename_i v;simp only[YO,YR]at h;obtain⟨rfl,rfl,rfl⟩:=h;have:Ps P F Xw (RM c1 H1 (l+1) ⟨.ZH v,Ut++H1,n',keys,W⟩) c H n=some (.go {c with mode:=.ZH v,defers:=ds++c.defers} (Ut++H1) n' (R1++R2++keys) W):=by
       unfold Ps;simp only[hm,ht,hfv,ho,hc,he,PH]
      exact Vx hF XS (QL P B) (FJ.recS hp) hu this
    ·cases h
   ·cases h
  ·cases h
 ·cases h
theorem RK(b:Nat):∀(fuel:Nat) (c:CF) (H:Qp) (n:Nat) (sc:QE) (q:Nat) (W0:List Nat) (L:List Prop) (s:ST),Qv P F J B fuel b c H n sc q W0 L=some s->Q7 s.L->Q7 L:=by
 intro fuel;induction fuel with
 |zero=>intro c H n sc q W0 L s h ha;simp only[Qv,YO]at h;subst h;exact ha
 |succ k ih=>
  intro c H n sc q W0 L s h ha;simp only[Qv]at h;split at h
  ·split at h
   ·rename_i r' hr';split at h
    ·have h:=KU h;exact Jn _ _ _ _ _ _ _ _ hr' (ih _ _ _ _ _ _ _ _ h ha)
    ·exact Jn _ _ _ _ _ _ _ _ hr' (ih _ _ _ _ _ _ _ _ (KU h) ha)
   ·cases h
  ·split at h
   ·split at h
    ·exact(ih _ _ _ _ _ _ _ _ h ha).2
    ·cases h
   ·split at h
    ·exact(ih _ _ _ _ _ _ _ _ h ha).2
    ·cases h
   ·cases h
  ·split at h
   ·exact ih _ _ _ _ _ _ _ _ h ha
   ·simp only[YO]at h;subst h;exact ha
   ·cases h
theorem Wd(hF:∀g,F g=true->QA P g=true)(hJ:∀w,B.has w->J w)(XS:P.follows .mixedOrders=true):∀(fuel b:Nat) (c:CF) (H:Qp) (n:Nat) (sc:QE) (q:Nat) (W0:List Nat) (L:List Prop) (s:ST),Under H n->Qv P F J B fuel b c H n sc q W0 L=some s->Q7 s.L->
 ∃R W,Nh P B c H n R W s.r/\∀i,i<b->(i∈s.W<->i∈W0\/i∈W)
 |0,b,c,H,n,sc,q,W0,L,s,hu,h,ha=>by
  simp only[Qv,YO]at h;subst h;exact⟨[],[],GoJ.refl c H n,fun i _=>by simp⟩
 |k+1,b,c,H,n,sc,q,W0,L,s,hu,h,ha=>by
  have plain:(match Ps P F Xw (fun _ _ _=>none) c H n with
   |some (.go c' H' n' _ W')=>Qv P F J B k b c' H' n' sc q (ZT b W' W0) L
   |some (.done out H' n' _ W')=>some ⟨.fin out H' n',ZT b W' W0,L⟩
   |none=>none)=some s->∃R W,Nh P B c H n R W s.r/\∀i,i<b->(i∈s.W<->i∈W0\/i∈W):=by
   intro h;split at h
   ·rename_i c' H' n' R' W' hs;have JL:GoJ P B c H n c' H' n' R' W':=Vx hF XS (QL P B) YW hu hs;obtain⟨R,W,h1,h2⟩:=Wd hF hJ XS k b c' H' n' sc q _ L s (hu.shape JL.shape) h ha;refine⟨_,_,JL.srj h1,fun i hi=> ?_⟩;rw[h2 i hi,Zo hi,OD,or_assoc]
   ·rename_i out H' n' R' W' hs;have hdone:FJ P B c H n out H' n' R' W':=Vx hF XS (QL P B) YW hu hs;simp only[YO]at h;subst h;exact⟨R',W',hdone,fun i hi=>Zo hi⟩
   ·cases h
  simp only[Qv]at h;split at h
  ·rename_i id ops draw todo hm ht;split at h
   ·rename_i r hr;cases hpan:r.ZH with
    |none=>
     rw[hpan]at h;simp only at h;cases hd:(!draw || (Vi 0 ops.toList && indep ops 0 r.Qy (YT ops.toList [])))with
     |false=>rw[hd]at h;cases h
     |true=>
      rw[hd]at h;simp only[cond_true]at h;have hL:Q7 r.L:=by
       exact RK b k _ _ _ _ _ _ _ s h ha
      obtain⟨h1,h2,WK⟩:=Pc hF hJ (len:=c.tmps.len) ops.toList c.tmps H n sc q L r rfl hu hr hL;unfold RegOk at WK;rw[hpan]at WK;obtain⟨h3,h4,h5⟩:=WK;have JL:=re XS hm ht h1 h2 h3 h4 hd;obtain⟨R,W,k1,k2⟩:=Wd hF hJ XS k b _ _ _ _ _ _ _ s h5 h ha;refine⟨_,_,JL.srj k1,fun i hi=> ?_⟩;rw[k2 i hi,Zo hi,OD,or_assoc]
    |some p=>
     obtain⟨v,R1,W1⟩:=p;rw[hpan]at h;simp only at h;cases hd:(!draw || Sm ops r.Qy r.T)with
     |false=>rw[hd]at h;cases h
     |true=>
      rw[hd]at h;simp only[cond_true]at h;have hL:Q7 r.L:=by
       exact RK b k _ _ _ _ _ _ _ s h ha
      obtain⟨h1,h2,WK⟩:=Pc hF hJ (len:=c.tmps.len) ops.toList c.tmps H n sc q L r rfl hu hr hL;unfold RegOk at WK;rw[hpan]at WK;have JL:GoJ P B c H n {c with tmps:=r.T,mode:=.ZH v} r.H r.n (K7 r.Qy++R1) (VU r.Qy++W1):=by
       cases draw with
       |true=>
        obtain⟨H1,n1,o,l2,x1,x2,x3,x4,x5,_⟩:=WK;exact gB XS hm ht h1 h2 ⟨H1,n1,o,l2,x1,x2,x3,x4,x5⟩ (by simpa using hd)
       |false=>exact mN hm ht h1 h2 WK
      obtain⟨_,_,_,_,_,_,_,_,_,h5⟩:=WK;obtain⟨R,W,k1,k2⟩:=Wd hF hJ XS k b _ _ _ _ _ _ _ s h5 h ha;refine⟨_,_,JL.srj k1,fun i hi=> ?_⟩;rw[k2 i hi,Zo hi,OD (s:=VU r.Qy++W1),or_assoc]
   ·cases h
  ·rename_i f params assign body todo hm ht;split at h
   ·rename_i keys out Ut n1 W1 sc' htold;split at h
    ·rename_i c' H' p hi;have hL:=RK b k _ _ _ _ _ _ _ s h ha;obtain⟨R0,JL⟩:=vZ hF XS hu hm ht hi hL.1;obtain⟨R,W,h1,h2⟩:=Wd hF hJ XS k b _ _ _ _ _ _ _ s (hu.shape JL.shape) h ha;refine⟨_,_,JL.srj h1,fun i hi=> ?_⟩;rw[h2 i hi,Zo hi,OD,or_assoc]
    ·cases h
   ·rename_i keys out Ut n1 W1 sc' htold;split at h
    ·rename_i c' H' p hi;have hL:=RK b k _ _ _ _ _ _ _ s h ha;obtain⟨R0,JL⟩:=vY hF XS hu hm ht hi hL.1;obtain⟨R,W,h1,h2⟩:=Wd hF hJ XS k b _ _ _ _ _ _ _ s (hu.shape JL.shape) h ha;refine⟨_,_,JL.srj h1,fun i hi=> ?_⟩;rw[h2 i hi,Zo hi,OD,or_assoc]
    ·cases h
   ·cases h
  ·exact plain h
end
end Go.CE

namespace Go.CE
open Go Go.RowKit

def YD(H:Qp)(n:Nat):List Nat:=(NI n).filter fun r=>Xx (Qu H r)
theorem nM{H:Qp}{n r:Nat}:r∈YD H n<->r<n/\Xx (Qu H r)=true:=by simp[YD]
noncomputable def ir(n n1:Nat)(ρ:Nat->Nat)(μ μ':Mu)(fm:Nat->Option Obj):Mu:=fun i=>if i=n then some ⟨0,0,0,false,fm⟩else if n<i/\i<n1 then μ' (ρ i)else μ i
structure ze (n n' n1:Nat) (W:List Nat) (μ μ':Mu) (H H' H1:Qp) (w':World) (ρ:Nat->Nat) (fk:List Nat):Prop where
 le:n<n1
 id:∀i,i<n->ρ i=i
 rng:∀i,n<i->i<n1->n<=ρ i/\ρ i<n'
 inj:∀i j,n<i->i<n1->n<j->j<n1->ρ i=ρ j->i=j
 under:Under H1 n1
 XV:∀i,i<n->i ∉ W->Qu H1 i=Qu H i
 Y0:Qu H1 n=some Xp
 obj:∀i o1,i<n1->(n<i\/i∈W/\i<n)->Qu H1 i=some o1->¬Ws o1/\(live o1->∃o,Qu H' (ρ i)=some o/\live o/\∀im,μ' (ρ i)=some im->OR μ' w' im o->OR (ir n n1 ρ μ μ' (K8 μ' H' w' (YD H' n'++fk))) w' im o1)
 fz:∀k∈fk,n<=k/\k<n'/\(∃o,Qu H' k=some o/\live o)/\∀i,n<i->i<n1->ρ i≠k
theorem Post.merge{B n n' n1:Nat}{W:List Nat}{μ μ':Mu}{H H' H1:Qp}{w w':World}{ρ:Nat->Nat}{fk:List Nat}(QD:Ok B (fun i=>i<n) μ (Qu H) w)(hf:∀i,n<=i->μ i=none)(hp:Post B (fun i=>i<n) n n' W μ μ' H H' w w')(k:ze n n' n1 W μ μ' H H' H1 w' ρ fk):
 Post B (fun i=>i<n) n n1 W μ (ir n n1 ρ μ μ' (K8 μ' H' w' (YD H' n'++fk))) H H1 w w':=by
 have le1:=k.le;have hlow:∀i,i<n->ir n n1 ρ μ μ' (K8 μ' H' w' (YD H' n'++fk)) i=μ i:=fun i hi=>by unfold ir;rw[if_neg (by omega),if_neg (by omega)]
 have hhigh:∀i,n<i->i<n1->ir n n1 ρ μ μ' (K8 μ' H' w' (YD H' n'++fk)) i=μ' (ρ i):=fun i h1 h2=>by unfold ir;rw[if_neg (by omega),if_pos ⟨h1,h2⟩]
 have hmid:ir n n1 ρ μ μ' (K8 μ' H' w' (YD H' n'++fk)) n=some ⟨0,0,0,false,K8 μ' H' w' (YD H' n'++fk)⟩:=by unfold ir;rw[if_pos rfl]
 have hext:Ext μ (ir n n1 ρ μ μ' (K8 μ' H' w' (YD H' n'++fk))):=by
  intro i im QI;rcases Oe i n with h|h
  ·rw[hlow i h];exact QI
  ·rw[hf i h]at QI;cases QI
 generalize hM:ir n n1 ρ μ μ' (K8 μ' H' w' (YD H' n'++fk))=μ1 at *;have obj:=k.obj;rw[hM]at obj
 -- an object of the new heap: an XV one Y2 was left, the region, or one of the run
 have other:∀i o im,i<n->i ∉ W->Qu H i=some o->live o->μ i=some im->w'.heap[im.Zv]? =w.heap[im.Zv]? :=by
  intro i o im hi hw ho hl QI;refine hp.frame _ (QD.low i o im hi ho hl QI).1 fun q hq hqn Z8 QR hb=> ?_
  obtain⟨_,⟨oq,hoq,hlq⟩,im2,WA,hr⟩:=hp.wr q hq hqn;rw[QR]at WA;cases WA;by_cases hra:im.rw=true
  ·exact QD.inj q i oq o Z8 im hqn hi (fun e=>hw (e ▸ hq)) hoq ho hlq hl QR QI hr hra hb
  ·have a:=(QD.low i o im hi ho hl QI).2.2 (by simpa using hra);have b:=(QD.low q oq Z8 hqn hoq hlq QR).2.1 hr;omega
 have hS':∀i,i<n1->i≠n->(ρ i<n\/n<=ρ i/\ρ i<n'):=by
  intro i hi K1;rcases Oe i n with h|h
  ·exact .inl (by rw[k.id i h];exact h)
  ·exact .inr (k.rng i (by omega) hi)
 have hmuR:∀i,i<n1->i≠n->μ1 i=μ' (ρ i):=by
  intro i hi K1;rcases Oe i n with h|h
  ·rw[hlow i h,k.id i h,hp.ext i (by omega)]
  ·exact hhigh i (by omega) hi
 have VO:∀i,(i<n\/n<=i/\i<n1)->i<n1:=fun i hi=>hi.elim (fun e=>by omega) (fun e=>e.2)
 have liveH':∀i o1,i<n1->Qu H1 i=some o1->live o1->i≠n/\∃o,Qu H' (ρ i)=some o/\live o:=by
  intro i o1 hi ho hl;have K1:i≠n:=fun e=>by rw[e,k.Y0]at ho;cases ho;exact hl.elim
  refine⟨K1, ?_⟩;by_cases h:n<i\/i∈W/\i<n
  ·obtain⟨o,h1,h2,_⟩:=(obj i o1 hi h ho).2 hl;exact⟨o,h1,h2⟩
  ·have h1:i<n:=by omega
   have h2:i ∉ W:=fun e=>h (.inr ⟨e,h1⟩)
   rw[k.XV i h1 h2]at ho;exact⟨o1,by rw[k.id i h1,hp.keep i h1 h2];exact ho,hl⟩
 have hinj:∀i j,i<n1->j<n1->i≠n->j≠n->ρ i=ρ j->i=j:=by
  intro i j hi hj Y1 hjn e;rcases Oe i n with h|h <;> rcases Oe j n with h'|h'
  ·rw[k.id i h,k.id j h']at e;exact e
  ·have:=k.rng j (by omega) hj;rw[k.id i h]at e;omega
  ·have:=k.rng i (by omega) hi;rw[k.id j h']at e;omega
  ·exact k.inj i j (by omega) hi (by omega) hj e
 have regH1:∀i o,i<n1->Qu H1 i=some o->Ws o->i=n\/(i<n/\i ∉ W/\Qu H i=some o/\Qu H' i=some o):=by
  intro i o hi ho hr;by_cases K1:i=n
  ·exact .inl K1
  ·by_cases h:n<i\/i∈W/\i<n
   ·exact absurd hr (obj i o hi h ho).1
   ·have h1:i<n:=by omega
    have h2:i ∉ W:=fun e=>h (.inr ⟨e,h1⟩)
    rw[k.XV i h1 h2]at ho;exact .inr ⟨h1,h2,ho,by rw[hp.keep i h1 h2];exact ho⟩
 have deadW:∀q,q∈W->q<n->(∀o,Qu H' q=some o->¬live o)->∀o,Qu H1 q=some o->¬live o:=by
  intro q hq hqn hd o ho hl;obtain⟨_,o',h5,h6⟩:=liveH' q o (by omega) ho hl;rw[k.id q hqn]at h5;exact hd o' h5 h6
 -- what stands in the region
 have fmCase:∀b x,K8 μ' H' w' (YD H' n'++fk) b=some x->w'.heap[b]? =some x/\((∃r o im,r<n'/\Qu H' r=some o/\Ws o/\μ' r=some im/\im.fm b=some x)\/∃q o im,q∈fk/\Qu H' q=some o/\live o/\μ' q=some im/\im.Zv=b):=by
  intro b x h;have hw:=WR h;refine⟨hw, ?_⟩;unfold K8 at h;split at h
  ·rename_i hc;obtain⟨i,hi,o,im,ho,QI,Uv⟩:=hc;rcases List.mem_append.1 hi with hi|hi
   ·obtain⟨Xm,Km⟩:=nM.1 hi;obtain⟨o',UD,hr'⟩:=ZL Km;rw[ho]at UD;cases UD;rcases Uv with ⟨_,K1⟩|⟨hl,_⟩
    ·cases hx:im.fm b with
     |none=>exact absurd hx K1
     |some y=>
      obtain⟨Z8,QR,hf'⟩:=hp.ok.Y0 i o (by rcases Oe i n with h|h;exact .inl h;exact .inr ⟨h,Xm⟩) ho hr'
      rw[QI]at QR;cases QR;have:=hf' b y hx;rw[hw]at this;cases this;exact .inl ⟨i,o,im,Xm,ho,hr',QI,hx⟩
    ·exact absurd hl (by cases o <;> first|exact id|exact hr'.elim)
   ·obtain⟨h1,h2,⟨o',UD,hl'⟩,_⟩:=k.fz i hi;rw[ho]at UD;cases UD;rcases Uv with ⟨hr,_⟩|⟨hl,hb⟩
    ·exact absurd hl' (by cases o <;> first|exact id|exact hr.elim)
    ·exact .inr ⟨i,o,im,hi,ho,hl,QI,hb⟩
  ·cases h
 have hin':∀r,r<n'->(r<n\/n<=r/\r<n'):=fun r h=>by omega
 refine⟨⟨fun i o hi ho hl=> ?_,fun i o im hi ho hl QI=> ?_,fun i j oi oj a b hi hj Pr Wc Wb hli VW ha hb hra Km=> ?_,fun i o hi ho hr=> ?_,fun i j oi oj a b x hi hj Wc Wb Y8 VW ha hb Km hx=> ?_⟩,by omega,fun i hi=> ?_,fun i hi hw=>k.XV i hi hw,hp.grow,hp.frame,hp.wr,fun i im o h1 h2 ho hl QI=> ?_,fun i im o hi ho hr QI b x hx=> ?_,hp.os,hp.tape,hp.output⟩
 ·have hi1:=VO i hi;have K1:=(liveH' i o hi1 ho hl).1;by_cases h:n<i\/i∈W/\i<n
  ·obtain⟨o',h1,h2,h4⟩:=(obj i o hi1 h ho).2 hl;obtain⟨im,QI,ZU⟩:=hp.ok.rel (ρ i) o' (hS' i hi1 K1) h1 h2;exact⟨im,by rw[hmuR i hi1 K1];exact QI,h4 im QI ZU⟩
  ·have h1:i<n:=by omega
   have h2:i ∉ W:=fun e=>h (.inr ⟨e,h1⟩)
   rw[k.XV i h1 h2]at ho;obtain⟨im,QI,ZU⟩:=QD.rel i o h1 ho hl;exact⟨im,hext _ _ QI,ZU.keep hext (other i o im h1 h2 ho hl QI)⟩
 ·have hi1:=VO i hi;obtain⟨K1,o',h1,h2⟩:=liveH' i o hi1 ho hl;rw[hmuR i hi1 K1]at QI;exact hp.ok.low (ρ i) o' im (hS' i hi1 K1) h1 h2 QI
 ·have hi1:=VO i hi;have hj1:=VO j hj;obtain⟨hni,o1,h1,h2⟩:=liveH' i oi hi1 Wc hli;obtain⟨hnj,o2,h3,h4⟩:=liveH' j oj hj1 Wb VW;rw[hmuR i hi1 hni]at ha;rw[hmuR j hj1 hnj]at hb;exact hp.ok.inj (ρ i) (ρ j) o1 o2 a b (hS' i hi1 hni) (hS' j hj1 hnj) (fun e=>Pr (hinj i j hi1 hj1 hni hnj e)) h1 h3 h2 h4 ha hb hra Km
 ·rcases regH1 i o (VO i hi) ho hr with Y1|⟨h1,h2,h3,h4⟩
  ·rw[Y1];exact⟨_,hmid,fun b x h=>WR h⟩
  ·obtain⟨im,QI,hf'⟩:=hp.ok.Y0 i o (.inl h1) h4 hr;rw[hp.ext i (by omega)]at QI;exact⟨im,hext _ _ QI,hf'⟩
 ·have hj1:=VO j hj;obtain⟨hnj,o2,h3,h4⟩:=liveH' j oj hj1 Wb VW;rw[hmuR j hj1 hnj]at hb;rcases regH1 i oi (VO i hi) Wc Y8 with Y1|⟨h1,h2,h5,h6⟩
  ·rw[Y1,hmid]at ha;cases ha;obtain⟨_,Uv⟩:=fmCase _ _ hx;rcases Uv with ⟨r,o,im,Xm,ho,hr,QI,hfx⟩|⟨q,o,im,hq,ho,hl,QI,hbb⟩
   ·exact hp.ok.sep r (ρ j) o o2 im b x (hin' r Xm) (hS' j hj1 hnj) ho h3 hr h4 QI hb Km hfx
   ·obtain⟨q1,q2,_,q3⟩:=k.fz q hq;have K1:q≠ρ j:=by
     intro e;rcases Oe j n with h|h
     ·rw[k.id j h]at e;omega
     ·exact q3 j (by omega) hj1 e.symm
    have KY:=(hp.fresh q im o q1 q2 ho hl QI).1;exact hp.ok.inj q (ρ j) o o2 im b (hin' q q2) (hS' j hj1 hnj) K1 ho h3 hl h4 QI hb KY Km hbb
  ·rw[hlow i h1]at ha;exact hp.ok.sep i (ρ j) oi o2 a b x (.inl h1) (hS' j hj1 hnj) h6 h3 Y8 h4 (by rw[hp.ext i (by omega)];exact ha) hb Km hx
 ·rw[<-hM];unfold ir;rw[if_neg (by omega),if_neg (by omega)]
 ·obtain⟨K1,o',h3,h4⟩:=liveH' i o h2 ho hl;rw[hmuR i h2 K1]at QI;obtain⟨a,b⟩:=k.rng i (by omega) h2;obtain⟨hr,XC⟩:=hp.fresh (ρ i) im o' a b h3 h4 QI;exact⟨hr,XC.imp id fun⟨q,hq,hqn,hb,hd⟩=>⟨q,hq,hqn,hb,deadW q hq hqn hd⟩⟩
 ·have hi1:i<n1:=by omega
  rcases regH1 i o hi1 ho hr with Y1|⟨h1,h2,_⟩
  ·rw[Y1,hmid]at QI;cases QI;obtain⟨_,Uv⟩:=fmCase _ _ hx;rcases Uv with ⟨r,o,im,Xm,ho,hr,QI,hfx⟩|⟨q,o,im,hq,ho,hl,QI,hbb⟩
   ·by_cases hx:n<=r/\r<n'\/r∈W/\r<n
    ·rcases hp.rf r im o hx ho hr QI b x hfx with c|c|⟨q,hq,hqn,hb,hd⟩
     ·exact .inl c
     ·exact .inr (.inl c)
     ·exact .inr (.inr ⟨q,hq,hqn,hb,deadW q hq hqn hd⟩)
    ·have h:r<n:=by omega
     rw[hp.keep r h fun e=>hx (.inr ⟨e,h⟩)]at ho;rw[hp.ext r (by omega)]at QI;exact .inr (.inl ⟨r,im,o,h,h,ho,hr,QI,hfx⟩)
   ·obtain⟨q1,q2,_,_⟩:=k.fz q hq;rcases(hp.fresh q im o q1 q2 ho hl QI).2 with c|⟨q',hq',hqn,⟨Z8,QR,hb'⟩,hd⟩
    ·exact .inl (by omega)
    ·exact .inr (.inr ⟨q',hq',hqn,⟨Z8,QR,by omega⟩,deadW q' hq' hqn hd⟩)
  ·rcases hi with hi|hi
   ·omega
   ·exact absurd hi.1 h2
end Go.CE

namespace Go.CE
open Go Go.RowKit

section
variable (H:Qp) (m:Nat) (pos:Nat->Option Nat) (fz:List Fz)
def IY(v:Value):Option (Value×List Prop):=bif simple v then some (v,[])else match v with
 | .func (.via r ⟨[]⟩ 0 true) ⟨[t]⟩ ⟨[]⟩=>bif Xx (Qu H r) && WO t then some (Q6 ((pos r).getD m) t,[])else none
 | .pointer (some ⟨k,o,none⟩)=>match pos k with
   |some j=>some (.pointer (some ⟨j,o,none⟩),[])
   |none=>match gE fz k,Qu H k with
    |some x,some (.cells cs _ (0,0))=>bif x.rs.all fun r=>Xx (Qu H r)then some (Q6 m (Ra o x.cs),[XT x.rs cs x.cs])else none
    |_,_=>some (.chan none,[])
 | .slice (some ⟨k,o,none⟩) n z=>match pos k with
   |some j=>some (.slice (some ⟨j,o,none⟩) n z,[])
   |none=>match o,gE fz k,Qu H k with
    |0,some x,some (.cells cs _ (0,0))=>bif x.rs.all fun r=>Xx (Qu H r)then some (Q6 m (QO n x.cs),[XT x.rs cs x.cs])else none
    |_,_,_=>some (.chan none,[])
 | .map (some r)=>match pos r with
   |some j=>some (.map (some j),[])
   |none=>some (.chan none,[])
 | .func (.yield l) ⟨[]⟩ ⟨[]⟩=>match pos l with
   |some j=>some (.func (.yield j) #[] #[],[])
   |none=>some (.chan none,[])
 | .chan none=>some (.chan none,[])
 |_=>none
def oY(f:Value->Option (Value×List Prop)):List Value->Option (List Value×List Prop)
 |[]=>some ([],[])
 |v::l=>match f v with
  |some (t,L)=>match oY f l with
   |some (ts,L2)=>some (t::ts,L++L2)
   |none=>none
  |none=>none
def rp:Nat->Value->Option (Value×List Prop)
 |0,v=>IY H m pos fz v
 |f+1,v=>match v with
  | .agg xs=>match oY (rp f) xs.toList with
    |some (l,L)=>some (.agg l.toArray,L)
    |none=>none
  | .tuple xs=>match oY (rp f) xs.toList with
    |some (l,L)=>some (.tuple l.toArray,L)
    |none=>none
  | .iface t x=>match rp f x with
    |some (x,L)=>some (.iface t x,L)
    |none=>none
  | .func (.func g) xs ys=>match oY (rp f) xs.toList with
    |some (l,L)=>match oY (rp f) ys.toList with
     |some (k,L2)=>some (.func (.func g) l.toArray k.toArray,L++L2)
     |none=>none
    |none=>none
  |v=>IY H m pos fz v
def Nb(rs:List Nat)(v v1:Value):Prop:=(simple v=true/\v1=v)\/∃r∈rs,∃t,v=Q6 r t/\v1=Q6 m t/\WO t=true
def QK(rs:List Nat)(cs cs1:Array Value):Prop:=cs.size=cs1.size/\∀(i:Nat) v v1,cs[i]? =some v->cs1[i]? =some v1->Nb m rs v v1
end
theorem Qr{m:Nat}{rs:List Nat}{cs:Array Value}(h:∀v∈cs,simple v=true):QK m rs cs cs:=⟨rfl,fun i v v1 h1 h2=>by
 rw[h1]at h2;cases h2;exact .inl ⟨h v (Om h1),rfl⟩⟩
inductive gO (m:Nat) (rs:List (Nat×Nat)) (JW:List (Nat×Array Value)) (ow:List (Nat×Nat)):Value->Value->Prop
 |simple {v}:CE.simple v=true->gO m rs JW ow v v
 |Y0 {r j t}:(r,j)∈rs->WO t=true->gO m rs JW ow (Q6 r t) (Q6 j t)
 |own {k cs n c}:(k,cs)∈JW->gO m rs JW ow (.slice (some ⟨k,0,none⟩) n c) (Q6 m (QO n cs))
 |nil:gO m rs JW ow (.slice none 0 0) (Q6 m (QO 0 #[]))
 |keep {k j n c}:(k,j)∈ow->gO m rs JW ow (.slice (some ⟨k,0,none⟩) n c) (.slice (some ⟨j,0,none⟩) n c)
def AllX(m:Nat)(rs:List (Nat×Nat))(JW:List (Nat×Array Value))(ow:List (Nat×Nat)):List Value->List Value->Prop
 |[],[]=>True
 |v::l,u::k=>gO m rs JW ow v u/\AllX m rs JW ow l k
 |_,_=>False
def Xv(m:Nat)(rs:List (Nat×Nat))(JW:List (Nat×Array Value))(ow:List (Nat×Nat))(cs cs1:Array Value):Prop:=AllX m rs JW ow cs.toList cs1.toList
theorem AllX.get{m:Nat}{rs:List (Nat×Nat)}{JW:List (Nat×Array Value)}{ow:List (Nat×Nat)}:∀{l k:List Value},AllX m rs JW ow l k->k.length=l.length/\∀(i:Nat) v u,l[i]? =some v->k[i]? =some u->gO m rs JW ow v u
 |[],[],_=>⟨rfl,fun i v u h=>by simp at h⟩
 |v::l,u::k,h=>by
  obtain⟨a,b⟩:=AllX.get h.2;refine⟨by simp[a],fun i x y hx hy=> ?_⟩;cases i with
  |zero=>
   simp only[NQ,YO]at hx hy;subst hx hy;exact h.1
  |succ i=>exact b i x y (by simpa using hx) (by simpa using hy)
 |[],_::_,h=>h.elim
 |_::_,[],h=>h.elim
theorem AllX.append{m:Nat}{rs:List (Nat×Nat)}{JW:List (Nat×Array Value)}{ow:List (Nat×Nat)}:∀{l k l2 k2:List Value},AllX m rs JW ow l k->AllX m rs JW ow l2 k2->AllX m rs JW ow (l++l2) (k++k2)
 |[],[],_,_,_,h2=>h2
 |_::_,_::_,_,_,h,h2=>⟨h.1,AllX.append h.2 h2⟩
 |[],_::_,_,_,h,_=>h.elim
 |_::_,[],_,_,h,_=>h.elim
section
variable {B:Nat} {S:Nat->Prop} {H:Qp} {m:Nat} {pos:Nat->Option Nat} {fz:List Fz} {μ μ1:Mu} {w:World} {n':Nat} {fk:List Nat} {im1:aQ}
structure wE (H:Qp) (m:Nat) (pos:Nat->Option Nat) (fz:List Fz) (μ μ1:Mu) (w:World) (n':Nat) (fk:List Nat) (im1:aQ):Prop where
 ok:∃B S,Ok B S μ (Qu H) w/\∀i,i<n'->S i
 under:Under H n'
 here:∀k j,pos k=some j->μ1 j=μ k
 Y0:μ1 m=some im1
 fm:im1.fm=K8 μ H w (YD H n'++fk)
 sub:∀x∈fz,x.k∈fk
theorem fe:∀(l:List Fz) (k:Nat) (x:Fz),gE l k=some x->x∈l/\x.k=k
 |[],k,x,h=>by cases h
 |y::l,k,x,h=>by
  simp only[gE]at h;cases e:NH y.k k with
  |true=>
   rw[e]at h;simp only[cond_true,YO]at h;subst h;exact⟨by simp,YE e⟩
  |false=>
   rw[e]at h;obtain⟨h1,h2⟩:=fe l k x h;exact⟨NS _ h1,h2⟩
theorem BX(hu:Under H n'){r:Nat}(h:Xx (Qu H r)=true):r<n':=by
 obtain⟨o,ho,_⟩:=ZL h;exact hu.lt ho
theorem eh(c:wE H m pos fz μ μ1 w n' fk im1){r:Nat}(hr:Xx (Qu H r)=true){im:aQ}(QI:μ r=some im){b:Nat}{x:Obj}(hx:im.fm b=some x):im1.fm b=some x:=by
 obtain⟨B,S,QD,hS⟩:=c.ok;rw[c.fm];have Xm:=BX c.under hr;exact iL QD (NK _ (nM.2 ⟨Xm,hr⟩)) (hS r Xm) hr QI hx
theorem gG(c:wE H m pos fz μ μ1 w n' fk im1){rs:List Nat}(WK:(rs.all fun r=>Xx (Qu H r))=true){v v1 v':Value}(h:nu rs v v1)(hv:VR μ v v'):TRv im1.fm v1 v':=by
 rcases h with ⟨h1,rfl⟩|⟨r,hr,rfl,_⟩
 ·rw[simple_eq h1 hv];exact .simple h1
 ·obtain⟨im,QI,ht⟩:=hv.top_inv;exact ht.mono fun b x hx=>eh c (List.all_eq_true.1 WK r hr) QI hx
theorem R5(c:wE H m pos fz μ μ1 w n' fk im1){v v' t:Value}{L:List Prop}(h:IY H m pos fz v=some (t,L))(hL:Q7 L)(hv:VR μ v v'):VR μ1 t v':=by
 obtain⟨B,S,QD,hS⟩:=c.ok;have addr:∀{k j o:Nat} {a':Addr},pos k=some j->AR μ ⟨k,o,none⟩ a'->AR μ1 ⟨j,o,none⟩ a':=by
  rintro k j o a' hp ⟨im,h1,h2,h3⟩;exact⟨im,by rw[c.here k j hp];exact h1,rfl,h3⟩
 unfold IY at h;cases hs:simple v with
 |true=>
  rw[hs]at h;simp only[cond_true,YO,YR]at h;obtain⟨rfl,rfl⟩:=h;rw[simple_eq hs hv];exact ZV hs
 |false=>
  rw[hs]at h;simp only[cond_false]at h;split at h
  ·rename_i r t0;cases hg:(Xx (Qu H r) && WO t0)with
   |false=>rw[hg]at h;cases h
   |true=>
    rw[hg]at h;simp only[cond_true,YO,YR]at h;obtain⟨rfl,rfl⟩:=h;simp only[YB]at hg;obtain⟨im,QI,ht⟩:=VR.top_inv (r:=r) (t:=t0) hv;cases hp:pos r with
    |none=>exact .top hg.2 c.Y0 (ht.mono fun b x hx=>eh c hg.1 QI hx)
    |some j=>exact .top hg.2 (by rw[Option.getD_some,c.here r j hp];exact QI) ht
  ·rename_i k o;split at h
   ·rename_i j hj;simp only[YO,YR]at h;obtain⟨rfl,rfl⟩:=h;cases hv with
    |ptr har=>exact .ptr (addr hj har)
   ·split at h
    ·rename_i x cs ty hx hg;cases hr:(x.rs.all fun r=>Xx (Qu H r))with
     |false=>rw[hr]at h;cases h
     |true=>
      rw[hr]at h;simp only[cond_true,YO,YR]at h;obtain⟨rfl,rfl⟩:=h;obtain⟨⟨h2,h3⟩,_⟩:=hL;obtain⟨hxm,hxk⟩:=fe _ _ _ hx;have hkf:k∈fk:=hxk ▸ c.sub x hxm;obtain⟨im,arr,QI,_,hoff,harr,hle,_,hcells⟩:=a9 QD (hS k (c.under.lt hg)) hg;cases hv with
      |ptr har=>
       obtain⟨im2,WA,_,rfl⟩:=har;rw[QI]at WA;cases WA;rw[hoff];refine .top rfl c.Y0 (TRv.ptr (o:=0) (by rw[c.fm];exact(iM (NT _ hkf) hg trivial QI).trans harr) (fun i hi=>by omega) fun i v v' hv ZY=> ?_);simp only[Ob]at ZY;have hi:i<cs.size:=by rw[h2];exact(Array.getElem?_eq_some_iff.1 hv).1
       obtain⟨u,St,hu2⟩:=hcells i cs[i] (by simp[hi]);rw[ZY]at St;cases St;exact gG c hr (h3 i _ _ (by simp[hi]) hv) hu2
    ·simp only[YO,YR]at h;obtain⟨rfl,rfl⟩:=h;cases hv;exact .K0 (fun b e=>by cases e) rfl rfl
  ·rename_i k o n z;split at h
   ·rename_i j hj;simp only[YO,YR]at h;obtain⟨rfl,rfl⟩:=h;cases hv with
    |slice har a b d=>
     refine .slice (addr hj har) a b fun hz im QI KY hoff=>d hz im ?_ KY hoff
     rw[<-c.here k j hj];exact QI
   ·split at h
    ·rename_i x cs ty hx hg;cases hr:(x.rs.all fun r=>Xx (Qu H r))with
     |false=>rw[hr]at h;cases h
     |true=>
      rw[hr]at h;simp only[cond_true,YO,YR]at h;obtain⟨rfl,rfl⟩:=h;obtain⟨⟨h2,h3⟩,_⟩:=hL;obtain⟨hxm,hxk⟩:=fe _ _ _ hx;have hkf:k∈fk:=hxk ▸ c.sub x hxm;obtain⟨im,arr,QI,_,hoff,harr,hle,_,hcells⟩:=a9 QD (hS k (c.under.lt hg)) hg;cases hv with
      |slice har a b _=>
       obtain⟨im2,WA,_,rfl⟩:=har;rw[QI]at WA;cases WA;rw[hoff];refine .top rfl c.Y0 (TRv.slice (o:=0) a b (by rw[c.fm];exact(iM (NT _ hkf) hg trivial QI).trans harr) (fun i hi=>by omega) fun i v v' hv ZY=> ?_);simp only[Ob]at ZY;have hi:i<cs.size:=by rw[h2];exact(Array.getElem?_eq_some_iff.1 hv).1
       obtain⟨u,St,hu2⟩:=hcells i cs[i] (by simp[hi]);rw[ZY]at St;cases St;exact gG c hr (h3 i _ _ (by simp[hi]) hv) hu2
    ·simp only[YO,YR]at h;obtain⟨rfl,rfl⟩:=h;cases hv;exact .K0 (fun b e=>by cases e) rfl rfl
  ·rename_i r;split at h
   ·rename_i j hj;simp only[YO,YR]at h;obtain⟨rfl,rfl⟩:=h;cases hv with
    |map hr=>exact .map (by rw[c.here r j hj];exact hr)
   ·simp only[YO,YR]at h;obtain⟨rfl,rfl⟩:=h;cases hv;exact .K0 (fun b e=>by cases e) rfl rfl
  ·rename_i l;split at h
   ·rename_i j hj;simp only[YO,YR]at h;obtain⟨rfl,rfl⟩:=h;cases hv with
    |yield hl=>exact .yield (by rw[c.here l j hj];exact hl)
   ·simp only[YO,YR]at h;obtain⟨rfl,rfl⟩:=h;cases hv;exact .K0 (fun b e=>by cases e) rfl rfl
  ·simp only[YO,YR]at h;obtain⟨rfl,rfl⟩:=h;cases hv with
   |K0 a b c=>exact .K0 a b c
  ·cases h
theorem fo{f:Value->Option (Value×List Prop)}(hf:∀v v' t L,f v=some (t,L)->Q7 L->VR μ v v'->VR μ1 t v'):∀(l ts:List Value) (L:List Prop) (l':List Value),oY f l=some (ts,L)->Q7 L->l.length=l'.length->(∀(i:Nat) v v',l[i]? =some v->l'[i]? =some v'->VR μ v v')->
 ts.length=l'.length/\∀(i:Nat) v v',ts[i]? =some v->l'[i]? =some v'->VR μ1 v v'
 |[],ts,L,l',h,hL,hl,hv=>by
  simp only[oY,YO,YR]at h;obtain⟨rfl,rfl⟩:=h;exact⟨hl,fun i v v' h=>by simp at h⟩
 |v::l,ts,L,[],h,hL,hl,hv=>by simp at hl
 |v::l,ts,L,v'::l',h,hL,hl,hv=>by
  simp only[oY]at h;split at h
  ·rename_i t L1 h1;split at h
   ·rename_i ts2 L2 h2;simp only[YO,YR]at h;obtain⟨rfl,rfl⟩:=h;obtain⟨a,b⟩:=Xg hL;have k1:=hf v v' t L1 h1 a (hv 0 v v' rfl rfl);obtain⟨k2,k3⟩:=fo hf l ts2 L2 l' h2 b (by simpa using hl) fun i u u' x y=>hv (i+1) u u' (by simpa using x) (by simpa using y)
    refine⟨by simp[k2],fun i u u' x y=> ?_⟩;cases i with
    |zero=>
     simp only[NQ,YO]at x y;subst x y;exact k1
    |succ i=>exact k3 i u u' (by simpa using x) (by simpa using y)
   ·cases h
  ·cases h
theorem VI(c:wE H m pos fz μ μ1 w n' fk im1):∀(f:Nat) (v v' t:Value) (L:List Prop),rp H m pos fz f v=some (t,L)->Q7 L->VR μ v v'->VR μ1 t v'
 |0,v,v',t,L,h,hL,hv=>R5 c h hL hv
 |f+1,v,v',t,L,h,hL,hv=>by
  have arr:∀{xs xs':Array Value} {l:List Value} {L:List Prop},oY (rp H m pos fz f) xs.toList=some (l,L)->Q7 L->xs.size=xs'.size->(∀(i:Nat) v v',xs[i]? =some v->xs'[i]? =some v'->VR μ v v')->l.toArray.size=xs'.size/\∀(i:Nat) v v',l.toArray[i]? =some v->xs'[i]? =some v'->VR μ1 v v':=by
   intro xs xs' l L h hL hs hx;obtain⟨a,b⟩:=fo (fun v v' t L=>VI c f v v' t L) xs.toList l L xs'.toList h hL (by simpa using hs) fun i v v' x y=>hx i v v' (by simpa using x) (by simpa using y)
   exact⟨by simpa using a,fun i v v' x y=>b i v v' (by simpa using x) (by simpa using y)⟩
  cases v with
  |agg xs=>
   simp only[rp]at h;split at h
   ·rename_i l L1 hl;simp only[YO,YR]at h;obtain⟨rfl,rfl⟩:=h;cases hv with
    |agg h1 h2=>exact .agg (arr hl hL h1 h2).1 (arr hl hL h1 h2).2
   ·cases h
  |tuple xs=>
   simp only[rp]at h;split at h
   ·rename_i l L1 hl;simp only[YO,YR]at h;obtain⟨rfl,rfl⟩:=h;cases hv with
    |tuple h1 h2=>exact .tuple (arr hl hL h1 h2).1 (arr hl hL h1 h2).2
   ·cases h
  |iface ty x=>
   simp only[rp]at h;split at h
   ·rename_i l L1 hl;simp only[YO,YR]at h;obtain⟨rfl,rfl⟩:=h;cases hv with
    |iface hv=>exact .iface (VI c f _ _ _ _ hl hL hv)
   ·cases h
  |func fn xs ys=>
   cases fn with
   |func g=>
    simp only[rp]at h;split at h
    ·rename_i l L1 hl;split at h
     ·rename_i k L2 hk;simp only[YO,YR]at h;obtain⟨rfl,rfl⟩:=h;obtain⟨a,b⟩:=Xg hL;cases hv with
      |func h1 h2 h3 h4=>
       have k1:=arr hl a h1 h3;have k2:=arr hk b h2 h4;exact .func k1.1 k2.1 k1.2 k2.2
     ·cases h
    ·cases h
   |_=>exact R5 (fz:=fz) c (by exact h) hL hv
  |_=>exact R5 (fz:=fz) c (by exact h) hL hv
end
inductive KS where
 |auto
 |cells (rs:List Nat) (cs:Array Value)
 |same
 |dead
 |rows (rs:List (Nat×Nat)) (ks:List Nat) (ow:List (Nat×Nat)) (cs:Array Value)
def F2(pos:Nat->Option Nat)(p:Nat×Nat):Bool:=match pos p.1 with
 |some j=>NH j p.2
 |none=>false
def FZ(H:Qp)(pos:Nat->Option Nat)(fz:List Fz):List Nat->Option (List (Nat×Array Value)×List Prop)
 |[]=>some ([],[])
 |k::l=>match pos k,gE fz k,Qu H k with
  |none,some x,some (.cells cs _ (0,0))=>bif x.rs.all fun r=>Xx (Qu H r)then match FZ H pos fz l with
   |some (JW,L)=>some ((k,x.cs)::JW,XT x.rs cs x.cs::L)
   |none=>none
    else none
  |_,_,_=>none
theorem wy{H:Qp}{m:Nat}{pos:Nat->Option Nat}{fz:List Fz}:∀(ks:List Nat) (JW:List (Nat×Array Value)) (L:List Prop),FZ H pos fz ks=some (JW,L)->Q7 L->∀k cs n c,(k,cs)∈JW->∃L',IY H m pos fz (.slice (some ⟨k,0,none⟩) n c)=some (Q6 m (QO n cs),L')/\Q7 L'
 |[],JW,L,h,hL,k,cs,n,c,hm=>by
  simp only[FZ,YO,YR]at h;obtain⟨rfl,rfl⟩:=h;simp at hm
 |k0::l,JW,L,h,hL,k,cs,n,c,hm=>by
  simp only[FZ]at h;split at h
  ·rename_i x cs0 t0 h1 h2 h3;cases hr:(x.rs.all fun r=>Xx (Qu H r))with
   |false=>rw[hr]at h;cases h
   |true=>
    rw[hr]at h;simp only[cond_true]at h;split at h
    ·rename_i frs2 L2 h4;simp only[YO,YR]at h;obtain⟨rfl,rfl⟩:=h;rcases List.mem_cons.1 hm with e|e
     ·simp only[YR]at e;obtain⟨rfl,rfl⟩:=e;refine⟨[XT x.rs cs0 x.cs], ?_,hL.1,trivial⟩;unfold IY;have hs:simple (.slice (some ⟨k,0,none⟩) n c)=false:=rfl;rw[hs];simp only[cond_false,h1,h2,h3,hr,cond_true]
     ·exact wy l frs2 L2 h4 hL.2 k cs n c e
    ·cases h
  ·cases h
def Ms(H:Qp)(m:Nat)(pos:Nat->Option Nat)(fz:List Fz):Option Obj->KS->Option (Obj×List Prop)
 |some (.cells cs t fl),.auto=>match oY (rp H m pos fz 3) cs.toList with
  |some (l,L)=>some (.cells l.toArray t fl,L)
  |none=>none
 |some (.cells cs t fl),.cells rs cs1=>bif rs.all fun r=>Xx (Qu H r)then some (.cells cs1 t fl,[QK m rs cs cs1])else none
 |some (.cells cs t fl),.rows rs ks ow cs1=>bif (rs.all fun p=>Xx (Qu H p.1) && NH ((pos p.1).getD m) p.2) && ow.all (F2 pos)then match FZ H pos fz ks with
  |some (JW,L)=>some (.cells cs1 t fl,Xv m rs JW ow cs cs1::L)
  |none=>none
   else none
 |some (.map es JX),.same=>some (.map es JX,[XH es])
 |some (.loop r),.auto=>match oY (rp H m pos fz 3) r.tmps.toList with
  |some (l,L)=>some (.loop {r with tmps:=l.toArray},L)
  |none=>none
 |some (.deferred ds),.same=>some (.deferred ds,[])
 |some (.pending _ _),.dead=>some (.pending #[] 0,[])
 |_,_=>none
theorem R6{H:Qp}{m:Nat}{pos:Nat->Option Nat}{fz:List Fz}{μ μ1:Mu}{w:World}{n':Nat}{fk:List Nat}{im1:aQ}(c:wE H m pos fz μ μ1 w n' fk im1){o:Option Obj}{s:KS}{o1:Obj}{L:List Prop}(h:Ms H m pos fz o s=some (o1,L))(hL:Q7 L):
 (∃x,o=some x)/\¬Ws o1/\(live o1->∃x,o=some x/\live x/\∀im,OR μ w im x->OR μ1 w im o1):=by
 have cells:∀{cs cs1:Array Value} {t:TypeId} {fl:Nat×Nat},cs1.size=cs.size->(∀(i:Nat) v v1 v',cs[i]? =some v->cs1[i]? =some v1->VR μ v v'->VR μ1 v1 v')->∀im,OR μ w im (.cells cs t fl)->OR μ1 w im (.cells cs1 t fl):=by
  intro cs cs1 t fl hs hc im ZU;have get:∀(i:Nat) v1,cs1[i]? =some v1->∃v,cs[i]? =some v:=fun i v1 h=>by
   have:=(Array.getElem?_eq_some_iff.1 h).1;exact⟨cs[i],by simp[show i<cs.size by omega]⟩
  rcases ZU with ⟨h1,h2,h3,arr,h4,h5,h6,h7⟩|⟨h1,h2⟩
  ·refine .inl ⟨h1,h2,h3,arr,h4,by omega,h6,fun i v1 hv1=> ?_⟩;obtain⟨v,hv⟩:=get i v1 hv1;obtain⟨v',a,b⟩:=h7 i v hv;exact⟨v',a,hc i v v1 v' hv hv1 b⟩
  ·refine .inr ⟨h1,fun i v1 hv1=> ?_⟩;obtain⟨v,hv⟩:=get i v1 hv1;obtain⟨v',a,b⟩:=h2 i v hv;exact⟨v',a,hc i v v1 v' hv hv1 b⟩
 unfold Ms at h;split at h
 ·rename_i cs t fl;split at h
  ·rename_i l L1 hl;simp only[YO,YR]at h;obtain⟨rfl,rfl⟩:=h;have key:∀(l ts:List Value) (L:List Prop),oY (rp H m pos fz 3) l=some (ts,L)->Q7 L->ts.length=l.length/\∀(i:Nat) v v1 v',l[i]? =some v->ts[i]? =some v1->VR μ v v'->VR μ1 v1 v':=by
    intro l;induction l with
    |nil=>
     intro ts L h hL;simp only[oY,YO,YR]at h;obtain⟨rfl,rfl⟩:=h;exact⟨rfl,fun i v v1 v' h=>by simp at h⟩
    |cons v l ih=>
     intro ts L h hL;simp only[oY]at h;split at h
     ·rename_i t L1 h1;split at h
      ·rename_i ts2 L2 h2;simp only[YO,YR]at h;obtain⟨rfl,rfl⟩:=h;obtain⟨a,b⟩:=Xg hL;obtain⟨k1,k2⟩:=ih ts2 L2 h2 b;refine⟨by simp[k1],fun i u u1 u' x y hr=> ?_⟩;cases i with
       |zero=>
        simp only[NQ,YO]at x y;subst x y;exact VI c 3 _ _ _ _ h1 a hr
       |succ i=>exact k2 i u u1 u' (by simpa using x) (by simpa using y) hr
      ·cases h
     ·cases h
   obtain⟨k1,k2⟩:=key _ _ _ hl hL;refine⟨⟨_,rfl⟩,id,fun _=> ?_⟩;exact⟨_,rfl,trivial,cells (by simpa using k1) fun i v v1 v' x y=>k2 i v v1 v' (by simpa using x) (by simpa using y)⟩
  ·cases h
 ·rename_i cs t fl rs cs1;cases hr:(rs.all fun r=>Xx (Qu H r))with
  |false=>rw[hr]at h;cases h
  |true=>
   rw[hr]at h;simp only[cond_true,YO,YR]at h;obtain⟨rfl,rfl⟩:=h;obtain⟨⟨h1,h2⟩,_⟩:=hL;refine⟨⟨_,rfl⟩,id,fun _=> ?_⟩;refine⟨_,rfl,trivial,cells h1.symm fun i v v1 v' x y hv=> ?_⟩;rcases h2 i v v1 x y with ⟨hs,rfl⟩|⟨r,hrm,t,rfl,rfl,ht⟩
   ·rw[simple_eq hs hv];exact ZV hs
   ·obtain⟨im,QI,htr⟩:=hv.top_inv;exact .top ht c.Y0 (htr.mono fun b x hx=>eh c (List.all_eq_true.1 hr r hrm) QI hx)
 ·rename_i cs t fl rs ks ow cs1;cases hr0:((rs.all fun p=>Xx (Qu H p.1) && NH ((pos p.1).getD m) p.2) && ow.all (F2 pos))with
  |false=>rw[hr0]at h;cases h
  |true=>
   rw[hr0]at h;simp only[cond_true]at h;simp only[YB]at hr0;obtain⟨hr,how⟩:=hr0;split at h
   ·rename_i JW L2 hks;simp only[YO,YR]at h;obtain⟨rfl,rfl⟩:=h;obtain⟨hx,hL2⟩:=hL;obtain⟨h1,h2⟩:=AllX.get hx;refine⟨⟨_,rfl⟩,id,fun _=> ?_⟩;refine⟨_,rfl,trivial,cells (by simpa using h1) fun i v v1 v' x y hv=> ?_⟩;have hc:=h2 i v v1 (by simpa using x) (by simpa using y);cases hc with
    |simple hs=>rw[simple_eq hs hv];exact ZV hs
    |Y0 hm ht=>
     rename_i r j t0;have:=List.all_eq_true.1 hr _ hm;simp only[YB]at this;have e:IY H m pos fz (Q6 r t0)=some (Q6 j t0,[]):=by
      have hs:simple (Q6 r t0)=false:=rfl;unfold IY;rw[hs];simp only[cond_false,Q6,this.1,ht,Bool.and_self,cond_true,YE this.2]
     exact R5 c e trivial hv
    |own hm=>
     obtain⟨L',e,hL'⟩:=wy ks JW L2 hks hL2 _ _ _ _ hm;exact R5 c e hL' hv
    |nil=>
     cases hv;exact .top rfl c.Y0 .nil
    |keep hm=>
     have hk:=List.all_eq_true.1 how _ hm;unfold F2 at hk;split at hk
     ·rename_i j0 hj0;have hk:=YE hk;have e:=c.here _ _ hj0;rw[hk]at e;cases hv with
      |slice har h1 h2 h3=>
       obtain⟨im,hi,_,rfl⟩:=har;refine .slice ⟨im,e.trans hi,rfl,rfl⟩ h1 h2 fun hs Z8 QR=> ?_
       rw[e]at QR;exact h3 hs Z8 QR
     ·cases hk
   ·cases h
 ·rename_i es JX;simp only[YO,YR]at h;obtain⟨rfl,rfl⟩:=h;obtain⟨hp,_⟩:=hL;refine⟨⟨_,rfl⟩,id,fun _=> ?_⟩;refine⟨_,rfl,trivial,fun im ZU=> ?_⟩;obtain⟨h1,UQ,h2,h3,h4⟩:=ZU;refine⟨h1,UQ,h2,h3,fun i e e' x y=> ?_⟩;obtain⟨p,q,r,s⟩:=h4 i e e' x y;have hs:=hp i e x;exact⟨p,q,r,by rw[RA hs s];exact Jk hs⟩
 ·rename_i r;split at h
  ·rename_i l L1 hl;simp only[YO,YR]at h;obtain⟨rfl,rfl⟩:=h;refine⟨⟨_,rfl⟩,id,fun _=> ?_⟩;refine⟨_,rfl,trivial,fun im ZU=> ?_⟩;obtain⟨h1,tm,df,h2,h3⟩:=ZU;obtain⟨a,b⟩:=fo (fun v v' t L=>VI c 3 v v' t L) r.tmps.toList l L1 tm.toList hl hL (by simpa using h3.1) fun i v v' x y=>h3.2 i v v' (by simpa using x) (by simpa using y)
   exact⟨h1,tm,df,h2,by simpa using a,fun i v v' x y=>b i v v' (by simpa using x) (by simpa using y)⟩
  ·cases h
 ·rename_i ds;simp only[YO,YR]at h;obtain⟨rfl,rfl⟩:=h;exact⟨⟨_,rfl⟩,id,fun _=>⟨_,rfl,trivial,fun im ZU=>ZU⟩⟩
 ·simp only[YO,YR]at h;obtain⟨rfl,rfl⟩:=h;exact⟨⟨_,rfl⟩,id,fun hl=>hl.elim⟩
 ·cases h
end Go.CE
