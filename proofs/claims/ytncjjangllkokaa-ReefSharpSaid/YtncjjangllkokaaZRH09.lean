/- TW 3: operations on trees. -/
import Derived.Test.YtncjjangllkokaaZRH08
set_option linter.all false
open Nat renaming beq->Lf,blt->Ls,min->LU,ble->LP,le_refl->LH,zero_add->LB,lt_or_ge->LJ
open Array renaming getElem?_extract->LX,mem_of_getElem? ->LL,getElem?_toList->Lr
open Option renaming map_some->LI
open List renaming length->Lc,getElem?_append_right->Ll,range'->LK,mem_append_left->Lm,mem_append_right->Lx,range->Lg,getElem?_cons_zero->Lv,mem_cons_of_mem->Lw
namespace Go.CE
open Go Go.RowKit

inductive Qh where
 |XD (h:Hint)
 |tidx (k:Nat) (es:Array Value)
 |tarr (k:Nat) (es:Array Value)
 |tslc (k m':Nat) (cs':Array Value)
 |tapp (cs':Array Value)
 |tapp0
 |tcpy (cs':Array Value)
 |pure (out:Value) (fz:List Fz)
 |pureK (out:Value) (fz:List Fz)
 |bin (v:Value)
 |call (keys:List Nat) (out:OO) (Yp:Qq) (n':Nat) (W:List Nat)
 |eval (s:Rs)
 |wri (κ R:List Nat) (ps qs:List Bool) (out:OO) (outs news:List Obj)
 |tnil
 |wriC (κ R:List Nat) (ps qs:List Bool) (out:OO) (outs news:List Obj) (o2:OO)
def killL(H:Qq):List Nat->Qq
 |[]=>H
 |k::K=>aE (killL H K) (some k)
def bP:Option Obj->Bool
 |some (.cells _ _ (0,0))=>true
 |_=>false
def Bh(P:Program)(T:Tm)(o:Oper):Option (Value×Nat):=match o.op with
 | .call c=>match c.callee with
   | .builtin .len=>match c.args.toList,c.argTypes.toList with
     |[x],[t]=>match Zd T x with
      |some v=>match jt v,Rx P t with
       |some (r,k,_),some (.slice _)=>some (.int .i64 k,r)
       |_,_=>none
      |none=>none
     |_,_=>none
   |_=>none
 | .fieldAddr s x f=>match Zd T x with
   |some v=>match vt v with
    |some (r,off,cs)=>match Wm P s f (.pointer (some ⟨0,off,none⟩))with
     |some (.pointer (some ⟨0,off',none⟩))=>some (Qw r (SQ off' cs),r)
     |_=>none
    |none=>none
   |none=>none
 | .load t x=>match Zd T x with
   |some v=>match vt v with
    |some (r,off,cs)=>match Y8 P t cs off with
     |some v=>bif tL 4 v then some (Q2 r 4 v,r)else none
     |none=>none
    |none=>none
   |none=>none
 |_=>none
def YZ:Value->Bool
 | .slice none 0 0| .chan (some 0)=>true
 |_=>false
def cl(P:Program)(T:Tm)(o:Oper):Option (Value×Nat×Nat×Array Value×TypeId×Nat×Nat×Value):=match o.op with
 | .call c=>match c.callee with
   | .builtin .append=>match c.args.toList,c.argTypes.toList with
     |[s,x],[t,t']=>match Zd T s,Zd T x with
      |some sv,some xv=>match jt xv,Rx P t with
       |some (r,k,cs),some (.slice e)=>match inf P e with
        |some i=>match i.zero,i.size with
         |some zv,z+1=>bif Lf t t' && YZ sv && Lf zv.cells.size (z+1)then some (sv,r,k,cs,e,z+1,i.bytes,zv)else none
         |_,_=>none
        |none=>none
       |_,_=>none
      |_,_=>none
     |_,_=>none
   |_=>none
 |_=>none
def lv(P:Program)(T:Tm)(o:Oper):Option (Nat×Nat×Nat×Nat×Nat×Array Value×Nat):=match o.op with
 | .call c=>match c.callee with
   | .builtin .copy=>match c.args.toList,c.argTypes.toList with
     |[s,x],[t,_]=>match Zd T s,Zd T x with
      |some (.slice (some ⟨b,off,none⟩) k _),some xv=>match jt xv,Rx P t with
       |some (r,m,cs2),some (.slice e)=>match W6 P e with
        |some z=>some (b,off,k,r,m,cs2,z)
        |none=>none
       |_,_=>none
      |_,_=>none
     |_,_=>none
   |_=>none
 |_=>none
def qD(P:Program)(op:BinOp)(t:TypeId)(a b v:Value):Prop:=∀(x y:Operand) (w:World),(do eqGuard op t x y a b;binOp op t a b:Sem Value).run P w=.ok v w
def opT(P:Program)(F:FuncId->Bool)(J:World->Prop)(B:Lo)(T:Tm)(o:Oper)(H:Qq)(n:Nat):Option Qh->Option Told
 |none=>match Bh P T o with
  |some (v,r)=>bif Ls r n && X0 (Qt H r)then some ⟨⟨.ret v,H,n,[r],[]⟩,none⟩else none
  |none=>opH P F B T o H n none
 |some (.XD h)=>opH P F B T o H n (some h)
 |some (.tidx k es)=>match o.op with
  | .indexAddr t x i=>match Zd T x,Zd T i with
    |some v,some (.int _ q)=>match jt v,Rx P t with
     |some (r,m,cs),some (.slice e)=>match W6 P e with
      |some z=>bif Ls r n && X0 (Qt H r)then some ⟨⟨.ret (Qw r (SQ 0 es)),H,n,[r],[]⟩,some (q=(k:Int)/\k<m/\cs.extract (k*z) (k*z+z)=es)⟩else none
      |none=>none
     |_,_=>none
    |_,_=>none
  |_=>none
 |some (.tarr k es)=>match o.op with
  | .indexAddr t x i=>match Zd T x,Zd T i with
    |some v,some (.int _ q)=>match vt v,Rx P t with
     |some (r,off,cs),some (.array m e)=>match W6 P e with
      |some z=>bif Ls r n && X0 (Qt H r)then some ⟨⟨.ret (Qw r (SQ 0 es)),H,n,[r],[]⟩,some (q=(k:Int)/\k<m/\cs.extract (off+k*z) (off+k*z+z)=es)⟩else none
      |none=>none
     |_,_=>none
    |_,_=>none
  |_=>none
 |some (.tslc k m' cs')=>match o.op with
  | .slice t x (some lo) none none=>match Zd T x,Zd T lo with
    |some v,some (.int _ q)=>match jt v,Rx P t with
     |some (r,m,cs),some (.slice e)=>match W6 P e with
      |some z=>bif Ls r n && X0 (Qt H r)then some ⟨⟨.ret (Qw r (QC m' cs')),H,n,[r],[]⟩,some (q=(k:Int)/\k<m/\m'=m-k/\cs.extract (k*z) cs.size=cs')⟩else none
      |none=>none
     |_,_=>none
    |_,_=>none
  |_=>none
 |some (.tapp cs')=>match cl P T o with
  |some (_,r,k,cs,e,z,by',_)=>bif Ls r n && X0 (Qt H r)then
   some ⟨⟨.ret (.slice (some ⟨n,0,none⟩) k z),(n,.cells cs' e (0,0))::H,n+1,[r],[]⟩,some (0<k/\k<=maxLen/\k*by'<=140737488355328/\cs.size=k*z/\cs.map (Wc r)=cs'/\(cs.all fun v=>simple v || WU v)=true/\ones cs'=true)⟩else none
  |none=>none
 |some .tapp0=>match cl P T o with
  |some (sv,r,k,_,_,_,_,_)=>bif Ls r n && X0 (Qt H r)then some ⟨⟨.ret sv,H,n,[r],[]⟩,some (k=0)⟩else none
  |none=>none
 |some (.tcpy cs')=>match lv P T o with
  |some (b,off,k,r,m,cs2,z)=>match Qt H b with
   |some (.cells cs te (0,0))=>bif Ls r n && X0 (Qt H r) && Ls b n then
    some ⟨⟨.ret (.int .i64 (LU m k)),VE H b (.cells cs' te (0,0)),n,[b,r],[b]⟩,some (0<m/\off+LU m k*z<=cs.size/\LU m k*z<=cs2.size/\(cs2.all fun v=>simple v || WU v)=true/\ones ((cs2.extract 0 (LU m k*z)).map (Wc r))=true/\splice cs off ((cs2.extract 0 (LU m k*z)).map (Wc r))=cs')⟩else none
   |_=>none
  |none=>none
 |some (.eval s)=>some ⟨s,some (di P F Xy (fun _ _ _=>none) T o H n=some s)⟩
 |some (.bin v)=>match o.op with
  | .binOp op t x y _=>match Zd T x,Zd T y with
    |some a,some b=>bif af a && af b && af v then some ⟨⟨.ret v,H,n,[],[]⟩,some (qD P op t a b v)⟩else none
    |_,_=>none
  |_=>none
 |some (.call keys out Yp n' W)=>match o.op with
  | .call _=>match Rq P F (Zd T) o H n with
    |some ⟨.enter g args,H1,n1,R,W1⟩=>bif Lf n1 n && W1.isEmpty then
     match Wa P g args with
     |some c1=>some ⟨⟨out,Yp++H1,n',R++keys,W⟩,some (FJ P B c1 H1 n out (Yp++H1) n' keys W)⟩
     |none=>none
      else none
    |some ⟨.round l fn tm a b,H1,n1,R,W1⟩=>bif Lf n1 n && W1.isEmpty && LP tm.size 16000 then some ⟨⟨out,Yp++H1,n',R++keys,W⟩,some (FJ P B ⟨fn,ofList tm.size tm.toList,[.code a,.beginRound,.code b],[],.run,some l⟩ H1 n out (Yp++H1) n' keys W)⟩else none
    |_=>none
  |_=>none
 |some (.pure out fz)=>match o.op with
  | .call _=>match Rq P F (Zd T) o H n with
    |some ⟨.enter g args,H1,n1,R,W1⟩=>bif Lf n1 n && W1.isEmpty then
     match K5 (VT H1 fz 3) args.toList with
     |some (ts,R2,L)=>bif R2.all fun i=>Ls i n then
      bif bh 2 out then some ⟨⟨.ret out,H1,n,R++R2,[]⟩,some (Qr L/\Qn P J g ts.toArray out)⟩
      else bif (R2.all fun i=>X0 (Qt H1 i)) && tL 4 out then some ⟨⟨.ret (Q2 n 4 out),(n,Xx)::H1,n+1,R++R2,[]⟩,some (Qr L/\Qn P J g ts.toArray out)⟩else none
       else none
     |none=>none
      else none
    |_=>none
  |_=>none
 |some (.pureK out fz)=>match o.op with
  | .call _=>match Rq P F (Zd T) o H n with
    |some ⟨.enter g args,H1,n1,R,W1⟩=>bif Lf n1 n && W1.isEmpty then
     match K5 (VT H1 fz 3) args.toList with
     |some (ts,R2,L)=>bif (R2.all fun i=>Ls i n) && (R2.all fun i=>X0 (Qt H1 i) || bP (Qt H1 i)) && tL 4 out then
      some ⟨⟨.ret (Q2 n 4 out),(n,Xx)::killL H1 (R2.filter fun i=>bP (Qt H1 i)),n+1,R++R2,R2.filter fun i=>bP (Qt H1 i)⟩,some (Qr L/\Qn P J g ts.toArray out)⟩else none
     |none=>none
      else none
    |_=>none
  |_=>none
 |some (.wri κ R ps qs out outs news)=>match o.op with
  | .call _=>match Rq P F (Zd T) o H n with
    |some ⟨.enter g args,H1,n1,R0,W1⟩=>bif Lf n1 n && W1.isEmpty then
     match Nd H1 n κ R ps qs args out outs news with
     |some (as,bs,o1,Yp,L)=>some ⟨⟨o1,Yp++H1,n+1+news.length,R0++(κ++R),κ⟩,some (Qr L/\WriC P J g as.toArray bs out outs news)⟩
     |none=>none
      else none
    |_=>none
  |_=>none
 |some .tnil=>match o.op with
  | .binOp op t x y _=>match Zd T x,Zd T y with
    |some v,some (.slice none 0 0)=>match jt v,Rx P t with
     |some (r,m,_),some (.slice _)=>bif Ls r n && X0 (Qt H r)then match op with
      | .eql=>some ⟨⟨.ret (.bool false),H,n,[r],[]⟩,some (0<m)⟩
      | .neq=>some ⟨⟨.ret (.bool true),H,n,[r],[]⟩,some (0<m)⟩
      |_=>none
       else none
     |_,_=>none
    |_,_=>none
  |_=>none
 |some (.wriC κ R ps qs out outs news o2)=>match o.op with
  | .call _=>match Rq P F (Zd T) o H n with
    |some ⟨.enter g args,H1,n1,R0,W1⟩=>bif Lf n1 n && W1.isEmpty then
     match Nd H1 n κ R ps qs args out outs news with
     |some (as,bs,o1,Yp,L)=>some ⟨⟨o2,Yp++H1,n+1+news.length,R0++(κ++R),κ⟩,some ((Qr L/\WriC P J g as.toArray bs out outs news)/\o1=o2)⟩
     |none=>none
      else none
    |_=>none
  |_=>none
section
variable {P:Program} {F:FuncId->Bool} {J:World->Prop} {B:Lo} {T:Tm} {o:Oper} {H:Qq} {n:Nat}
theorem Jg(hF:∀g,F g=true->Q1 P g=true){c:Call}(Zi:o.op=.call c)(hu:Under H n){g:FuncId}{args:Array Value}{H1 H2:Qq}{R keys W:List Nat}{n':Nat}{out:OO}(hcr:Rq P F (Zd T) o H n=some ⟨.enter g args,H1,n,R,[]⟩)(hcj:qC P B g args H1 n out H2 n' keys W):
 T3 P B o (Zd T) H n out H2 n' (R++keys) W/\Shape H n H2 n' (R++keys) W:=by
 have ZY:Wz P B (fun g' a' H' m'=>open Classical in if g'=g/\a'=args/\H'=H1/\m'=n then some ⟨out,H2,n',keys,W⟩else none):=by
  intro g' a' H' m' s _ h;simp only at h;split at h
  ·rename_i q;obtain⟨rfl,rfl,rfl,rfl⟩:=q;simp only[YO]at h;subst h;exact hcj
  ·cases h
 have:=YY hF P5 ZY hu (T:=T) (o:=o) (s:=⟨out,H2,n',R++keys,W⟩) (by simp[di,Zi,hcr]);exact this
theorem FJ.callJ{g:FuncId}{args:Array Value}{c0:CF}{H':Qq}{n':Nat}{R W:List Nat}{out:OO}(hc:Wa P g args=some c0)(h:FJ P B c0 H n out H' n' R W):qC P B g args H n out H' n' R W:=
 ⟨h.shape,fun S μ w args' cs QE hB hS hf ha hR=>h.sem S μ w (Frame.enter P g args' .normal) cs QE hB hS hf (UL hc ha) hR⟩
theorem FJ.recS{c:CF}{H1:Qq}{n n':Nat}{out:OO}{Yp:Qq}{W keys:List Nat}(h:FJ P B c H1 n out (Yp++H1) n' keys W):jg P B (TM c H1 n ⟨out,Yp++H1,n',keys,W⟩):=by
 intro c' H' m' s _ hs;unfold TM at hs;split at hs
 ·rename_i q;obtain⟨rfl,rfl,rfl⟩:=q;simp only[YO]at hs;subst hs;exact h
 ·cases hs
theorem ew(hJ:∀w,B.has w->J w){g:FuncId}{args:Array Value}{fz:List Fz}{H1:Qq}{ts:List Value}{R2:List Nat}{L:List Prop}{out:Value}(ZB:K5 (VT H1 fz 3) args.toList=some (ts,R2,L))(hL:Qr L)(hp:Qn P J g ts.toArray out)
 {S:Nat->Prop} {μ:Mu} {w:World} {args':Array Value} (QE:Ok B.B S μ (Qt H1) w) (hB:B.has w) (hv:VRs μ args args') (hS:∀r∈R2,S r):Calls P g args' w fun e w'=> ∃v',e=.returned v'/\Below w.heap.size w w'/\TRv (dj (YD μ H1 w R2) w w') out v':=by
 obtain⟨a,b⟩:=TJ (fun v v' t R L h1 h2 h3 h4=>Pq QE 3 v v' t R L h1 h2 h3 h4) args.toList ts R2 L args'.toList ZB hL hS (by simpa using hv.1) fun i v v' x y=>hv.2 i v v' (by simpa using x) (by simpa using y)
 exact hp (YD μ H1 w R2) w args' (hJ w hB) (fun b x h=>Vt h) ⟨by simpa using a,fun i v v' x y=>b i v v' (by simpa using x) (by simpa using y)⟩
theorem Bq(hJ:∀w,B.has w->J w){g:FuncId}{args:Array Value}{fz:List Fz}{H1:Qq}{ts:List Value}{R2:List Nat}{L:List Prop}{out:Value}(ZB:K5 (VT H1 fz 3) args.toList=some (ts,R2,L))(hL:Qr L)(hp:Qn P J g ts.toArray out)(hpl:bh 2 out=true)(Xp:(R2.all fun i=>Ls i n)=true):
 qC P B g args H1 n (.ret out) H1 n R2 []:=by
 refine⟨Shape.same _ _ _,fun S μ w args' cs QE hB hS _ ha hR=> ?_⟩;obtain⟨e,w1,fr,⟨v',rfl,hb,ht⟩,hc,hf,hl⟩:=ew hJ ZB hL hp QE hB ha (fun r hr=>hR r hr (YL (List.all_eq_true.1 Xp r hr))) cs;refine⟨.ret v',w1,μ,Post.ofBelow QE hb,.ret (iL 2 out v' hpl ht),fun _=>⟨fr,hc,by rw[hf];rfl,hl⟩,fun c cs' e=> ?_⟩;subst e;exact Steps.trans hc (.one (step_leave_returned hl))
theorem wG(hJ:∀w,B.has w->J w){g:FuncId}{args:Array Value}{fz:List Fz}{H1:Qq}{ts:List Value}{R2:List Nat}{L:List Prop}{out:Value}(ZB:K5 (VT H1 fz 3) args.toList=some (ts,R2,L))(hL:Qr L)(hp:Qn P J g ts.toArray out)(Xp:(R2.all fun i=>Ls i n)=true)
 (WN:(R2.all fun i=>X0 (Qt H1 i))=true) (ho:tL 4 out=true):qC P B g args H1 n (.ret (Q2 n 4 out)) ((n,Xx)::H1) (n+1) R2 []:=by
 refine⟨Shape.new _ _ _ _,fun S μ w args' cs QE hB hS hf ha hR=> ?_⟩;have hSR:∀r∈R2,S r:=fun r hr=>hR r hr (YL (List.all_eq_true.1 Xp r hr))
 obtain⟨e,w1,fr,⟨v',rfl,hb,ht⟩,hc,hfn,hl⟩:=ew hJ ZB hL hp QE hB ha hSR cs;have hfm:∀b x,dj (YD μ H1 w R2) w w1 b=some x->w1.heap[b]? =some x:=by
  intro b x h;unfold dj at h;split at h
  ·rename_i Xp;rw[hb.block b Xp];exact Vt h
  ·exact h
 have Zw:=Post.region (n:=n) QE hS (hf n (LH _) (by omega)) hb (dj (YD μ H1 w R2) w w1) hfm fun b x h=>by
  unfold dj at h;split at h
  ·refine .inr ?_;have hw:=Vt h;unfold YD at h;split at h
   ·rename_i hc;obtain⟨i,hi,o,im,ho,QJ,Yi⟩:=hc;obtain⟨o',Kt,hr'⟩:=ZH (List.all_eq_true.1 WN i hi);rw[ho]at Kt;cases Kt;rcases Yi with ⟨_,JY⟩|⟨hl,_⟩
    ·cases hx:im.fm b with
     |none=>exact absurd hx JY
     |some y=>
      obtain⟨ZD,QN,hf'⟩:=QE.Pj i o (hSR i hi) ho hr';rw[QJ]at QN;cases QN;have:=hf' b y hx;rw[hw]at this;cases this;exact⟨i,im,o,hSR i hi,ho,hr',QJ,hx⟩
    ·exact absurd hl (by cases o <;> first|exact id|exact hr'.elim)
   ·cases h
  ·rename_i hge;exact .inl (Nat.le_of_not_lt hge)
 refine⟨.ret v',w1,_,Zw,.ret (SL X3 4 out v' ho ht),fun _=>⟨fr,hc,by rw[hfn];rfl,hl⟩,fun c cs' e=> ?_⟩;subst e;exact Steps.trans hc (.one (step_leave_returned hl))
theorem Jc(H:Qq)(K:List Nat)(i:Nat):Qt (killL H K) i=if i∈K/\(Qt H i).isSome then some (.pending #[] 0)else Qt H i:=by
 induction K with
 |nil=>simp[killL]
 |cons k K ih=>
  simp only[killL];rw[UJ,ih];by_cases e:i=k
  ·subst e;cases hs:Qt H i with
   |none=>simp
   |some o=>by_cases hm:i∈K <;> simp[hm]
  ·simp[e]
theorem Post.regionK{B n:Nat}{S:Nat->Prop}{μ:Mu}{H:Qq}{w w':World}(K:List Nat)(QE:Ok B S μ (Qt H) w)(hS:∀i,S i->i<n)(hf:μ n=none)(hbel:Below w.heap.size w w')(hK:∀k∈K,S k/\(∃o,Qt H k=some o/\live o)/\∃im,μ k=some im/\im.rw=true)
 (fm:Nat->Option Obj) (hfm:∀b x,fm b=some x->w'.heap[b]? =some x)
 (XJ:∀b x,fm b=some x->w.heap.size<=b\/(∃k US ko,S k/\Qt H k=some ko/\Wd ko/\μ k=some US/\US.fm b=some x)\/∃k∈K,∃im,μ k=some im/\im.Zu=b):Post B S n (n+1) K μ (upd μ n ⟨0,0,0,false,fm⟩) H ((n,Xx)::killL H K) w w':=by
 have hp:=Post.ofBelow (n:=n) QE hbel;have JY:∀i,S i->i≠n:=fun i hi=>by have:=hS i hi;omega
 have T6:∀i,S i->upd μ n ⟨0,0,0,false,fm⟩ i=μ i:=fun i hi=>by simp[upd,JY i hi]
 have Xs:∀i,S i->Qt ((n,Xx)::killL H K) i=Qt (killL H K) i:=fun i hi=>by rw[QQ,if_neg (JY i hi)]
 have hgl:∀i o,S i->Qt ((n,Xx)::killL H K) i=some o->live o\/Wd o->Qt H i=some o/\(live o->i ∉ K):=fun i o hi ho hl=>by
  rw[Xs i hi,Jc]at ho;split at ho
  ·cases ho;exact(hl.elim id id).elim
  ·rename_i hn;exact⟨ho,fun _ hm=>hn ⟨hm,by rw[ho];rfl⟩⟩
 have Jb:Qt ((n,Xx)::killL H K) n=some Xx:=by rw[QQ,if_pos rfl]
 have isn:∀i,(n<=i/\i<n+1)->i=n:=fun i hi=>by omega
 refine⟨⟨fun i o hi ho hl=> ?_,fun i o im hi ho hl QJ=> ?_,fun i j oi oj a b hi hj ay Wl Wk S0 Ud ha hb hra Yr=> ?_,fun i o hi ho hr=> ?_,fun i j oi oj a b x hi hj Wl Wk Pe Ud ha hb Yr hx=> ?_⟩,by omega,fun i hi=> ?_,fun i hi hw=> ?_,hbel.size,fun b hb _=>hbel.block b hb,fun i hi _=>hK i hi,
  fun i im o h1 h2 ho hl QJ=> ?_,fun i im o hi ho hr QJ b x hx=> ?_,hbel.os,hbel.tape,hbel.output⟩
 ·rcases hi with hi|hi
  ·have ho:=(hgl i o hi ho (.inl hl)).1;obtain⟨im,QJ,hr⟩:=hp.ok.rel i o (.inl hi) ho hl;exact⟨im,by rw[T6 i hi];exact QJ,hr.keep (Yu hf) rfl⟩
  ·rw[isn i hi,Jb]at ho;cases ho;exact hl.elim
 ·rcases hi with hi|hi
  ·have ho:=(hgl i o hi ho (.inl hl)).1;rw[T6 i hi]at QJ;exact hp.ok.low i o im (.inl hi) ho hl QJ
  ·rw[isn i hi,Jb]at ho;cases ho;exact hl.elim
 ·rcases hi with hi|hi
  ·rcases hj with hj|hj
   ·have Wl:=(hgl i oi hi Wl (.inl S0)).1;have Wk:=(hgl j oj hj Wk (.inl Ud)).1;rw[T6 i hi]at ha;rw[T6 j hj]at hb;exact QE.inj i j oi oj a b hi hj ay Wl Wk S0 Ud ha hb hra Yr
   ·rw[isn j hj,Jb]at Wk;cases Wk;exact Ud.elim
  ·rw[isn i hi,Jb]at Wl;cases Wl;exact S0.elim
 ·rcases hi with hi|hi
  ·have ho:=(hgl i o hi ho (.inr hr)).1;obtain⟨im,QJ,h⟩:=hp.ok.Pj i o (.inl hi) ho hr;exact⟨im,by rw[T6 i hi];exact QJ,h⟩
  ·rw[isn i hi];exact⟨_,X3,hfm⟩
 ·have hjS:S j:=hj.elim id fun h=>by rw[isn j h,Jb]at Wk;cases Wk;exact Ud.elim
  obtain⟨Wk,hjK⟩:=hgl j oj hjS Wk (.inl Ud);rw[T6 j hjS]at hb;rcases hi with hi|hi
  ·have Wl:=(hgl i oi hi Wl (.inr Pe)).1;rw[T6 i hi]at ha;exact QE.sep i j oi oj a b x hi hjS Wl Wk Pe Ud ha hb Yr hx
  ·rw[isn i hi,X3]at ha;cases ha;rcases XJ _ _ hx with h|⟨k,US,ko,h1,h2,h3,h4,h5⟩|⟨k,hk,US,h1,h2⟩
   ·have:=(QE.low j oj b hjS Wk Ud hb).1;omega
   ·exact QE.sep k j ko oj US b x h1 hjS h2 Wk h3 Ud h4 hb Yr h5
   ·obtain⟨k1,⟨ko,k2,k3⟩,kim',k4,k5⟩:=hK k hk;rw[h1]at k4;cases k4;have hkj:k≠j:=fun e=>hjK Ud (e ▸ hk)
    exact QE.inj k j ko oj US b k1 hjS hkj k2 Wk k3 Ud h1 hb k5 Yr h2
 ·simp only[upd];rw[if_neg (by omega)]
 ·rw[QQ,if_neg (by omega),Jc,if_neg (fun h=>hw h.1)]
 ·rw[isn i ⟨h1,h2⟩,Jb]at ho;cases ho;exact hl.elim
 ·rcases hi with hi|hi
  ·have YF:=isn i hi;subst YF;rw[X3]at QJ;cases QJ;rcases XJ b x hx with h|⟨k,US,ko,h1,h2⟩|⟨k,hk,US,h1,h2⟩
   ·exact .inl h
   ·exact .inr (.inl ⟨k,US,ko,h1,hS k h1,h2⟩)
   ·refine .inr (.inr ⟨k,hk,hS k (hK k hk).1,⟨US,h1,h2⟩,fun o' Kt=> ?_⟩);have hks:=(hK k hk).1;obtain⟨ko,k2,_⟩:=(hK k hk).2.1;rw[Xs k hks,Jc,if_pos ⟨hk,by rw[k2];rfl⟩]at Kt;cases Kt;exact id
  ·obtain⟨hiK,YF⟩:=hi;have hks:=(hK i hiK).1;obtain⟨ko,k2,_⟩:=(hK i hiK).2.1;rw[Xs i hks,Jc,if_pos ⟨hiK,by rw[k2];rfl⟩]at ho;cases ho;exact hr.elim
theorem Shape.killL{H:Qq}{n:Nat}{K R:List Nat}(o:Obj)(hK:∀k∈K,k<n)(hs:∀k∈K,k∈R):Shape H n ((n,o)::killL H K) (n+1) R K:=by
 refine⟨by omega,fun i hi hw=> ?_,fun i hi=> ?_,hs,fun i hi=>by have:=hK i hi;omega⟩
 ·rw[QQ,if_neg (by omega),Jc,if_neg (fun h=>hw h.1)]
 ·rw[QQ,if_neg (by omega),Jc,if_neg (fun h=>by have:=hK i h.1;omega)]
theorem Cu{o:Option Obj}(h:bP o=true):∃cs t,o=some (.cells cs t (0,0)):=by
 unfold bP at h;split at h
 ·exact⟨_,_,rfl⟩
 ·cases h
theorem sP(hJ:∀w,B.has w->J w){g:FuncId}{args:Array Value}{fz:List Fz}{H1:Qq}{ts:List Value}{R2:List Nat}{L:List Prop}{out:Value}(ZB:K5 (VT H1 fz 3) args.toList=some (ts,R2,L))(hL:Qr L)(hp:Qn P J g ts.toArray out)(Xp:(R2.all fun i=>Ls i n)=true)
 (WN:(R2.all fun i=>X0 (Qt H1 i) || bP (Qt H1 i))=true) (ho:tL 4 out=true):qC P B g args H1 n (.ret (Q2 n 4 out)) ((n,Xx)::killL H1 (R2.filter fun i=>bP (Qt H1 i))) (n+1) R2 (R2.filter fun i=>bP (Qt H1 i)):=by
 have hltn:∀r∈R2,r<n:=fun r hr=>YL (List.all_eq_true.1 Xp r hr)
 refine⟨Shape.killL _ (fun k hk=>hltn k ((List.mem_filter.1 hk).1)) (fun k hk=>(List.mem_filter.1 hk).1),fun S μ w args' cs QE hB hS hf ha hR=> ?_⟩;have hSR:∀r∈R2,S r:=fun r hr=>hR r hr (hltn r hr)
 obtain⟨e,w1,fr,⟨v',rfl,hb,ht⟩,hc,hfn,hl⟩:=ew hJ ZB hL hp QE hB ha hSR cs;have hfm:∀b x,dj (YD μ H1 w R2) w w1 b=some x->w1.heap[b]? =some x:=by
  intro b x h;unfold dj at h;split at h
  ·rename_i Xp;rw[hb.block b Xp];exact Vt h
  ·exact h
 have hK:∀k∈R2.filter fun i=>bP (Qt H1 i),S k/\(∃o,Qt H1 k=some o/\live o)/\∃im,μ k=some im/\im.rw=true:=fun k hk=>by
  obtain⟨h1,h2⟩:=List.mem_filter.1 hk;obtain⟨cs0,t0,h3⟩:=Cu h2;obtain⟨im,QJ,ZU⟩:=QE.rel k _ (hSR k h1) h3 trivial;refine⟨hSR k h1,⟨_,h3,trivial⟩,im,QJ, ?_⟩;rcases ZU with ⟨_,h,_⟩|⟨h,_⟩
  ·exact h
  ·exact absurd rfl h
 have Zw:=Post.regionK (n:=n) (R2.filter fun i=>bP (Qt H1 i)) QE hS (hf n (LH _) (by omega)) hb hK (dj (YD μ H1 w R2) w w1) hfm fun b x h=>by
  unfold dj at h;split at h
  ·refine .inr ?_;have hw:=Vt h;unfold YD at h;split at h
   ·rename_i hc;obtain⟨i,hi,o,im,ho,QJ,Yi⟩:=hc;have ZU:=List.all_eq_true.1 WN i hi;rw[Bool.or_eq_true]at ZU;rcases Yi with ⟨hr',JY⟩|⟨hl,hblk⟩
    ·left;cases hx:im.fm b with
     |none=>exact absurd hx JY
     |some y=>
      obtain⟨ZD,QN,hf'⟩:=QE.Pj i o (hSR i hi) ho hr';rw[QJ]at QN;cases QN;have:=hf' b y hx;rw[hw]at this;cases this;exact⟨i,im,o,hSR i hi,ho,hr',QJ,hx⟩
    ·right;rcases ZU with ZU|ZU
     ·obtain⟨o',Kt,hr'⟩:=ZH ZU;rw[ho]at Kt;cases Kt;exact absurd hl (by cases o <;> first|exact id|exact hr'.elim)
     ·exact⟨i,List.mem_filter.2 ⟨hi,ZU⟩,im,QJ,hblk⟩
   ·cases h
  ·rename_i hge;exact .inl (Nat.le_of_not_lt hge)
 refine⟨.ret v',w1,_,Zw,.ret (SL X3 4 out v' ho ht),fun _=>⟨fr,hc,by rw[hfn];rfl,hl⟩,fun c cs' e=> ?_⟩;subst e;exact Steps.trans hc (.one (step_leave_returned hl))
theorem UU{r:Nat}{v:Value}(Xp:r<n)(WN:X0 (Qt H r)=true)(hd:∀c,o.op≠.defer c)
 (h:∀(μ:Mu) (w:World) (ρ:Operand->Value) (im:dx),μ r=some im->(∀b x,im.fm b=some x->w.heap[b]? =some x)->(∀x∈o.op.operands,∀v,Zd T x=some v->VR μ v (ρ x))->∃v',(execOp ρ o).run P w=.ok (.value v') w/\VR μ v v'):
 T3 P B o (Zd T) H n (.ret v) H n [r] []:=fun S μ w fr _ _ _ _ _ QE hB _ _ XT hR hm ht ho hw=>by
 obtain⟨x,hx,hr⟩:=ZH WN;obtain⟨im,QJ,hf⟩:=QE.Pj r x (hR r (by simp) Xp) hx hr;obtain⟨v',h1,h2⟩:=h μ w fr.eval im QJ hf XT;exact⟨.ret v',w,μ,Post.refl QE,.ret h2,Rj hm ht ho hw hd h1⟩
theorem Di{fm:Nat->Option Obj}{w:World}(hw:∀b x,fm b=some x->w.heap[b]? =some x){off:Nat}{cs:Array Value}{u v:Value}{t:TypeId}(hu:TRv fm (SQ off cs) u)(h:Y8 P t cs off=some v):∃v',(Instr.loadAt t u).run P w=.ok v' w/\TRv fm v v':=by
 obtain⟨b,o,arr,ty,fl,rfl,h1,h2,h3⟩:=hu.ptr_inv;have hb:=hw _ _ h1;have hcell:∀i,i<cs.size->∃v',w.cell? ⟨b,o+i,none⟩=some v'/\∀v,cs[i]? =some v->TRv fm v v':=by
  intro i hi;have Xp:=h2 i hi;exact⟨arr[o+i],by simp[World.cell?,hb,Xp],fun v hv=>h3 i v _ hv (by simp[Xp])⟩
 unfold Y8 at h;cases hag:qy P t with
 |none=>rw[hag]at h;cases h
 |some g=>
  rw[hag]at h;cases g with
  |true=>
   cases hz:W6 P t with
   |none=>rw[hz]at h;cases h
   |some z=>
    rw[hz]at h;dsimp only at h;cases hb2:LP (off+z) cs.size with
    |false=>rw[hb2]at h;cases h
    |true=>
     rw[hb2]at h;simp only[cond_true,YO]at h;subst h;have hle:=YL hb2;have hr:=run_loadCells (P:=P) w ⟨b,o+off,none⟩ z (fun j=>(w.cell? ⟨b,o+(off+j),none⟩).getD undef) (fun j hj=>by
      obtain⟨v',ZX,_⟩:=hcell (off+j) (by omega);rw[WA,show o+off+j=o+(off+j)by omega,ZX];rfl)
     refine⟨.agg _,by simp[Instr.loadAt,Instr.sureAddr,loadVar,Kp hag,Zo hz,hr];rfl,.agg (by simp;omega) fun i v v' hv ZX=> ?_⟩;have hi:i<z:=by
      have:=(Array.getElem?_eq_some_iff.1 hv).1;simp at this;omega
     obtain⟨u,h4,h5⟩:=hcell (off+i) (by omega);simp[hi,h4]at ZX;subst ZX;refine h5 v ?_;rw[LX]at hv;split at hv
     ·exact hv
     ·cases hv
  |false=>
   simp only at h;have hi:=(Array.getElem?_eq_some_iff.1 h).1;obtain⟨v',ZX,ht⟩:=hcell off hi;exact⟨v',by simp[Instr.loadAt,Instr.sureAddr,loadVar,Kp hag,run_load,ZX],ht v h⟩
theorem s9{v:Value}{r:Nat}(e:Bh P T o=some (v,r))(Xp:r<n)(WN:X0 (Qt H r)=true):T3 P B o (Zd T) H n (.ret v) H n [r] []:=by
 unfold Bh at e;split at e
 ·rename_i c Zi;split at e
  ·rename_i hc;split at e
   ·rename_i x t ha ht;split at e
    ·rename_i u hx;split at e
     ·rename_i r0 k cs el htop hue;rw[Z1]at hue;simp only[YO,YR]at e;obtain⟨rfl,rfl⟩:=e;refine UU Xp WN (fun c h=>by rw[Zi]at h;cases h) fun μ w ρ im QJ hf XT=> ?_
      have ea:c.args=#[x]:=by rw[<-ha]
      have et:c.argTypes=#[t]:=by rw[<-ht]
      have hv:=XT x (by simp[Zi,Op.operands,Call.operands,hc,ea]) _ hx;rw[S3 htop]at hv;obtain⟨ZD,_,htr⟩:=hv.top_inv;have hlen:∃a c,ρ x=.slice a k c:=by
       rcases htr.slice_inv with ⟨b,o',c',arr,t',fl,h1,_⟩|⟨rfl,_,a',c',h1,_⟩
       ·exact⟨_,_,h1⟩
       ·exact⟨_,_,h1⟩
      obtain⟨a,cp,hv⟩:=hlen;refine⟨.int .i64 k, ?_,.int _ _⟩;simp[execOp,Zi,resolve,hc,invoke,builtin,ea,et,hv,Builtin.len_,run_underlying hue,goInt]
     ·cases e
    ·cases e
   ·cases e
  ·cases e
 ·rename_i s x f Zi;split at e
  ·rename_i u hx;split at e
   ·rename_i r0 off cs htop;split at e
    ·rename_i off' hc;simp only[YO,YR]at e;obtain⟨rfl,rfl⟩:=e;refine UU Xp WN (fun c h=>by rw[Zi]at h;cases h) fun μ w ρ im QJ hf XT=> ?_
     have hv:=XT x (by simp[Zi,Op.operands]) _ hx;rw[my htop]at hv;obtain⟨ZD,QN,htr⟩:=hv.top_inv;rw[QJ]at QN;cases QN;obtain⟨b,o',arr,ty,fl,h1,h2,h3,h4⟩:=htr.ptr_inv;have hc2:∃d,off'=off+d/\Wm P s f (.pointer (some ⟨b,o'+off,none⟩))=some (.pointer (some ⟨b,o'+off+d,none⟩)):=by
      unfold Wm at hc ⊢;simp only at hc ⊢;split at hc
      ·split at hc
       ·split at hc
        ·simp only[YO,Value.pointer.injEq,Addr.mk.injEq,true_and,and_true]at hc;rename_i fd hfd _ _ hz;refine⟨fd.offset,hc.symm, ?_⟩;simp_all
        ·cases hc
       ·cases hc
      ·cases hc
     obtain⟨d,rfl,hc2⟩:=hc2;obtain⟨_,hr⟩:=cf (P:=P) hc2 w;refine⟨.pointer (some ⟨b,o'+off+d,none⟩),by simp[execOp,Zi,h1,hr],.top rfl QJ ?_⟩;rw[Nat.add_assoc];exact .ptr h2 h3 h4
    ·cases e
   ·cases e
  ·cases e
 ·rename_i t x Zi;split at e
  ·rename_i u hx;split at e
   ·rename_i r0 off cs htop;split at e
    ·rename_i v0 hc;cases QE:tL 4 v0 with
     |false=>rw[QE]at e;cases e
     |true=>
      rw[QE]at e;simp only[cond_true,YO,YR]at e;obtain⟨rfl,rfl⟩:=e;refine UU Xp WN (fun c h=>by rw[Zi]at h;cases h) fun μ w ρ im QJ hf XT=> ?_
      have hv:=XT x (by simp[Zi,Op.operands]) _ hx;rw[my htop]at hv;obtain⟨ZD,QN,htr⟩:=hv.top_inv;rw[QJ]at QN;cases QN;obtain⟨v',h1,h2⟩:=Di hf htr hc;exact⟨v',by simp[execOp,Zi,h1],SL QJ 4 v0 v' QE h2⟩
    ·cases e
   ·cases e
  ·cases e
 ·cases e
theorem v5{P:Program}{t e:TypeId}{b off m c z k:Nat}{q:Int}{kk:IntKind}(hu:Rx P t=some (.slice e))(hz:W6 P e=some z)(hq:q=(k:Int))(hk:k<m)(hc:m<=c)(w:World):
 (Instr.sliceAt t (.slice (some ⟨b,off,none⟩) m c) (some (.int kk q)) none none).run P w=.ok (.slice (some ⟨b,off+k*z,none⟩) (m-k) (c-k)) w:=by
 rw[Z1]at hu;subst hq;have hb:Au m (some (.int kk (k:Int))) none=some (k,m):=by
  simp only[Au,Gy,decide_eq_true (show(0:Int)<=(k:Int)by omega),decide_eq_true (show(k:Int)<=(m:Int)by omega),Bool.and_self,cond_true,Int.toNat_natCast]
 obtain⟨hr,_,_⟩:=qw (P:=P) (μ:=fun _=>none) (sl:=true) (lo':=some (.int kk (k:Int))) (hi':=none) hb (show VR _ _ _ from .int _ _) trivial hc w;simp only[Instr.sliceAt,Instr.slice,Sem.run_bind,run_underlying hu,Result.andThen_ok,hr,Zo hz,Sem.run_pure,LI,WA];rw[if_neg (by omega)]
theorem js{sv:Value}{r k z by':Nat}{cs:Array Value}{e:TypeId}{zv:Value}(h:cl P T o=some (sv,r,k,cs,e,z,by',zv)):
 ∃c s x t i,o.op=.call c/\c.callee=.builtin .append/\c.args=#[s,x]/\c.argTypes=#[t,t]/\Zd T s=some sv/\Zd T x=some (Qw r (QC k cs))/\YZ sv=true/\P.underlying t=some (.slice e)/\P.info? e=some i/\i.zero=some zv/\i.size=z/\i.bytes=by'/\zv.cells.size=z/\0<z:=by
 unfold cl at h;split at h
 ·rename_i c Zi;split at h
  ·rename_i hc;split at h
   ·rename_i s x t t' ha ht;split at h
    ·rename_i sv' xv hs hx;split at h
     ·rename_i r' k' cs' e' htop hu;split at h
      ·rename_i i hi;split at h
       ·rename_i zv' z' hz ZA;cases hq:(Lf t t' && YZ sv' && Lf zv'.cells.size (z'+1))with
        |false=>rw[hq]at h;cases h
        |true=>
         rw[hq]at h;simp only[cond_true,YO,YR]at h;obtain⟨rfl,rfl,rfl,rfl,rfl,rfl,rfl,rfl⟩:=h;simp only[YB]at hq;obtain⟨⟨q1,q2⟩,q3⟩:=hq;obtain rfl:=YE q1;rw[Z1]at hu;rw[Pd]at hi;exact⟨c,s,x,t,i,Zi,hc,by rw[<-ha],by rw[<-ht],hs,by rw[hx,S3 htop],q2,hu,hi,hz,ZA,rfl,YE q3,by omega⟩
       ·cases h
      ·cases h
     ·cases h
    ·cases h
   ·cases h
  ·cases h
 ·cases h
theorem kC{μ:Mu}{s s':Value}(h:YZ s=true)(hs:VR μ s s'):∃a,s'=.slice a 0 0:=by
 unfold YZ at h;split at h
 ·cases hs;exact⟨_,rfl⟩
 ·cases hs;exact⟨_,rfl⟩
 ·cases h
theorem sB{sv:Value}{r k z by':Nat}{cs cs':Array Value}{e:TypeId}{zv:Value}(h:cl P T o=some (sv,r,k,cs,e,z,by',zv))(Xp:r<n)(WN:X0 (Qt H r)=true)
 (hp:0<k/\k<=maxLen/\k*by'<=140737488355328/\cs.size=k*z/\cs.map (Wc r)=cs'/\(cs.all fun v=>simple v || WU v)=true/\ones cs'=true):
 T3 P B o (Zd T) H n (.ret (.slice (some ⟨n,0,none⟩) k z)) ((n,.cells cs' e (0,0))::H) (n+1) [r] []:=by
 intro S μ w fr _ _ _ _ _ QE hB hS hf XT hR hm ht ho hw;obtain⟨c,s,x,t,i,Zi,hc,ea,et,hs,hx,hbn,hu,hi,hz,ZA,hby,hzs,hzp⟩:=js h;obtain⟨p1,p2,p3,p4,p5,p6,p7⟩:=hp;obtain⟨xr,hxr,hr⟩:=ZH WN;obtain⟨im,QJ,hfm⟩:=QE.Pj r xr (hR r (by simp) Xp) hxr hr;have hvs:=XT s (by simp[Zi,Op.operands,Call.operands,hc,ea]) _ hs;have hvx:=XT x (by simp[Zi,Op.operands,Call.operands,hc,ea]) _ hx;obtain⟨a,hsa⟩:=kC hbn hvs;obtain⟨ZD,QN,htr⟩:=hvx.top_inv;rw[QJ]at QN;cases QN;rcases htr.slice_inv with ⟨b,o',c',arr,ty,fl,h1,h2,h3,h4,h5,h6⟩|⟨h0,_⟩
 ·have hb:=hfm _ _ h4;obtain⟨news,hnews⟩:∃news,news=(arr.toList.drop o').take (k*z):=⟨_,rfl⟩
  have hnl:news.length=k*z:=by
   rw[hnews,List.length_take,List.length_drop,Array.length_toList];have:∀j,j<k*z->o'+j<arr.size:=fun j hj=>h5 j (by omega)
   have:=this (k*z-1) (by have:=Nat.mul_pos p1 hzp;omega);have:=Nat.mul_pos p1 hzp;omega
  have Qt:∀(j:Nat) u,news[j]? =some u->arr[o'+j]? =some u:=by
   intro j u hj;rw[hnews,List.getElem?_take]at hj;split at hj
   ·rw[List.getElem?_drop]at hj;simpa using hj
   ·cases hj
  have hcell:∀(j:Nat) u,news[j]? =some u->w.cell? ((⟨b,o',none⟩:Addr).add j)=some u:=by
   intro j u hj;rw[WA];have:=Qt j u hj;simp[World.cell?,hb];exact this
  have hV:VRs μ cs' news.toArray:=by
   refine⟨by rw[<-p5];simp[hnl,p4],fun j v v' hv ZX=> ?_⟩;rw[<-p5,Array.getElem?_map]at hv;cases hy:cs[j]? with
   |none=>rw[hy]at hv;cases hv
   |some y=>
    rw[hy]at hv;simp only[LI,YO]at hv;subst hv;exact aX QJ (Array.all_eq_true'.1 p6 y (LL hy)) (h6 j y v' hy (Qt j v' (by simpa using ZX)))
  have VU:∃C,k<=C/\C<=maxLen/\(Builtin.append_ #[t,t] o.type #[fr.eval s,fr.eval x]).run P w=.ok (.slice (some ⟨w.heap.size,0,none⟩) k C) (w.drew.alloc (.cells (news.toArray++Builtin.zeroCells zv.cells (C-k)) e)):=by
   have hk63:(k:Int)<=9223372036854775807:=by simp only[maxLen]at p2;omega
   have hr0:=run_append_nil (P:=P) w t o.type e i zv hu hi hz ⟨b,o',none⟩ k c' news (by rw[hnl,ZA]) hcell p1 hk63 (by rw[hby];omega);refine⟨grownCap w k 0 e,grownCap_ge w k 0 e,grownCap_le_maxLen w k 0 e p2, ?_⟩;rw[hsa,h1];cases a with
   |none=>exact hr0
   |some a=>rw[kD hu hi hz w a ⟨b,o',none⟩ k c' news (by rw[hnl,ZA]) hcell p1 p2 (by rw[hby];exact p3)];exact hr0
  obtain⟨C,hC1,hC2,VU⟩:=VU;have hfn:=hf n (LH _) (by omega);have harr:(news.toArray++Builtin.zeroCells zv.cells (C-k)).size=C*z:=by
   rw[Array.size_append,size_zeroCells,hzs,List.size_toArray,hnl,<-Nat.add_mul];congr 1;omega
  refine⟨.ret (.slice (some ⟨w.heap.size,0,none⟩) k C),_,_,iI QE hS hfn none (fun _ h=>by cases h) w.heap.size (news.toArray++Builtin.zeroCells zv.cells (C-k)).size _ hB.le (by simp) (.inl (LH _)) (by simp) (fun b hb _=>Below.heap_alloc w.drew _ b hb) (.ofCells (heap_alloc_new w.drew _) ?_ rfl fun j v hv=> ?_) ⟨rfl,rfl,rfl⟩,.ret ?_,Rj hm ht ho hw (fun c h=>by rw[Zi]at h;cases h) (w':=w.drew.alloc _) ?_⟩
  ·rw[Array.size_append];have:=hV.1;simp only[List.size_toArray]at this ⊢;omega
  ·obtain⟨u,e1,e2⟩:=hV.get hv;have hj:j<news.toArray.size:=(Array.getElem?_eq_some_iff.1 e1).1;exact⟨u,by rw[Array.getElem?_append_left hj];exact e1,e2.mono (Yu hfn)⟩
  ·refine .slice ⟨_,X3,rfl,rfl⟩ hC1 hC2 (fun _ im QJ _ _=> ?_);rw[X3]at QJ;cases QJ;exact harr.symm
  ·simp[execOp,Zi,resolve,hc,invoke,builtin,ea,et,VU]
 ·omega
theorem qF{sv:Value}{r k z by':Nat}{cs:Array Value}{e:TypeId}{zv:Value}(h:cl P T o=some (sv,r,k,cs,e,z,by',zv))(Xp:r<n)(WN:X0 (Qt H r)=true)(hk:k=0):
 T3 P B o (Zd T) H n (.ret sv) H n [r] []:=by
 obtain⟨c,s,x,t,i,Zi,hc,ea,et,hs,hx,hbn,hu,hi,hz,ZA,hby,hzs,hzp⟩:=js h;refine UU Xp WN (fun c h=>by rw[Zi]at h;cases h) fun μ w ρ im QJ hf XT=> ?_
 have hvs:=XT s (by simp[Zi,Op.operands,Call.operands,hc,ea]) _ hs;have hvx:=XT x (by simp[Zi,Op.operands,Call.operands,hc,ea]) _ hx;obtain⟨a,hsa⟩:=kC hbn hvs;obtain⟨ZD,QN,htr⟩:=hvx.top_inv;rw[QJ]at QN;cases QN;subst hk;have hxx:∃b d,ρ x=.slice b 0 d:=by
  rcases htr.slice_inv with ⟨b,o',c',arr,ty,fl,h1,_⟩|⟨_,_,a',c',h1,_⟩
  ·exact⟨_,_,h1⟩
  ·exact⟨_,_,h1⟩
 obtain⟨b,d,hxx⟩:=hxx;refine⟨.slice a 0 0, ?_,by rw[<-hsa];exact hvs⟩;have hszp:W6 P e=some z:=by simp[W6,Pd,hi,ZA]
 have hr:=kE (ty:=o.type) hu hszp w a b 0 0 d (LH _);simp[execOp,Zi,resolve,hc,invoke,builtin,ea,et,hsa,hxx,hr]
theorem vp{b off k r m z:Nat}{cs2:Array Value}(h:lv P T o=some (b,off,k,r,m,cs2,z)):
 ∃c s x t t2 e s1,o.op=.call c/\c.callee=.builtin .copy/\c.args=#[s,x]/\c.argTypes=#[t,t2]/\Zd T s=some (.slice (some ⟨b,off,none⟩) k s1)/\Zd T x=some (Qw r (QC m cs2))/\P.underlying t=some (.slice e)/\W6 P e=some z:=by
 unfold lv at h;split at h
 ·rename_i c Zi;split at h
  ·rename_i hc;split at h
   ·rename_i s x t t2 ha ht;split at h
    ·rename_i b' off' k' s1 xv hs hx;split at h
     ·rename_i r' m' cs' e' htop hu;split at h
      ·rename_i z' hz;simp only[YO,YR]at h;obtain⟨rfl,rfl,rfl,rfl,rfl,rfl,rfl⟩:=h;rw[Z1]at hu;exact⟨c,s,x,t,t2,e',s1,Zi,hc,by rw[<-ha],by rw[<-ht],hs,by rw[hx,S3 htop],hu,hz⟩
      ·cases h
     ·cases h
    ·cases h
   ·cases h
  ·cases h
 ·cases h
theorem sA{b off k r m z:Nat}{cs cs2 cs':Array Value}{te:TypeId}(h:lv P T o=some (b,off,k,r,m,cs2,z))(hg:Qt H b=some (.cells cs te (0,0)))(Xp:r<n)(WN:X0 (Qt H r)=true)(hbn:b<n)
 (hp:0<m/\off+LU m k*z<=cs.size/\LU m k*z<=cs2.size/\(cs2.all fun v=>simple v || WU v)=true/\ones ((cs2.extract 0 (LU m k*z)).map (Wc r))=true/\splice cs off ((cs2.extract 0 (LU m k*z)).map (Wc r))=cs'):
 T3 P B o (Zd T) H n (.ret (.int .i64 (LU m k))) (VE H b (.cells cs' te (0,0))) n [b,r] [b]:=by
 intro S μ w fr _ _ _ _ _ QE hB hS hf XT hR hm ht ho hw;obtain⟨c,s,x,t,t2,e,s1,Zi,hc,ea,et,hs,hx,hu,hz⟩:=vp h;obtain⟨p0,h1,h2,p4,h3,rfl⟩:=hp;obtain⟨xr,hxr,hr⟩:=ZH WN;obtain⟨imr,himr,hfm⟩:=QE.Pj r xr (hR r (by simp) Xp) hxr hr;have hb:S b:=hR b (by simp) hbn;obtain⟨im,QJ,ZU⟩:=QE.rel b _ hb hg trivial;have hvs:=XT s (by simp[Zi,Op.operands,Call.operands,hc,ea]) _ hs;have hvx:=XT x (by simp[Zi,Op.operands,Call.operands,hc,ea]) _ hx;obtain⟨imr',himr',htr⟩:=hvx.top_inv;rw[himr]at himr';cases himr';generalize hsv:fr.eval s=sv at hvs;cases hvs with
 |slice har q1 q2 q3=>
  obtain⟨ZD,QN,_,rfl⟩:=har;simp only at QN;rw[QJ]at QN;cases QN;rcases htr.slice_inv with ⟨b2,o',c',arr2,ty,fl,g1,g2,g3,g4,g5,g6⟩|⟨h0,_⟩
  ·have hb2:=hfm _ _ g4;have hcell:∀j,j<LU m k*z->w.cell? ((⟨b2,o',none⟩:Addr).add j)=some (arr2.getD (o'+j) undef):=by
    intro j hj;have hlt2:=g5 j (by omega);rw[WA];simp[World.cell?,hb2,hlt2]
   have hload:=run_loadCells (P:=P) w ⟨b2,o',none⟩ (LU m k*z) (fun j=>arr2.getD (o'+j) undef) hcell;generalize hxsd:(((Array.range (LU m k*z)).map fun j=>arr2.getD (o'+j) undef):Array Value)=xs0;obtain⟨xs,hload,hxs⟩:∃xs,(loadCells ⟨b2,o',none⟩ (LU m k*z)).run P w=.ok xs w/\VRs μ ((cs2.extract 0 (LU m k*z)).map (Wc r)) xs:=by
    refine⟨_,hload,⟨by simp;omega,fun i v v' hv ZX=> ?_⟩⟩;rw[Array.getElem?_map]at hv;cases hy:(cs2.extract 0 (LU m k*z))[i]? with
    |none=>rw[hy]at hv;cases hv
    |some y=>
     rw[hy]at hv;simp only[LI,YO]at hv;subst hv;rw[LX]at hy;split at hy
     ·rename_i hlt3;have hi:i<LU m k*z:=by omega
      have hy2:cs2[i]? =some y:=by simpa using hy
      simp[hi]at ZX;have hlt2:=g5 i (by omega);refine aX himr (Array.all_eq_true'.1 p4 y (LL hy2)) (g6 i y v' hy2 ?_);rw[<-ZX];simp[hlt2]
     ·cases hy
   have hxsz:xs.size=LU m k*z:=by rw[<-hxs.1];simp;omega
   have hexsz:((cs2.extract 0 (LU m k*z)).map (Wc r)).size=LU m k*z:=by simp;omega
   rcases ZU with ⟨_,Ja,hoo,arr,ha,hle,hcap,hcs⟩|⟨hz0,_⟩
   ·have ZB:=run_storeCells_at (P:=P) im.Zu off te xs.toList 0 arr w ha (by simp[hxsz];omega) (hxs.ones h3);simp only[Nat.add_zero]at ZB;refine⟨.ret (.int .i64 (LU m k)),w.setRow im.Zu (CE.splice arr off xs),μ,Post.write QE hS b _ (.cells (CE.splice cs off ((cs2.extract 0 (LU m k*z)).map (Wc r))) te (0,0)) im hb hg trivial QJ Ja (w':=w.setRow im.Zu (CE.splice arr off xs)) ?_ ?_ ?_ ⟨rfl,rfl,rfl⟩,.ret (.int _ _),Rj hm ht ho hw (fun c h=>by rw[Zi]at h;cases h) ?_⟩
    ·simp[World.setRow]
    ·intro y hy;exact setRow_other w im.Zu y _ hy
    ·refine .inl ⟨rfl,Ja,hoo,CE.splice arr off xs,setRow_heap w im.Zu arr _ te _ ha, ?_, ?_, ?_⟩
     ·rw[WI (by rw[hexsz];omega),WI (by rw[hxsz];omega)];exact hle
     ·rw[WI (by rw[hxsz];omega)];exact hcap
     ·exact VRs.splice (by rw[hexsz];omega) hle hcs hxs
    ·simp[execOp,Zi,resolve,hc,invoke,builtin,ea,et,hsv,g1,Builtin.copy_,Builtin.lenOf,Builtin.firstCells,Sem.run_bind,Sem.run_pure,Result.andThen_ok,run_underlying hu,Zo hz,hload,hoo,ZB,CE.splice,goInt]
   ·exact absurd rfl hz0
  ·omega
theorem rY(hF:∀g,F g=true->Q1 P g=true)(hJ:∀w,B.has w->J w)(hu:Under H n){h:Option Qh}{a:Told}(e:opT P F J B T o H n h=some a)(hp:∀p,a.p=some p->p):
 T3 P B o (Zd T) H n a.s.out a.s.H a.s.n a.s.R a.s.W/\Shape H n a.s.H a.s.n a.s.R a.s.W:=by
 unfold opT at e;split at e
 ·split at e
  ·rename_i v r htr;cases hq:(Ls r n && X0 (Qt H r))with
   |false=>rw[hq]at e;cases e
   |true=>
    rw[hq]at e;simp only[cond_true,YO]at e;subst e;simp only[YB]at hq;exact⟨s9 htr (YL hq.1) hq.2,Shape.same _ _ _⟩
  ·exact rZ hF hu e hp
 ·exact rZ hF hu e hp
 ·rename_i k es;split at e
  ·rename_i t x i Zi;split at e
   ·rename_i u kk q hx hi;split at e
    ·rename_i r m cs el htop hue;split at e
     ·rename_i z hz;cases hq:(Ls r n && X0 (Qt H r))with
      |false=>rw[hq]at e;cases e
      |true=>
       rw[hq]at e;simp only[cond_true,YO]at e;subst e;simp only[YB]at hq;obtain⟨Xp,WN⟩:=hq;obtain⟨hqk,hkm,hes⟩:=hp _ rfl;refine⟨UU (YL Xp) WN (fun c h=>by rw[Zi]at h;cases h) fun μ w ρ im QJ hf XT=> ?_,Shape.same _ _ _⟩;have hv:=XT x (by simp[Zi,Op.operands]) _ hx;have hiv:=pY (XT i (by simp[Zi,Op.operands]) _ hi);rw[S3 htop]at hv;obtain⟨ZD,QN,htr⟩:=hv.top_inv;rw[QJ]at QN;cases QN;have Yi:=htr.slice_inv;rcases Yi with ⟨b,o',c',arr,ty,fl,h1,h2,h3,h4,h5,h6⟩|⟨rfl,_⟩
       ·have hess:k*z+es.size<=cs.size\/es.size=0:=by rw[<-hes];simp;omega
        refine⟨.pointer (some ⟨b,o'+k*z,none⟩),by simp[execOp,Zi,h1,hiv,sk hue hz hqk hkm],.top rfl QJ ?_⟩;refine TRv.ptr (o:=o'+k*z) (off:=0) h4 (fun i hi=> ?_) fun i v v' hv ZX=> ?_
        ·have:=h5 (k*z+i) (by omega);omega
        ·rw[<-hes,LX]at hv;split at hv
         ·refine h6 (k*z+i) v v' hv ?_;rw[<-ZX,Nat.add_assoc]
         ·cases hv
       ·omega
     ·cases e
    ·cases e
   ·cases e
  ·cases e
 ·rename_i k es;split at e
  ·rename_i t x i Zi;split at e
   ·rename_i u kk q hx hi;split at e
    ·rename_i r off cs m el htop hue;split at e
     ·rename_i z hz;cases hq:(Ls r n && X0 (Qt H r))with
      |false=>rw[hq]at e;cases e
      |true=>
       rw[hq]at e;simp only[cond_true,YO]at e;subst e;simp only[YB]at hq;obtain⟨Xp,WN⟩:=hq;obtain⟨hqk,hkm,hes⟩:=hp _ rfl;refine⟨UU (YL Xp) WN (fun c h=>by rw[Zi]at h;cases h) fun μ w ρ im QJ hf XT=> ?_,Shape.same _ _ _⟩;have hv:=XT x (by simp[Zi,Op.operands]) _ hx;have hiv:=pY (XT i (by simp[Zi,Op.operands]) _ hi);rw[my htop]at hv;obtain⟨ZD,QN,htr⟩:=hv.top_inv;rw[QJ]at QN;cases QN;obtain⟨b,o',arr,ty,fl,h1,h2,h3,h4⟩:=htr.ptr_inv;refine⟨.pointer (some ⟨b,o'+off+k*z,none⟩),by simp[execOp,Zi,h1,hiv,hU hue hz hqk hkm],.top rfl QJ ?_⟩;rw[Nat.add_assoc o'];refine TRv.ptr (o:=o'+(off+k*z)) (off:=0) h2 (fun i hi=> ?_) fun i v v' hv ZX=> ?_
       ·have ZA:es.size<=cs.size-(off+k*z):=by rw[<-hes];simp;omega
        have:=h3 (off+k*z+i) (by omega);omega
       ·rw[<-hes,LX]at hv;split at hv
        ·refine h4 (off+k*z+i) v v' hv ?_;rw[<-ZX,Nat.add_assoc o']
        ·cases hv
     ·cases e
    ·cases e
   ·cases e
  ·cases e
 ·rename_i k m' cs';split at e
  ·rename_i t x lo Zi;split at e
   ·rename_i u kk q hx hi;split at e
    ·rename_i r m cs el htop hue;split at e
     ·rename_i z hz;cases hq:(Ls r n && X0 (Qt H r))with
      |false=>rw[hq]at e;cases e
      |true=>
       rw[hq]at e;simp only[cond_true,YO]at e;subst e;simp only[YB]at hq;obtain⟨Xp,WN⟩:=hq;obtain⟨hqk,hkm,hm',hes⟩:=hp _ rfl;refine⟨UU (YL Xp) WN (fun c h=>by rw[Zi]at h;cases h) fun μ w ρ im QJ hf XT=> ?_,Shape.same _ _ _⟩;have hv:=XT x (by simp[Zi,Op.operands]) _ hx;have hiv:=pY (XT lo (by simp[Zi,Op.operands]) _ hi);rw[S3 htop]at hv;obtain⟨ZD,QN,htr⟩:=hv.top_inv;rw[QJ]at QN;cases QN;have Yi:=htr.slice_inv;rcases Yi with ⟨b,o',c',arr,ty,fl,h1,h2,h3,h4,h5,h6⟩|⟨rfl,_⟩
       ·refine⟨.slice (some ⟨b,o'+k*z,none⟩) (m-k) (c'-k),by simp[execOp,Zi,h1,hiv,v5 hue hz hqk hkm h2],.top rfl QJ ?_⟩;rw[hm'];refine TRv.slice (o:=o'+k*z) (by omega) (by omega) h4 (fun i hi=> ?_) fun i v v' hv ZX=> ?_
        ·rw[<-hes,Array.size_extract]at hi;have:=h5 (k*z+i) (by omega);omega
        ·rw[<-hes,LX]at hv;split at hv
         ·refine h6 (k*z+i) v v' hv ?_;rw[<-ZX,Nat.add_assoc]
         ·cases hv
       ·omega
     ·cases e
    ·cases e
   ·cases e
  ·cases e
 ·rename_i cs';split at e
  ·rename_i u1 r k cs el z by' u2 hta
   cases hq:(Ls r n && X0 (Qt H r))with
   |false=>rw[hq]at e;cases e
   |true=>
    rw[hq]at e;simp only[cond_true,YO]at e;subst e;simp only[YB]at hq;exact⟨sB hta (YL hq.1) hq.2 (hp _ rfl),Shape.new _ _ _ _⟩
  ·cases e
 ·split at e
  ·rename_i sv r k cs el z by' u2 hta
   cases hq:(Ls r n && X0 (Qt H r))with
   |false=>rw[hq]at e;cases e
   |true=>
    rw[hq]at e;simp only[cond_true,YO]at e;subst e;simp only[YB]at hq;exact⟨qF hta (YL hq.1) hq.2 (hp _ rfl),Shape.same _ _ _⟩
  ·cases e
 ·rename_i cs';split at e
  ·rename_i b off k r m cs2 z hta;split at e
   ·rename_i cs te hg;cases hq:(Ls r n && X0 (Qt H r) && Ls b n)with
    |false=>rw[hq]at e;cases e
    |true=>
     rw[hq]at e;simp only[cond_true,YO]at e;subst e;simp only[YB]at hq;have hb:=YL hq.2;exact⟨sA hta hg (YL hq.1.1) hq.1.2 hb (hp _ rfl),(Shape.set _ hb).moreR (fun i hi=>by simp at hi ⊢;exact .inl hi)⟩
   ·cases e
  ·cases e
 ·rename_i s;simp only[YO]at e;subst e;exact YY hF P5 (QI P B) hu (hp _ rfl)
 ·rename_i v;split at e
  ·rename_i op t x y yt Zi;split at e
   ·rename_i a b hx hy;cases hq:(af a && af b && af v)with
    |false=>rw[hq]at e;cases e
    |true=>
     rw[hq]at e;simp only[cond_true,YO]at e;subst e;simp only[YB]at hq;have hb:=hp _ rfl;refine⟨Km (fun c h=>by rw[Zi]at h;cases h) fun μ w ρ _ XT=> ?_,Shape.same _ _ _⟩;have e1:=T0 hq.1.1 (XT x (by simp[Zi,Op.operands]) _ hx);have e2:=T0 hq.1.2 (XT y (by simp[Zi,Op.operands]) _ hy);refine⟨v, ?_,PL hq.2⟩;simp only[execOp,Zi,e1,e2];rw[Sem.run_bind,hb x y w];rfl
   ·cases e
  ·cases e
 ·rename_i keys out Yp n' W;split at e
  ·rename_i c Zi;split at e
   ·rename_i g args H1 n1 R W1 hcr;cases hn:(Lf n1 n && W1.isEmpty)with
    |false=>rw[hn]at e;cases e
    |true=>
     rw[hn]at e;simp only[cond_true]at e;simp only[YB,List.isEmpty_iff]at hn;obtain⟨JZ,rfl⟩:=hn;have JZ:=YE JZ;subst JZ;split at e
     ·rename_i c1 hc1;simp only[YO]at e;subst e;exact Jg hF Zi hu hcr ((hp _ rfl).callJ hc1)
     ·cases e
   ·rename_i l fn tm cda cdb H1 n1 R W1 hcr;cases hn:(Lf n1 n && W1.isEmpty && LP tm.size 16000)with
    |false=>rw[hn]at e;cases e
    |true=>
     rw[hn]at e;simp only[cond_true,YO]at e;subst e;simp only[YB,List.isEmpty_iff]at hn;obtain⟨⟨JZ,rfl⟩,ZA⟩:=hn;have JZ:=YE JZ;subst JZ;have Vv:=FJ.recS (hp _ rfl);have:=YY hF Vv (QI P B) hu (T:=T) (o:=o) (s:=⟨out,Yp++H1,n',R++keys,W⟩) (by
      simp[di,Zi,hcr,ZA,S7])
     exact this
   ·cases e
  ·cases e
 ·rename_i out fz;split at e
  ·rename_i c Zi;split at e
   ·rename_i g args H1 n1 R W1 hcr;cases hn:(Lf n1 n && W1.isEmpty)with
    |false=>rw[hn]at e;cases e
    |true=>
     rw[hn]at e;simp only[cond_true]at e;simp only[YB,List.isEmpty_iff]at hn;obtain⟨JZ,rfl⟩:=hn;have JZ:=YE JZ;subst JZ;split at e
     ·rename_i ts R2 L ZB;cases Xp:(R2.all fun i=>Ls i n1)with
      |false=>rw[Xp]at e;cases e
      |true=>
       rw[Xp]at e;simp only[cond_true]at e;cases hpl:bh 2 out with
       |true=>
        rw[hpl]at e;simp only[cond_true,YO]at e;subst e;obtain⟨hL,hpc⟩:=hp _ rfl;exact Jg hF Zi hu hcr (Bq hJ ZB hL hpc hpl Xp)
       |false=>
        rw[hpl]at e;simp only[cond_false]at e;cases hq:((R2.all fun i=>X0 (Qt H1 i)) && tL 4 out)with
        |false=>rw[hq]at e;cases e
        |true=>
         rw[hq]at e;simp only[cond_true,YO]at e;subst e;simp only[YB]at hq;obtain⟨hL,hpc⟩:=hp _ rfl;exact Jg hF Zi hu hcr (wG hJ ZB hL hpc Xp hq.1 hq.2)
     ·cases e
   ·cases e
  ·cases e
 ·rename_i out fz;split at e
  ·rename_i c Zi;split at e
   ·rename_i g args H1 n1 R W1 hcr;cases hn:(Lf n1 n && W1.isEmpty)with
    |false=>rw[hn]at e;cases e
    |true=>
     rw[hn]at e;simp only[cond_true]at e;simp only[YB,List.isEmpty_iff]at hn;obtain⟨JZ,rfl⟩:=hn;have JZ:=YE JZ;subst JZ;split at e
     ·rename_i ts R2 L ZB;cases hq:((R2.all fun i=>Ls i n1) && (R2.all fun i=>X0 (Qt H1 i) || bP (Qt H1 i)) && tL 4 out)with
      |false=>rw[hq]at e;cases e
      |true=>
       rw[hq]at e;simp only[cond_true,YO]at e;subst e;simp only[YB]at hq;obtain⟨hL,hpc⟩:=hp _ rfl;exact Jg hF Zi hu hcr (sP hJ ZB hL hpc hq.1.1 hq.1.2 hq.2)
     ·cases e
   ·cases e
  ·cases e
 ·rename_i κ R ps qs out outs news;split at e
  ·rename_i c Zi;split at e
   ·rename_i g args H1 n1 R0 W1 hcr;cases hn:(Lf n1 n && W1.isEmpty)with
    |false=>rw[hn]at e;cases e
    |true=>
     rw[hn]at e;simp only[cond_true]at e;simp only[YB,List.isEmpty_iff]at hn;obtain⟨JZ,rfl⟩:=hn;have JZ:=YE JZ;subst JZ;split at e
     ·rename_i as bs o1 Yp L hw;simp only[YO]at e;subst e;obtain⟨hL,hwr⟩:=hp _ rfl;exact Jg hF Zi hu hcr (hwr.callJ hJ κ R ps qs hw hL rfl rfl)
     ·cases e
   ·cases e
  ·cases e
 ·-- a tree PN is not nil
  split at e
  ·rename_i op t x y yt Zi;split at e
   ·rename_i v hx hy;split at e
    ·rename_i r m cs el htop hue;cases hq:(Ls r n && X0 (Qt H r))with
     |false=>rw[hq]at e;cases e
     |true=>
      rw[hq]at e;simp only[cond_true]at e;simp only[YB]at hq;obtain⟨Xp,WN⟩:=hq;have key:0<m->∀(μ:Mu) (w:World) (ρ:Operand->Value) (im:dx),μ r=some im->(∀x'∈o.op.operands,∀v',Zd T x'=some v'->VR μ v' (ρ x'))->ρ y=.slice none 0 0/\∃p c,ρ x=.slice (some p) m c:=fun hm μ w ρ im QJ XT=>by
       have hv:=XT x (by simp[Zi,Op.operands]) _ hx;have h2:=XT y (by simp[Zi,Op.operands]) _ hy;rw[S3 htop]at hv;obtain⟨ZD,QN,htr⟩:=hv.top_inv;have e2:ρ y=.slice none 0 0:=by generalize ρ y=z at h2;cases h2;rfl
       refine⟨e2, ?_⟩;rcases htr.slice_inv with ⟨b,o',c',arr,ty,fl,h1,_,_,_,_,_⟩|⟨h0,_⟩
       ·exact⟨_,_,h1⟩
       ·omega
      have heq:∀(p:Addr) (c:Nat) (w:World),(Op.equal t (.slice (some p) m c) (.slice none 0 0)).run P w=.ok false w:=fun p c w=>by
       show(Op.equalIn (9999+1) t (.slice (some p) m c) (.slice none 0 0)).run P w=.ok false w;unfold Op.equalIn;rw[Z1]at hue;simp[Sem.run_bind,run_underlying hue,Sem.run_pure]
      split at e
      ·rename_i hop2;simp only[YO]at e;subst e;have hm:=hp _ rfl;refine⟨UU (YL Xp) WN (fun c h=>by rw[Zi]at h;cases h) fun μ w ρ im QJ hf XT=> ?_,Shape.same _ _ _⟩;obtain⟨e2,p,c,e1⟩:=key hm μ w ρ im QJ XT;exact⟨.bool false,by simp[execOp,Zi,e1,e2,eqGuard,binOp,Sem.run_bind,Sem.run_pure,heq],.bool _⟩
      ·rename_i hop2;simp only[YO]at e;subst e;have hm:=hp _ rfl;refine⟨UU (YL Xp) WN (fun c h=>by rw[Zi]at h;cases h) fun μ w ρ im QJ hf XT=> ?_,Shape.same _ _ _⟩;obtain⟨e2,p,c,e1⟩:=key hm μ w ρ im QJ XT;exact⟨.bool true,by simp[execOp,Zi,e1,e2,eqGuard,binOp,Sem.run_bind,Sem.run_pure,heq],.bool _⟩
      ·cases e
    ·cases e
   ·cases e
  ·cases e
 ·rename_i κ R ps qs out outs news o2;split at e
  ·rename_i c Zi;split at e
   ·rename_i g args H1 n1 R0 W1 hcr;cases hn:(Lf n1 n && W1.isEmpty)with
    |false=>rw[hn]at e;cases e
    |true=>
     rw[hn]at e;simp only[cond_true]at e;simp only[YB,List.isEmpty_iff]at hn;obtain⟨JZ,rfl⟩:=hn;have JZ:=YE JZ;subst JZ;split at e
     ·rename_i as bs o1 Yp L hw;simp only[YO]at e;subst e;obtain⟨⟨hL,hwr⟩,ho⟩:=hp _ rfl;subst ho;exact Jg hF Zi hu hcr (hwr.callJ hJ κ R ps qs hw hL rfl rfl)
     ·cases e
   ·cases e
  ·cases e
end
abbrev Kl(k:Int)(n:Nat)(xs:Array Value)(t:Nat)(v:Array Value):Prop:=k=(↑k.toNat:Int)/\k.toNat<n/\xs.extract (k.toNat*t) (k.toNat*t+t)=v
abbrev Rv(a v r:Array Value)(n f z:Nat):Prop:=a.size=n*f/\n+1<=maxLen/\(n+1)*z<=140737488355328/\a++v=r
end Go.CE

namespace Go.CE
open Go Go.RowKit

abbrev Q7:=List (Nat×Qh)
def Oz(sc:Q7)(q:Nat):Option Qh×Q7:=match sc with
 |(k,h)::l=>bif Lf k q then(some h,l)else(none,sc)
 |[]=>(none,[])
structure RRT where
 Qz:List Rec
 T:Tm
 H:Qq
 n:Nat
 sc:Q7
 q:Nat
 L:List Prop
 Wn:Option (Value×List Nat×List Nat)
def fF(P:Program)(F:FuncId->Bool)(J:World->Prop)(B:Lo)(ops:Array Oper):List Oper->Tm->Qq->Nat->Q7->Nat->List Prop->Option RRT
 |[],T,H,n,sc,q,L=>some ⟨[],T,H,n,sc,q,L,none⟩
 |o::l,T,H,n,sc,q,L=>
  bif Rp T o.dst then
   bif Region.wanted o (XS ops T)then
    match Oz sc q with
    |(h,sc')=>match opT P F J B T o H n h with
     |some ⟨⟨.ret v,H1,n1,R,W⟩,p⟩=>match fF P F J B ops l (VG T o.dst v) H1 n1 sc' (q+1) (more p L)with
      |some r=>some {r with Qz:=⟨o,true,v,T,H,H1,n,n1,R,W⟩::r.Qz}
      |none=>none
     |some ⟨⟨.Wn v,H1,n1,R,W⟩,p⟩=>some ⟨[],T,H1,n1,sc',q+1,more p L,some (v,R,W)⟩
     |none=>none
   else match fF P F J B ops l (VG T o.dst undef) H n sc (q+1) L with
    |some r=>some {r with Qz:=⟨o,false,undef,T,H,H,n,n,[],[]⟩::r.Qz}
    |none=>none
  else none
def Ml(P:Program)(F:FuncId->Bool)(B:Lo)(c:CF)(H:Qq)(n:Nat)(f:Operand)(params:Array Tmp)(assign body:Code)(k:List Item)(keys:List Nat)(out:OO)(Yp:Qq)(n':Nat)(W:List Nat):Option (CF×Qq×Prop):=
 match Zd c.tmps f with
 |some fv=>match Ki c H n params assign body with
  |some (H1,l,ds,_)=>match Si F H1 fv #[.func (.yield l) #[] #[]]with
   |some (.enter g args,_)=>match Wa P g args with
    |some c1=>match out with
     | .ret _=>some ({c with todo:=.endRangeFunc l::k,defers:=ds++c.defers},Yp++H1,FJ P B c1 H1 (l+1) out (Yp++H1) n' keys W)
     | .Wn v=>some ({c with mode:=.Wn v,defers:=ds++c.defers},Yp++H1,FJ P B c1 H1 (l+1) out (Yp++H1) n' keys W)
    |none=>none
   |_=>none
  |none=>none
 |none=>none
def Qo(P:Program)(F:FuncId->Bool)(J:World->Prop)(B:Lo):Nat->Nat->CF->Qq->Nat->Q7->Nat->List Nat->List Prop->Option ST
 |0,_,c,H,n,_,_,W,L=>some ⟨.at c H n,W,L⟩
 |k+1,b,c,H,n,sc,q,W,L=>
  match c.mode,c.todo with
  | .run,.code (.region _ ops draw)::todo=>match fF P F J B ops ops.toList c.tmps H n sc q L with
    |some r=>match r.Wn with
     |none=>bif !draw || (WY 0 ops.toList && indep ops 0 r.Qz (P3 ops.toList []))then Qo P F J B k b {c with tmps:=r.T,todo:=todo} r.H r.n r.sc r.q (ZT b (Uc r.Qz) W) r.L else none
     |some (v,_,W1)=>bif !draw || ai ops r.Qz r.T then Qo P F J B k b {c with tmps:=r.T,mode:=.Wn v} r.H r.n r.sc r.q (ZT b (Uc r.Qz++W1) W) r.L else none
    |none=>none
  | .run,.code (.rangeFunc f params assign body)::todo=>match Oz sc q with
    |(some (.XD (.call keys out Yp n1 W1)),sc')=>match Mm P F B c H n f params assign body todo keys out Yp n1 W1 with
     |some (c',H',p)=>Qo P F J B k b c' H' n1 sc' q (ZT b W1 W) (p::L)
     |none=>none
    |(some (.call keys out Yp n1 W1),sc')=>match Ml P F B c H n f params assign body todo keys out Yp n1 W1 with
     |some (c',H',p)=>Qo P F J B k b c' H' n1 sc' q (ZT b W1 W) (p::L)
     |none=>none
    |_=>none
  |_,_=>match Sb P F Xy (fun _ _ _=>none) c H n with
   |some (.go c' H' n' _ W')=>Qo P F J B k b c' H' n' sc q (ZT b W' W) L
   |some (.done out H' n' _ W')=>some ⟨.fin out H' n',ZT b W' W,L⟩
   |none=>none
section
variable {P:Program} {F:FuncId->Bool} {J:World->Prop} {B:Lo}
theorem PS{ops:Array Oper}:∀(l:List Oper) (T:Tm) (H:Qq) (n:Nat) (sc:Q7) (q:Nat) (L:List Prop) (r:RRT),fF P F J B ops l T H n sc q L=some r->Qr r.L->Qr L
 |[],T,H,n,sc,q,L,r,h,ha=>by
  simp only[fF,YO]at h;subst h;exact ha
 |o::l,T,H,n,sc,q,L,r,h,ha=>by
  simp only[fF]at h;cases hd:Rp T o.dst with
  |false=>rw[hd]at h;cases h
  |true=>
   rw[hd]at h;simp only[cond_true]at h;cases hw:Region.wanted o (XS ops T)with
   |true=>
    rw[hw]at h;simp only[cond_true]at h;split at h
    ·rename_i v H1 n1 R W p Zi;split at h
     ·rename_i r' hr;simp only[YO]at h;subst h;exact(hP (PS l _ _ _ _ _ _ r' hr ha)).2
     ·cases h
    ·simp only[YO]at h;subst h;exact(hP ha).2
    ·cases h
   |false=>
    rw[hw]at h;simp only[cond_false]at h;split at h
    ·rename_i r' hr;simp only[YO]at h;subst h;exact PS l _ _ _ _ _ _ r' hr ha
    ·cases h
def RegOk(P:Program)(B:Lo)(ops:Array Oper)(l:List Oper)(T:Tm)(H:Qq)(n:Nat)(r:RRT):Prop:=match r.Wn with
 |none=>Yn r.Qz T H n r.T r.H r.n/\r.Qz.map (·.o)=l/\Under r.H r.n
 |some (v,R,W)=> ∃H1 n1 o l2,Yn r.Qz T H n r.T H1 n1/\r.Qz.map (·.o)++o::l2=l/\Region.wanted o (XS ops r.T)=true/\T3 P B o (Zd r.T) H1 n1 (.Wn v) r.H r.n R W/\Shape H1 n1 r.H r.n R W/\Under r.H r.n
theorem RegOk.cons{ops:Array Oper}{l:List Oper}{T:Tm}{H:Qq}{n:Nat}{r:RRT}{x:Rec}(h:RegOk P B ops l (VG T x.o.dst x.v) x.H' x.n' r)(hT:x.T=T)(hH:x.H=H)(hn:x.n=n):RegOk P B ops (x.o::l) T H n {r with Qz:=x::r.Qz}:=by
 unfold RegOk at h ⊢;cases hp:r.Wn with
 |none=>
  rw[hp]at h;obtain⟨h3,h4,h5⟩:=h;exact⟨⟨hT,hH,hn,h3⟩,by simp[h4],h5⟩
 |some p=>
  obtain⟨v,R,W⟩:=p;rw[hp]at h;obtain⟨H1,n1,o,l2,h1,h2,h3⟩:=h;exact⟨H1,n1,o,l2,⟨hT,hH,hn,h1⟩,by simp[h2],h3⟩
theorem R9(hF:∀g,F g=true->Q1 P g=true)(hJ:∀w,B.has w->J w){ops:Array Oper}{len:Nat}:∀(l:List Oper) (T:Tm) (H:Qq) (n:Nat) (sc:Q7) (q:Nat) (L:List Prop) (r:RRT),T.len=len->Under H n->fF P F J B ops l T H n sc q L=some r->Qr r.L->
 (∀x∈r.Qz,dm len x)/\(∀x∈r.Qz,Sl P B ops x)/\RegOk P B ops l T H n r
 |[],T,H,n,sc,q,L,r,hl,hu,h,ha=>by
  simp only[fF,YO]at h;subst h;exact⟨fun r hr=>by simp at hr,fun r hr=>by simp at hr,⟨rfl,rfl,rfl⟩,rfl,hu⟩
 |o::l,T,H,n,sc,q,L,r,hl,hu,h,ha=>by
  simp only[fF]at h;cases hd:Rp T o.dst with
  |false=>rw[hd]at h;cases h
  |true=>
   have hdst:=Ro hd;rw[hl]at hdst;rw[hd]at h;simp only[cond_true]at h;cases hw:Region.wanted o (XS ops T)with
   |true=>
    rw[hw]at h;simp only[cond_true]at h;split at h
    ·rename_i v H1 n1 R W p Zi;split at h
     ·rename_i r' hr;simp only[YO]at h;subst h;have hpL:=hP (PS l _ _ _ _ _ _ r' hr ha);obtain⟨hdo,RZ⟩:=rY hF hJ hu Zi hpL.1;obtain⟨h1,h2,h3⟩:=R9 hF hJ (ops:=ops) (len:=len) l (VG T o.dst v) H1 n1 _ _ _ r' (by rw[UZ];exact hl) (hu.shape RZ) hr ha;refine⟨fun x hx=> ?_,fun x hx=> ?_,RegOk.cons (x:=⟨o,true,v,T,H,H1,n,n1,R,W⟩) h3 rfl rfl rfl⟩
      ·rcases List.mem_cons.1 hx with rfl|hx
       ·exact⟨RZ.le,RZ.keep,RZ.top,RZ.sub,RZ.wlt,hdst⟩
       ·exact h1 x hx
      ·rcases List.mem_cons.1 hx with rfl|hx
       ·exact⟨hw.symm,(fun _=>hdo),(fun e=>by cases e)⟩
       ·exact h2 x hx
     ·cases h
    ·rename_i v H1 n1 R W p Zi;simp only[YO]at h;subst h;obtain⟨hdo,RZ⟩:=rY hF hJ hu Zi (hP ha).1;exact⟨fun r hr=>by simp at hr,fun r hr=>by simp at hr,H,n,o,l,⟨rfl,rfl,rfl⟩,rfl,hw,hdo,RZ,hu.shape RZ⟩
    ·cases h
   |false=>
    rw[hw]at h;simp only[cond_false]at h;split at h
    ·rename_i r' hr;simp only[YO]at h;subst h;obtain⟨h1,h2,h3⟩:=R9 hF hJ (ops:=ops) (len:=len) l (VG T o.dst undef) H n _ _ _ r' (by rw[UZ];exact hl) hu hr ha;refine⟨fun x hx=> ?_,fun x hx=> ?_,RegOk.cons (x:=⟨o,false,undef,T,H,H,n,n,[],[]⟩) h3 rfl rfl rfl⟩
     ·rcases List.mem_cons.1 hx with rfl|hx
      ·exact⟨LH _,fun _ _ _=>rfl,fun _ _=>rfl,fun i hi=>by simp at hi,fun i hi=>by simp at hi,hdst⟩
      ·exact h1 x hx
     ·rcases List.mem_cons.1 hx with rfl|hx
      ·exact⟨hw.symm,(fun e=>by cases e),fun _=>⟨rfl,rfl,rfl,rfl⟩⟩
      ·exact h2 x hx
    ·cases h
theorem qa{c:CF}{H:Qq}{n:Nat}{id:Nat}{ops:Array Oper}{k:List Item}{Qz:List Rec}{v:Value}{H':Qq}{n':Nat}{R W:List Nat}{T':Tm}(hm:c.mode=.run)
 (ht:c.todo=.code (.region id ops false)::k) (hs:∀x∈Qz,dm c.tmps.len x) (hk:∀x∈Qz,Sl P B ops x)
 (h:∃H1 n1 o l2,Yn Qz c.tmps H n T' H1 n1/\Qz.map (·.o)++o::l2=ops.toList/\Region.wanted o (XS ops T')=true/\T3 P B o (Zd T') H1 n1 (.Wn v) H' n' R W/\Shape H1 n1 H' n' R W/\Under H' n'):
 GoJ P B c H n {c with tmps:=T',mode:=.Wn v} H' n' (Y9 Qz++R) (Uc Qz++W):=by
 obtain⟨H1,n1,o,l2,Sw,hmap,Yh,hdo,RZ,_⟩:=h;have hown:=KC (l2:=o::l2) hmap rfl;have hlen:ops.size=Qz.length+(l2.length+1):=by have:=congrArg Lc hmap;simp at this;omega
 have hat:ops[Qz.length]? =some o:=by
  rw[<-Lr,<-hmap,Ll (by simp)];simp
 have hsh1:=Wb Qz _ _ _ _ _ _ Sw hs;have l1:=hsh1.le;have l3:=RZ.le;refine⟨hsh1.trans RZ,fun S μ w fr cs Z QE hB hS hf XJ hR=> ?_⟩;obtain⟨a,b,d⟩:=XJ.running hm;rw[ht]at d;obtain⟨L',e,hL⟩:=d.code;have hf1:P4 μ n n1:=fun q x y=>hf q x (by omega)
 obtain⟨μ1,A1,w1,hp,hT,ZB⟩:=cv (fr:=fr) (cs:=cs) (k:=L') a Qz 0 c.tmps H n T' H1 n1 (LK Qz.length (l2.length+1)) Sw hs hk (fun j r hj=>by rw[LB];exact hown j r hj) rfl S μ w fr.tmps QE hB hS hf1
  (fun q hq Xp=>hR q (Lm _ hq) Xp) b
 have hr:LK 0 Qz.length++LK Qz.length (l2.length+1)=LK 0 ops.size:=by
  rw[hlen];have:=List.range'_append_1 (s:=0) (m:=Qz.length) (n:=l2.length+1);simpa using this
 rw[hr,List.range'_succ]at ZB;obtain⟨Zh,w2,μ2,Pb,ho,hst2⟩:=hdo _ μ1 w1 (Xu fr A1 ops (Qz.length::LK (Qz.length+1) l2.length) L') cs L' ops Qz.length _ hp.ok (hB.post QE hp) (fun q hq=>hq.elim (fun e=>by have:=hS q e;omega) (fun e=>e.2))
  (fun q x y=>by rw[hp.ext q (by omega)];exact hf q (by omega) y) (fun x _ v hv=>so (fr:=Xu fr A1 ops (Qz.length::LK (Qz.length+1) l2.length) L') hT x v hv) (fun q hq Xp=>by
   rcases LJ q n with h1|h1
   ·exact .inl (hR q (Lx _ hq) h1)
   ·exact .inr ⟨h1,Xp⟩) a rfl hat (by rw[show(Xu fr A1 ops (Qz.length::LK (Qz.length+1) l2.length) L').tmps=A1 from rfl,YH hT];exact Yh)
 have hpp:=hp.trans Pb;cases ho with
 |Wn hv=>
  rename_i v';refine⟨{Xu fr A1 ops (Qz.length::LK (Qz.length+1) l2.length) L' with mode:=.panicking [{v:=v',recovered:=false}]},w2,μ2,hpp,⟨XJ.fn,hT.mono (Pb.mu fun q x y=>by rw[hp.ext q (by omega)];exact hf q (by omega) y),(fun h=>by cases h),XJ.defers.mono (hpp.mu hf),.Wn hv,XJ.kind,XJ.round.mono (hpp.mu hf)⟩,rfl,rfl,
   .head (Ww a e) (ZB.trans (hst2.trans ?_))⟩
  simp only[OO.on,Frame.raise,Xu,a];exact Steps.refl _ _
theorem zZ(hF:∀g,F g=true->Q1 P g=true)(Zl:P.follows .mixedOrders=true){c c':CF}{H H':Qq}{n n':Nat}{f:Operand}{params:Array Tmp}{assign body:Code}{k:List Item}{keys W:List Nat}{out:OO}{Yp:Qq}{p:Prop}(hu:Under H n)(hm:c.mode=.run)(ht:c.todo=.code (.rangeFunc f params assign body)::k)
 (h:Ml P F B c H n f params assign body k keys out Yp n' W=some (c',H',p)) (hp:p):∃R,GoJ P B c H n c' H' n' R W:=by
 unfold Ml at h;split at h
 ·rename_i fv hfv;split at h
  ·rename_i H1 l ds R1 ho;split at h
   ·rename_i g args R2 hc;split at h
    ·rename_i c1 he;refine⟨R1++R2++keys, ?_⟩;split at h
     ·rename_i v;simp only[YO,YR]at h;obtain⟨rfl,rfl,rfl⟩:=h;have:Sb P F Xy (TM c1 H1 (l+1) ⟨.ret v,Yp++H1,n',keys,W⟩) c H n=some (.go {c with todo:=.endRangeFunc l::k,defers:=ds++c.defers} (Yp++H1) n' (R1++R2++keys) W):=by
       unfold Sb;simp only[hm,ht,hfv,ho,hc,he,S7]
      exact V0 hF Zl (QI P B) (FJ.recS hp) hu this
     ·rename_i v;simp only[YO,YR]at h;obtain⟨rfl,rfl,rfl⟩:=h;have:Sb P F Xy (TM c1 H1 (l+1) ⟨.Wn v,Yp++H1,n',keys,W⟩) c H n=some (.go {c with mode:=.Wn v,defers:=ds++c.defers} (Yp++H1) n' (R1++R2++keys) W):=by
       unfold Sb;simp only[hm,ht,hfv,ho,hc,he,S7]
      exact V0 hF Zl (QI P B) (FJ.recS hp) hu this
    ·cases h
   ·cases h
  ·cases h
 ·cases h
theorem TK(b:Nat):∀(fuel:Nat) (c:CF) (H:Qq) (n:Nat) (sc:Q7) (q:Nat) (W0:List Nat) (L:List Prop) (s:ST),Qo P F J B fuel b c H n sc q W0 L=some s->Qr s.L->Qr L:=by
 intro fuel;induction fuel with
 |zero=>intro c H n sc q W0 L s h ha;simp only[Qo,YO]at h;subst h;exact ha
 |succ k ih=>
  intro c H n sc q W0 L s h ha;simp only[Qo]at h;split at h
  ·split at h
   ·rename_i r' hr';split at h
    ·have h:=Jj h;exact PS _ _ _ _ _ _ _ _ hr' (ih _ _ _ _ _ _ _ _ h ha)
    ·exact PS _ _ _ _ _ _ _ _ hr' (ih _ _ _ _ _ _ _ _ (Jj h) ha)
   ·cases h
  ·split at h
   ·split at h
    ·exact(ih _ _ _ _ _ _ _ _ h ha).2
    ·cases h
   ·split at h
    ·exact(ih _ _ _ _ _ _ _ _ h ha).2
    ·cases h
   ·cases h
  ·split at h
   ·exact ih _ _ _ _ _ _ _ _ h ha
   ·simp only[YO]at h;subst h;exact ha
   ·cases h
theorem WH(hF:∀g,F g=true->Q1 P g=true)(hJ:∀w,B.has w->J w)(Zl:P.follows .mixedOrders=true):∀(fuel b:Nat) (c:CF) (H:Qq) (n:Nat) (sc:Q7) (q:Nat) (W0:List Nat) (L:List Prop) (s:ST),Under H n->Qo P F J B fuel b c H n sc q W0 L=some s->Qr s.L->
 ∃R W,SRJ P B c H n R W s.r/\∀i,i<b->(i∈s.W<->i∈W0\/i∈W)
 |0,b,c,H,n,sc,q,W0,L,s,hu,h,ha=>by
  simp only[Qo,YO]at h;subst h;exact⟨[],[],GoJ.refl c H n,fun i _=>by simp⟩
 |k+1,b,c,H,n,sc,q,W0,L,s,hu,h,ha=>by
  have plain:(match Sb P F Xy (fun _ _ _=>none) c H n with
   |some (.go c' H' n' _ W')=>Qo P F J B k b c' H' n' sc q (ZT b W' W0) L
   |some (.done out H' n' _ W')=>some ⟨.fin out H' n',ZT b W' W0,L⟩
   |none=>none)=some s->∃R W,SRJ P B c H n R W s.r/\∀i,i<b->(i∈s.W<->i∈W0\/i∈W):=by
   intro h;split at h
   ·rename_i c' H' n' R' W' hs;have a8:GoJ P B c H n c' H' n' R' W':=V0 hF Zl (QI P B) P5 hu hs;obtain⟨R,W,h1,h2⟩:=WH hF hJ Zl k b c' H' n' sc q _ L s (hu.shape a8.shape) h ha;refine⟨_,_,a8.srj h1,fun i hi=> ?_⟩;rw[h2 i hi,Z9 hi,List.mem_append,or_assoc]
   ·rename_i out H' n' R' W' hs;have hdone:FJ P B c H n out H' n' R' W':=V0 hF Zl (QI P B) P5 hu hs;simp only[YO]at h;subst h;exact⟨R',W',hdone,fun i hi=>Z9 hi⟩
   ·cases h
  simp only[Qo]at h;split at h
  ·rename_i id ops draw todo hm ht;split at h
   ·rename_i r hr;cases hpan:r.Wn with
    |none=>
     rw[hpan]at h;simp only at h;cases hd:(!draw || (WY 0 ops.toList && indep ops 0 r.Qz (P3 ops.toList [])))with
     |false=>rw[hd]at h;cases h
     |true=>
      rw[hd]at h;simp only[cond_true]at h;have hL:Qr r.L:=by
       exact TK b k _ _ _ _ _ _ _ s h ha
      obtain⟨h1,h2,WN⟩:=R9 hF hJ (len:=c.tmps.len) ops.toList c.tmps H n sc q L r rfl hu hr hL;unfold RegOk at WN;rw[hpan]at WN;obtain⟨h3,h4,h5⟩:=WN;have a8:=uj Zl hm ht h1 h2 h3 h4 hd;obtain⟨R,W,k1,k2⟩:=WH hF hJ Zl k b _ _ _ _ _ _ _ s h5 h ha;refine⟨_,_,a8.srj k1,fun i hi=> ?_⟩;rw[k2 i hi,Z9 hi,List.mem_append,or_assoc]
    |some p=>
     obtain⟨v,R1,W1⟩:=p;rw[hpan]at h;simp only at h;cases hd:(!draw || ai ops r.Qz r.T)with
     |false=>rw[hd]at h;cases h
     |true=>
      rw[hd]at h;simp only[cond_true]at h;have hL:Qr r.L:=by
       exact TK b k _ _ _ _ _ _ _ s h ha
      obtain⟨h1,h2,WN⟩:=R9 hF hJ (len:=c.tmps.len) ops.toList c.tmps H n sc q L r rfl hu hr hL;unfold RegOk at WN;rw[hpan]at WN;have a8:GoJ P B c H n {c with tmps:=r.T,mode:=.Wn v} r.H r.n (Y9 r.Qz++R1) (Uc r.Qz++W1):=by
       cases draw with
       |true=>
        obtain⟨H1,n1,o,l2,x1,x2,x3,x4,x5,_⟩:=WN;exact kj Zl hm ht h1 h2 ⟨H1,n1,o,l2,x1,x2,x3,x4,x5⟩ (by simpa using hd)
       |false=>exact qa hm ht h1 h2 WN
      obtain⟨_,_,_,_,_,_,_,_,_,h5⟩:=WN;obtain⟨R,W,k1,k2⟩:=WH hF hJ Zl k b _ _ _ _ _ _ _ s h5 h ha;refine⟨_,_,a8.srj k1,fun i hi=> ?_⟩;rw[k2 i hi,Z9 hi,List.mem_append (s:=Uc r.Qz++W1),or_assoc]
   ·cases h
  ·rename_i f params assign body todo hm ht;split at h
   ·rename_i keys out Yp n1 W1 sc' htold;split at h
    ·rename_i c' H' p hi;have hL:=TK b k _ _ _ _ _ _ _ s h ha;obtain⟨R0,a8⟩:=Aa hF Zl hu hm ht hi hL.1;obtain⟨R,W,h1,h2⟩:=WH hF hJ Zl k b _ _ _ _ _ _ _ s (hu.shape a8.shape) h ha;refine⟨_,_,a8.srj h1,fun i hi=> ?_⟩;rw[h2 i hi,Z9 hi,List.mem_append,or_assoc]
    ·cases h
   ·rename_i keys out Yp n1 W1 sc' htold;split at h
    ·rename_i c' H' p hi;have hL:=TK b k _ _ _ _ _ _ _ s h ha;obtain⟨R0,a8⟩:=zZ hF Zl hu hm ht hi hL.1;obtain⟨R,W,h1,h2⟩:=WH hF hJ Zl k b _ _ _ _ _ _ _ s (hu.shape a8.shape) h ha;refine⟨_,_,a8.srj h1,fun i hi=> ?_⟩;rw[h2 i hi,Z9 hi,List.mem_append,or_assoc]
    ·cases h
   ·cases h
  ·exact plain h
end
end Go.CE

namespace Go.CE
open Go Go.RowKit

def Ph(H:Qq)(n:Nat):List Nat:=(Lg n).filter fun r=>X0 (Qt H r)
theorem qW{H:Qq}{n r:Nat}:r∈Ph H n<->r<n/\X0 (Qt H r)=true:=by simp[Ph]
noncomputable def lq(n n1:Nat)(ρ:Nat->Nat)(μ μ':Mu)(fm:Nat->Option Obj):Mu:=fun i=>if i=n then some ⟨0,0,0,false,fm⟩else if n<i/\i<n1 then μ' (ρ i)else μ i
structure Dx (n n' n1:Nat) (W:List Nat) (μ μ':Mu) (H H' H1:Qq) (w':World) (ρ:Nat->Nat) (fk:List Nat):Prop where
 le:n<n1
 id:∀i,i<n->ρ i=i
 rng:∀i,n<i->i<n1->n<=ρ i/\ρ i<n'
 inj:∀i j,n<i->i<n1->n<j->j<n1->ρ i=ρ j->i=j
 under:Under H1 n1
 XD:∀i,i<n->i ∉ W->Qt H1 i=Qt H i
 Pj:Qt H1 n=some Xx
 obj:∀i o1,i<n1->(n<i\/i∈W/\i<n)->Qt H1 i=some o1->¬Wd o1/\(live o1->∃o,Qt H' (ρ i)=some o/\live o/\∀im,μ' (ρ i)=some im->OR μ' w' im o->OR (lq n n1 ρ μ μ' (YD μ' H' w' (Ph H' n'++fk))) w' im o1)
 fz:∀k∈fk,n<=k/\k<n'/\(∃o,Qt H' k=some o/\live o)/\∀i,n<i->i<n1->ρ i≠k
theorem Post.merge{B n n' n1:Nat}{W:List Nat}{μ μ':Mu}{H H' H1:Qq}{w w':World}{ρ:Nat->Nat}{fk:List Nat}(QE:Ok B (fun i=>i<n) μ (Qt H) w)(hf:∀i,n<=i->μ i=none)(hp:Post B (fun i=>i<n) n n' W μ μ' H H' w w')(k:Dx n n' n1 W μ μ' H H' H1 w' ρ fk):
 Post B (fun i=>i<n) n n1 W μ (lq n n1 ρ μ μ' (YD μ' H' w' (Ph H' n'++fk))) H H1 w w':=by
 have le1:=k.le;have hlow:∀i,i<n->lq n n1 ρ μ μ' (YD μ' H' w' (Ph H' n'++fk)) i=μ i:=fun i hi=>by unfold lq;rw[if_neg (by omega),if_neg (by omega)]
 have hhigh:∀i,n<i->i<n1->lq n n1 ρ μ μ' (YD μ' H' w' (Ph H' n'++fk)) i=μ' (ρ i):=fun i h1 h2=>by unfold lq;rw[if_neg (by omega),if_pos ⟨h1,h2⟩]
 have hmid:lq n n1 ρ μ μ' (YD μ' H' w' (Ph H' n'++fk)) n=some ⟨0,0,0,false,YD μ' H' w' (Ph H' n'++fk)⟩:=by unfold lq;rw[if_pos rfl]
 have hext:Ext μ (lq n n1 ρ μ μ' (YD μ' H' w' (Ph H' n'++fk))):=by
  intro i im QJ;rcases LJ i n with h|h
  ·rw[hlow i h];exact QJ
  ·rw[hf i h]at QJ;cases QJ
 generalize hM:lq n n1 ρ μ μ' (YD μ' H' w' (Ph H' n'++fk))=μ1 at *;have obj:=k.obj;rw[hM]at obj
 -- an object of the new heap: an XD one PN was left, the region, or one of the run
 have other:∀i o im,i<n->i ∉ W->Qt H i=some o->live o->μ i=some im->w'.heap[im.Zu]? =w.heap[im.Zu]? :=by
  intro i o im hi hw ho hl QJ;refine hp.frame _ (QE.low i o im hi ho hl QJ).1 fun q hq hqn ZD QN hb=> ?_
  obtain⟨_,⟨oq,hoq,hlq⟩,im2,WV,hr⟩:=hp.wr q hq hqn;rw[QN]at WV;cases WV;by_cases hra:im.rw=true
  ·exact QE.inj q i oq o ZD im hqn hi (fun e=>hw (e ▸ hq)) hoq ho hlq hl QN QJ hr hra hb
  ·have a:=(QE.low i o im hi ho hl QJ).2.2 (by simpa using hra);have b:=(QE.low q oq ZD hqn hoq hlq QN).2.1 hr;omega
 have hS':∀i,i<n1->i≠n->(ρ i<n\/n<=ρ i/\ρ i<n'):=by
  intro i hi JY;rcases LJ i n with h|h
  ·exact .inl (by rw[k.id i h];exact h)
  ·exact .inr (k.rng i (by omega) hi)
 have hmuR:∀i,i<n1->i≠n->μ1 i=μ' (ρ i):=by
  intro i hi JY;rcases LJ i n with h|h
  ·rw[hlow i h,k.id i h,hp.ext i (by omega)]
  ·exact hhigh i (by omega) hi
 have YC:∀i,(i<n\/n<=i/\i<n1)->i<n1:=fun i hi=>hi.elim (fun e=>by omega) (fun e=>e.2)
 have liveH':∀i o1,i<n1->Qt H1 i=some o1->live o1->i≠n/\∃o,Qt H' (ρ i)=some o/\live o:=by
  intro i o1 hi ho hl;have JY:i≠n:=fun e=>by rw[e,k.Pj]at ho;cases ho;exact hl.elim
  refine⟨JY, ?_⟩;by_cases h:n<i\/i∈W/\i<n
  ·obtain⟨o,h1,h2,_⟩:=(obj i o1 hi h ho).2 hl;exact⟨o,h1,h2⟩
  ·have h1:i<n:=by omega
   have h2:i ∉ W:=fun e=>h (.inr ⟨e,h1⟩)
   rw[k.XD i h1 h2]at ho;exact⟨o1,by rw[k.id i h1,hp.keep i h1 h2];exact ho,hl⟩
 have hinj:∀i j,i<n1->j<n1->i≠n->j≠n->ρ i=ρ j->i=j:=by
  intro i j hi hj YF hjn e;rcases LJ i n with h|h <;> rcases LJ j n with h'|h'
  ·rw[k.id i h,k.id j h']at e;exact e
  ·have:=k.rng j (by omega) hj;rw[k.id i h]at e;omega
  ·have:=k.rng i (by omega) hi;rw[k.id j h']at e;omega
  ·exact k.inj i j (by omega) hi (by omega) hj e
 have regH1:∀i o,i<n1->Qt H1 i=some o->Wd o->i=n\/(i<n/\i ∉ W/\Qt H i=some o/\Qt H' i=some o):=by
  intro i o hi ho hr;by_cases JY:i=n
  ·exact .inl JY
  ·by_cases h:n<i\/i∈W/\i<n
   ·exact absurd hr (obj i o hi h ho).1
   ·have h1:i<n:=by omega
    have h2:i ∉ W:=fun e=>h (.inr ⟨e,h1⟩)
    rw[k.XD i h1 h2]at ho;exact .inr ⟨h1,h2,ho,by rw[hp.keep i h1 h2];exact ho⟩
 have deadW:∀q,q∈W->q<n->(∀o,Qt H' q=some o->¬live o)->∀o,Qt H1 q=some o->¬live o:=by
  intro q hq hqn hd o ho hl;obtain⟨_,o',h5,h6⟩:=liveH' q o (by omega) ho hl;rw[k.id q hqn]at h5;exact hd o' h5 h6
 -- what stands in the region
 have fmCase:∀b x,YD μ' H' w' (Ph H' n'++fk) b=some x->w'.heap[b]? =some x/\((∃r o im,r<n'/\Qt H' r=some o/\Wd o/\μ' r=some im/\im.fm b=some x)\/∃q o im,q∈fk/\Qt H' q=some o/\live o/\μ' q=some im/\im.Zu=b):=by
  intro b x h;have hw:=Vt h;refine⟨hw, ?_⟩;unfold YD at h;split at h
  ·rename_i hc;obtain⟨i,hi,o,im,ho,QJ,Yi⟩:=hc;rcases List.mem_append.1 hi with hi|hi
   ·obtain⟨Xp,Yr⟩:=qW.1 hi;obtain⟨o',Kt,hr'⟩:=ZH Yr;rw[ho]at Kt;cases Kt;rcases Yi with ⟨_,JY⟩|⟨hl,_⟩
    ·cases hx:im.fm b with
     |none=>exact absurd hx JY
     |some y=>
      obtain⟨ZD,QN,hf'⟩:=hp.ok.Pj i o (by rcases LJ i n with h|h;exact .inl h;exact .inr ⟨h,Xp⟩) ho hr'
      rw[QJ]at QN;cases QN;have:=hf' b y hx;rw[hw]at this;cases this;exact .inl ⟨i,o,im,Xp,ho,hr',QJ,hx⟩
    ·exact absurd hl (by cases o <;> first|exact id|exact hr'.elim)
   ·obtain⟨h1,h2,⟨o',Kt,hl'⟩,_⟩:=k.fz i hi;rw[ho]at Kt;cases Kt;rcases Yi with ⟨hr,_⟩|⟨hl,hb⟩
    ·exact absurd hl' (by cases o <;> first|exact id|exact hr.elim)
    ·exact .inr ⟨i,o,im,hi,ho,hl,QJ,hb⟩
  ·cases h
 have hin':∀r,r<n'->(r<n\/n<=r/\r<n'):=fun r h=>by omega
 refine⟨⟨fun i o hi ho hl=> ?_,fun i o im hi ho hl QJ=> ?_,fun i j oi oj a b hi hj ay Wl Wk S0 Ud ha hb hra Yr=> ?_,fun i o hi ho hr=> ?_,fun i j oi oj a b x hi hj Wl Wk Pe Ud ha hb Yr hx=> ?_⟩,by omega,fun i hi=> ?_,fun i hi hw=>k.XD i hi hw,hp.grow,hp.frame,hp.wr,fun i im o h1 h2 ho hl QJ=> ?_,fun i im o hi ho hr QJ b x hx=> ?_,hp.os,hp.tape,hp.output⟩
 ·have hi1:=YC i hi;have JY:=(liveH' i o hi1 ho hl).1;by_cases h:n<i\/i∈W/\i<n
  ·obtain⟨o',h1,h2,h4⟩:=(obj i o hi1 h ho).2 hl;obtain⟨im,QJ,ZU⟩:=hp.ok.rel (ρ i) o' (hS' i hi1 JY) h1 h2;exact⟨im,by rw[hmuR i hi1 JY];exact QJ,h4 im QJ ZU⟩
  ·have h1:i<n:=by omega
   have h2:i ∉ W:=fun e=>h (.inr ⟨e,h1⟩)
   rw[k.XD i h1 h2]at ho;obtain⟨im,QJ,ZU⟩:=QE.rel i o h1 ho hl;exact⟨im,hext _ _ QJ,ZU.keep hext (other i o im h1 h2 ho hl QJ)⟩
 ·have hi1:=YC i hi;obtain⟨JY,o',h1,h2⟩:=liveH' i o hi1 ho hl;rw[hmuR i hi1 JY]at QJ;exact hp.ok.low (ρ i) o' im (hS' i hi1 JY) h1 h2 QJ
 ·have hi1:=YC i hi;have hj1:=YC j hj;obtain⟨hni,o1,h1,h2⟩:=liveH' i oi hi1 Wl S0;obtain⟨hnj,o2,h3,h4⟩:=liveH' j oj hj1 Wk Ud;rw[hmuR i hi1 hni]at ha;rw[hmuR j hj1 hnj]at hb;exact hp.ok.inj (ρ i) (ρ j) o1 o2 a b (hS' i hi1 hni) (hS' j hj1 hnj) (fun e=>ay (hinj i j hi1 hj1 hni hnj e)) h1 h3 h2 h4 ha hb hra Yr
 ·rcases regH1 i o (YC i hi) ho hr with YF|⟨h1,h2,h3,h4⟩
  ·rw[YF];exact⟨_,hmid,fun b x h=>Vt h⟩
  ·obtain⟨im,QJ,hf'⟩:=hp.ok.Pj i o (.inl h1) h4 hr;rw[hp.ext i (by omega)]at QJ;exact⟨im,hext _ _ QJ,hf'⟩
 ·have hj1:=YC j hj;obtain⟨hnj,o2,h3,h4⟩:=liveH' j oj hj1 Wk Ud;rw[hmuR j hj1 hnj]at hb;rcases regH1 i oi (YC i hi) Wl Pe with YF|⟨h1,h2,h5,h6⟩
  ·rw[YF,hmid]at ha;cases ha;obtain⟨_,Yi⟩:=fmCase _ _ hx;rcases Yi with ⟨r,o,im,Xp,ho,hr,QJ,hfx⟩|⟨q,o,im,hq,ho,hl,QJ,hbb⟩
   ·exact hp.ok.sep r (ρ j) o o2 im b x (hin' r Xp) (hS' j hj1 hnj) ho h3 hr h4 QJ hb Yr hfx
   ·obtain⟨q1,q2,_,q3⟩:=k.fz q hq;have JY:q≠ρ j:=by
     intro e;rcases LJ j n with h|h
     ·rw[k.id j h]at e;omega
     ·exact q3 j (by omega) hj1 e.symm
    have Ja:=(hp.fresh q im o q1 q2 ho hl QJ).1;exact hp.ok.inj q (ρ j) o o2 im b (hin' q q2) (hS' j hj1 hnj) JY ho h3 hl h4 QJ hb Ja Yr hbb
  ·rw[hlow i h1]at ha;exact hp.ok.sep i (ρ j) oi o2 a b x (.inl h1) (hS' j hj1 hnj) h6 h3 Pe h4 (by rw[hp.ext i (by omega)];exact ha) hb Yr hx
 ·rw[<-hM];unfold lq;rw[if_neg (by omega),if_neg (by omega)]
 ·obtain⟨JY,o',h3,h4⟩:=liveH' i o h2 ho hl;rw[hmuR i h2 JY]at QJ;obtain⟨a,b⟩:=k.rng i (by omega) h2;obtain⟨hr,XJ⟩:=hp.fresh (ρ i) im o' a b h3 h4 QJ;exact⟨hr,XJ.imp id fun⟨q,hq,hqn,hb,hd⟩=>⟨q,hq,hqn,hb,deadW q hq hqn hd⟩⟩
 ·have hi1:i<n1:=by omega
  rcases regH1 i o hi1 ho hr with YF|⟨h1,h2,_⟩
  ·rw[YF,hmid]at QJ;cases QJ;obtain⟨_,Yi⟩:=fmCase _ _ hx;rcases Yi with ⟨r,o,im,Xp,ho,hr,QJ,hfx⟩|⟨q,o,im,hq,ho,hl,QJ,hbb⟩
   ·by_cases hx:n<=r/\r<n'\/r∈W/\r<n
    ·rcases hp.rf r im o hx ho hr QJ b x hfx with c|c|⟨q,hq,hqn,hb,hd⟩
     ·exact .inl c
     ·exact .inr (.inl c)
     ·exact .inr (.inr ⟨q,hq,hqn,hb,deadW q hq hqn hd⟩)
    ·have h:r<n:=by omega
     rw[hp.keep r h fun e=>hx (.inr ⟨e,h⟩)]at ho;rw[hp.ext r (by omega)]at QJ;exact .inr (.inl ⟨r,im,o,h,h,ho,hr,QJ,hfx⟩)
   ·obtain⟨q1,q2,_,_⟩:=k.fz q hq;rcases(hp.fresh q im o q1 q2 ho hl QJ).2 with c|⟨q',hq',hqn,⟨ZD,QN,hb'⟩,hd⟩
    ·exact .inl (by omega)
    ·exact .inr (.inr ⟨q',hq',hqn,⟨ZD,QN,by omega⟩,deadW q' hq' hqn hd⟩)
  ·rcases hi with hi|hi
   ·omega
   ·exact absurd hi.1 h2
end Go.CE

namespace Go.CE
open Go Go.RowKit

section
variable (H:Qq) (m:Nat) (pos:Nat->Option Nat) (fz:List Fz)
def OA(v:Value):Option (Value×List Prop):=bif simple v then some (v,[])else match v with
 | .func (.via r ⟨[]⟩ 0 true) ⟨[t]⟩ ⟨[]⟩=>bif X0 (Qt H r) && WU t then some (Qw ((pos r).getD m) t,[])else none
 | .pointer (some ⟨k,o,none⟩)=>match pos k with
   |some j=>some (.pointer (some ⟨j,o,none⟩),[])
   |none=>match ku fz k,Qt H k with
    |some x,some (.cells cs _ (0,0))=>bif x.rs.all fun r=>X0 (Qt H r)then some (Qw m (SQ o x.cs),[X8 x.rs cs x.cs])else none
    |_,_=>some (.chan none,[])
 | .slice (some ⟨k,o,none⟩) n z=>match pos k with
   |some j=>some (.slice (some ⟨j,o,none⟩) n z,[])
   |none=>match o,ku fz k,Qt H k with
    |0,some x,some (.cells cs _ (0,0))=>bif x.rs.all fun r=>X0 (Qt H r)then some (Qw m (QC n x.cs),[X8 x.rs cs x.cs])else none
    |_,_,_=>some (.chan none,[])
 | .map (some r)=>match pos r with
   |some j=>some (.map (some j),[])
   |none=>some (.chan none,[])
 | .func (.yield l) ⟨[]⟩ ⟨[]⟩=>match pos l with
   |some j=>some (.func (.yield j) #[] #[],[])
   |none=>some (.chan none,[])
 | .chan none=>some (.chan none,[])
 |_=>none
def uw(f:Value->Option (Value×List Prop)):List Value->Option (List Value×List Prop)
 |[]=>some ([],[])
 |v::l=>match f v with
  |some (t,L)=>match uw f l with
   |some (ts,L2)=>some (t::ts,L++L2)
   |none=>none
  |none=>none
def Am:Nat->Value->Option (Value×List Prop)
 |0,v=>OA H m pos fz v
 |f+1,v=>match v with
  | .agg xs=>match uw (Am f) xs.toList with
    |some (l,L)=>some (.agg l.toArray,L)
    |none=>none
  | .tuple xs=>match uw (Am f) xs.toList with
    |some (l,L)=>some (.tuple l.toArray,L)
    |none=>none
  | .iface t x=>match Am f x with
    |some (x,L)=>some (.iface t x,L)
    |none=>none
  | .func (.func g) xs ys=>match uw (Am f) xs.toList with
    |some (l,L)=>match uw (Am f) ys.toList with
     |some (k,L2)=>some (.func (.func g) l.toArray k.toArray,L++L2)
     |none=>none
    |none=>none
  |v=>OA H m pos fz v
def Qbu(rs:List Nat)(v v1:Value):Prop:=(simple v=true/\v1=v)\/∃r∈rs,∃t,v=Qw r t/\v1=Qw m t/\WU t=true
def Q0(rs:List Nat)(cs cs1:Array Value):Prop:=cs.size=cs1.size/\∀(i:Nat) v v1,cs[i]? =some v->cs1[i]? =some v1->Qbu m rs v v1
end
theorem dw{m:Nat}{rs:List Nat}{cs:Array Value}(h:∀v∈cs,simple v=true):Q0 m rs cs cs:=⟨rfl,fun i v v1 h1 h2=>by
 rw[h1]at h2;cases h2;exact .inl ⟨h v (LL h1),rfl⟩⟩
inductive kG (m:Nat) (rs:List (Nat×Nat)) (Y7:List (Nat×Array Value)) (ow:List (Nat×Nat)):Value->Value->Prop
 |simple {v}:CE.simple v=true->kG m rs Y7 ow v v
 |Pj {r j t}:(r,j)∈rs->WU t=true->kG m rs Y7 ow (Qw r t) (Qw j t)
 |own {k cs n c}:(k,cs)∈Y7->kG m rs Y7 ow (.slice (some ⟨k,0,none⟩) n c) (Qw m (QC n cs))
 |nil:kG m rs Y7 ow (.slice none 0 0) (Qw m (QC 0 #[]))
 |keep {k j n c}:(k,j)∈ow->kG m rs Y7 ow (.slice (some ⟨k,0,none⟩) n c) (.slice (some ⟨j,0,none⟩) n c)
def AllX(m:Nat)(rs:List (Nat×Nat))(Y7:List (Nat×Array Value))(ow:List (Nat×Nat)):List Value->List Value->Prop
 |[],[]=>True
 |v::l,u::k=>kG m rs Y7 ow v u/\AllX m rs Y7 ow l k
 |_,_=>False
def Xj(m:Nat)(rs:List (Nat×Nat))(Y7:List (Nat×Array Value))(ow:List (Nat×Nat))(cs cs1:Array Value):Prop:=AllX m rs Y7 ow cs.toList cs1.toList
theorem AllX.get{m:Nat}{rs:List (Nat×Nat)}{Y7:List (Nat×Array Value)}{ow:List (Nat×Nat)}:∀{l k:List Value},AllX m rs Y7 ow l k->k.length=l.length/\∀(i:Nat) v u,l[i]? =some v->k[i]? =some u->kG m rs Y7 ow v u
 |[],[],_=>⟨rfl,fun i v u h=>by simp at h⟩
 |v::l,u::k,h=>by
  obtain⟨a,b⟩:=AllX.get h.2;refine⟨by simp[a],fun i x y hx hy=> ?_⟩;cases i with
  |zero=>
   simp only[Lv,YO]at hx hy;subst hx hy;exact h.1
  |succ i=>exact b i x y (by simpa using hx) (by simpa using hy)
 |[],_::_,h=>h.elim
 |_::_,[],h=>h.elim
theorem AllX.append{m:Nat}{rs:List (Nat×Nat)}{Y7:List (Nat×Array Value)}{ow:List (Nat×Nat)}:∀{l k l2 k2:List Value},AllX m rs Y7 ow l k->AllX m rs Y7 ow l2 k2->AllX m rs Y7 ow (l++l2) (k++k2)
 |[],[],_,_,_,h2=>h2
 |_::_,_::_,_,_,h,h2=>⟨h.1,AllX.append h.2 h2⟩
 |[],_::_,_,_,h,_=>h.elim
 |_::_,[],_,_,h,_=>h.elim
section
variable {B:Nat} {S:Nat->Prop} {H:Qq} {m:Nat} {pos:Nat->Option Nat} {fz:List Fz} {μ μ1:Mu} {w:World} {n':Nat} {fk:List Nat} {im1:dx}
structure Ax (H:Qq) (m:Nat) (pos:Nat->Option Nat) (fz:List Fz) (μ μ1:Mu) (w:World) (n':Nat) (fk:List Nat) (im1:dx):Prop where
 ok:∃B S,Ok B S μ (Qt H) w/\∀i,i<n'->S i
 under:Under H n'
 here:∀k j,pos k=some j->μ1 j=μ k
 Pj:μ1 m=some im1
 fm:im1.fm=YD μ H w (Ph H n'++fk)
 sub:∀x∈fz,x.k∈fk
theorem iW:∀(l:List Fz) (k:Nat) (x:Fz),ku l k=some x->x∈l/\x.k=k
 |[],k,x,h=>by cases h
 |y::l,k,x,h=>by
  simp only[ku]at h;cases e:Lf y.k k with
  |true=>
   rw[e]at h;simp only[cond_true,YO]at h;subst h;exact⟨by simp,YE e⟩
  |false=>
   rw[e]at h;obtain⟨h1,h2⟩:=iW l k x h;exact⟨Lw _ h1,h2⟩
theorem Gg(hu:Under H n'){r:Nat}(h:X0 (Qt H r)=true):r<n':=by
 obtain⟨o,ho,_⟩:=ZH h;exact hu.lt ho
theorem iu(c:Ax H m pos fz μ μ1 w n' fk im1){r:Nat}(hr:X0 (Qt H r)=true){im:dx}(QJ:μ r=some im){b:Nat}{x:Obj}(hx:im.fm b=some x):im1.fm b=some x:=by
 obtain⟨B,S,QE,hS⟩:=c.ok;rw[c.fm];have Xp:=Gg c.under hr;exact lD QE (Lm _ (qW.2 ⟨Xp,hr⟩)) (hS r Xp) hr QJ hx
theorem k8(c:Ax H m pos fz μ μ1 w n' fk im1){rs:List Nat}(WN:(rs.all fun r=>X0 (Qt H r))=true){v v1 v':Value}(h:qB rs v v1)(hv:VR μ v v'):TRv im1.fm v1 v':=by
 rcases h with ⟨h1,rfl⟩|⟨r,hr,rfl,_⟩
 ·rw[simple_eq h1 hv];exact .simple h1
 ·obtain⟨im,QJ,ht⟩:=hv.top_inv;exact ht.mono fun b x hx=>iu c (List.all_eq_true.1 WN r hr) QJ hx
theorem Tv(c:Ax H m pos fz μ μ1 w n' fk im1){v v' t:Value}{L:List Prop}(h:OA H m pos fz v=some (t,L))(hL:Qr L)(hv:VR μ v v'):VR μ1 t v':=by
 obtain⟨B,S,QE,hS⟩:=c.ok;have addr:∀{k j o:Nat} {a':Addr},pos k=some j->AR μ ⟨k,o,none⟩ a'->AR μ1 ⟨j,o,none⟩ a':=by
  rintro k j o a' hp ⟨im,h1,h2,h3⟩;exact⟨im,by rw[c.here k j hp];exact h1,rfl,h3⟩
 unfold OA at h;cases hs:simple v with
 |true=>
  rw[hs]at h;simp only[cond_true,YO,YR]at h;obtain⟨rfl,rfl⟩:=h;rw[simple_eq hs hv];exact ZO hs
 |false=>
  rw[hs]at h;simp only[cond_false]at h;split at h
  ·rename_i r t0;cases hg:(X0 (Qt H r) && WU t0)with
   |false=>rw[hg]at h;cases h
   |true=>
    rw[hg]at h;simp only[cond_true,YO,YR]at h;obtain⟨rfl,rfl⟩:=h;simp only[YB]at hg;obtain⟨im,QJ,ht⟩:=VR.top_inv (r:=r) (t:=t0) hv;cases hp:pos r with
    |none=>exact .top hg.2 c.Pj (ht.mono fun b x hx=>iu c hg.1 QJ hx)
    |some j=>exact .top hg.2 (by rw[Option.getD_some,c.here r j hp];exact QJ) ht
  ·rename_i k o;split at h
   ·rename_i j hj;simp only[YO,YR]at h;obtain⟨rfl,rfl⟩:=h;cases hv with
    |ptr har=>exact .ptr (addr hj har)
   ·split at h
    ·rename_i x cs ty hx hg;cases hr:(x.rs.all fun r=>X0 (Qt H r))with
     |false=>rw[hr]at h;cases h
     |true=>
      rw[hr]at h;simp only[cond_true,YO,YR]at h;obtain⟨rfl,rfl⟩:=h;obtain⟨⟨h2,h3⟩,_⟩:=hL;obtain⟨hxm,hxk⟩:=iW _ _ _ hx;have hkf:k∈fk:=hxk ▸ c.sub x hxm;obtain⟨im,arr,QJ,_,hoff,harr,hle,_,hcells⟩:=cX QE (hS k (c.under.lt hg)) hg;cases hv with
      |ptr har=>
       obtain⟨im2,WV,_,rfl⟩:=har;rw[QJ]at WV;cases WV;rw[hoff];refine .top rfl c.Pj (TRv.ptr (o:=0) (by rw[c.fm];exact(lE (Lx _ hkf) hg trivial QJ).trans harr) (fun i hi=>by omega) fun i v v' hv ZX=> ?_);simp only[LB]at ZX;have hi:i<cs.size:=by rw[h2];exact(Array.getElem?_eq_some_iff.1 hv).1
       obtain⟨u,hu1,hu2⟩:=hcells i cs[i] (by simp[hi]);rw[ZX]at hu1;cases hu1;exact k8 c hr (h3 i _ _ (by simp[hi]) hv) hu2
    ·simp only[YO,YR]at h;obtain⟨rfl,rfl⟩:=h;cases hv;exact .Y5 (fun b e=>by cases e) rfl rfl
  ·rename_i k o n z;split at h
   ·rename_i j hj;simp only[YO,YR]at h;obtain⟨rfl,rfl⟩:=h;cases hv with
    |slice har a b d=>
     refine .slice (addr hj har) a b fun hz im QJ Ja hoff=>d hz im ?_ Ja hoff
     rw[<-c.here k j hj];exact QJ
   ·split at h
    ·rename_i x cs ty hx hg;cases hr:(x.rs.all fun r=>X0 (Qt H r))with
     |false=>rw[hr]at h;cases h
     |true=>
      rw[hr]at h;simp only[cond_true,YO,YR]at h;obtain⟨rfl,rfl⟩:=h;obtain⟨⟨h2,h3⟩,_⟩:=hL;obtain⟨hxm,hxk⟩:=iW _ _ _ hx;have hkf:k∈fk:=hxk ▸ c.sub x hxm;obtain⟨im,arr,QJ,_,hoff,harr,hle,_,hcells⟩:=cX QE (hS k (c.under.lt hg)) hg;cases hv with
      |slice har a b _=>
       obtain⟨im2,WV,_,rfl⟩:=har;rw[QJ]at WV;cases WV;rw[hoff];refine .top rfl c.Pj (TRv.slice (o:=0) a b (by rw[c.fm];exact(lE (Lx _ hkf) hg trivial QJ).trans harr) (fun i hi=>by omega) fun i v v' hv ZX=> ?_);simp only[LB]at ZX;have hi:i<cs.size:=by rw[h2];exact(Array.getElem?_eq_some_iff.1 hv).1
       obtain⟨u,hu1,hu2⟩:=hcells i cs[i] (by simp[hi]);rw[ZX]at hu1;cases hu1;exact k8 c hr (h3 i _ _ (by simp[hi]) hv) hu2
    ·simp only[YO,YR]at h;obtain⟨rfl,rfl⟩:=h;cases hv;exact .Y5 (fun b e=>by cases e) rfl rfl
  ·rename_i r;split at h
   ·rename_i j hj;simp only[YO,YR]at h;obtain⟨rfl,rfl⟩:=h;cases hv with
    |map hr=>exact .map (by rw[c.here r j hj];exact hr)
   ·simp only[YO,YR]at h;obtain⟨rfl,rfl⟩:=h;cases hv;exact .Y5 (fun b e=>by cases e) rfl rfl
  ·rename_i l;split at h
   ·rename_i j hj;simp only[YO,YR]at h;obtain⟨rfl,rfl⟩:=h;cases hv with
    |yield hl=>exact .yield (by rw[c.here l j hj];exact hl)
   ·simp only[YO,YR]at h;obtain⟨rfl,rfl⟩:=h;cases hv;exact .Y5 (fun b e=>by cases e) rfl rfl
  ·simp only[YO,YR]at h;obtain⟨rfl,rfl⟩:=h;cases hv with
   |Y5 a b c=>exact .Y5 a b c
  ·cases h
theorem jd{f:Value->Option (Value×List Prop)}(hf:∀v v' t L,f v=some (t,L)->Qr L->VR μ v v'->VR μ1 t v'):∀(l ts:List Value) (L:List Prop) (l':List Value),uw f l=some (ts,L)->Qr L->l.length=l'.length->(∀(i:Nat) v v',l[i]? =some v->l'[i]? =some v'->VR μ v v')->
 ts.length=l'.length/\∀(i:Nat) v v',ts[i]? =some v->l'[i]? =some v'->VR μ1 v v'
 |[],ts,L,l',h,hL,hl,hv=>by
  simp only[uw,YO,YR]at h;obtain⟨rfl,rfl⟩:=h;exact⟨hl,fun i v v' h=>by simp at h⟩
 |v::l,ts,L,[],h,hL,hl,hv=>by simp at hl
 |v::l,ts,L,v'::l',h,hL,hl,hv=>by
  simp only[uw]at h;split at h
  ·rename_i t L1 h1;split at h
   ·rename_i ts2 L2 h2;simp only[YO,YR]at h;obtain⟨rfl,rfl⟩:=h;obtain⟨a,b⟩:=X6 hL;have k1:=hf v v' t L1 h1 a (hv 0 v v' rfl rfl);obtain⟨k2,k3⟩:=jd hf l ts2 L2 l' h2 b (by simpa using hl) fun i u u' x y=>hv (i+1) u u' (by simpa using x) (by simpa using y)
    refine⟨by simp[k2],fun i u u' x y=> ?_⟩;cases i with
    |zero=>
     simp only[Lv,YO]at x y;subst x y;exact k1
    |succ i=>exact k3 i u u' (by simpa using x) (by simpa using y)
   ·cases h
  ·cases h
theorem Yl(c:Ax H m pos fz μ μ1 w n' fk im1):∀(f:Nat) (v v' t:Value) (L:List Prop),Am H m pos fz f v=some (t,L)->Qr L->VR μ v v'->VR μ1 t v'
 |0,v,v',t,L,h,hL,hv=>Tv c h hL hv
 |f+1,v,v',t,L,h,hL,hv=>by
  have arr:∀{xs xs':Array Value} {l:List Value} {L:List Prop},uw (Am H m pos fz f) xs.toList=some (l,L)->Qr L->xs.size=xs'.size->(∀(i:Nat) v v',xs[i]? =some v->xs'[i]? =some v'->VR μ v v')->l.toArray.size=xs'.size/\∀(i:Nat) v v',l.toArray[i]? =some v->xs'[i]? =some v'->VR μ1 v v':=by
   intro xs xs' l L h hL hs hx;obtain⟨a,b⟩:=jd (fun v v' t L=>Yl c f v v' t L) xs.toList l L xs'.toList h hL (by simpa using hs) fun i v v' x y=>hx i v v' (by simpa using x) (by simpa using y)
   exact⟨by simpa using a,fun i v v' x y=>b i v v' (by simpa using x) (by simpa using y)⟩
  cases v with
  |agg xs=>
   simp only[Am]at h;split at h
   ·rename_i l L1 hl;simp only[YO,YR]at h;obtain⟨rfl,rfl⟩:=h;cases hv with
    |agg h1 h2=>exact .agg (arr hl hL h1 h2).1 (arr hl hL h1 h2).2
   ·cases h
  |tuple xs=>
   simp only[Am]at h;split at h
   ·rename_i l L1 hl;simp only[YO,YR]at h;obtain⟨rfl,rfl⟩:=h;cases hv with
    |tuple h1 h2=>exact .tuple (arr hl hL h1 h2).1 (arr hl hL h1 h2).2
   ·cases h
  |iface ty x=>
   simp only[Am]at h;split at h
   ·rename_i l L1 hl;simp only[YO,YR]at h;obtain⟨rfl,rfl⟩:=h;cases hv with
    |iface hv=>exact .iface (Yl c f _ _ _ _ hl hL hv)
   ·cases h
  |func fn xs ys=>
   cases fn with
   |func g=>
    simp only[Am]at h;split at h
    ·rename_i l L1 hl;split at h
     ·rename_i k L2 hk;simp only[YO,YR]at h;obtain⟨rfl,rfl⟩:=h;obtain⟨a,b⟩:=X6 hL;cases hv with
      |func h1 h2 h3 h4=>
       have k1:=arr hl a h1 h3;have k2:=arr hk b h2 h4;exact .func k1.1 k2.1 k1.2 k2.2
     ·cases h
    ·cases h
   |_=>exact Tv (fz:=fz) c (by exact h) hL hv
  |_=>exact Tv (fz:=fz) c (by exact h) hL hv
end
inductive KS where
 |auto
 |cells (rs:List Nat) (cs:Array Value)
 |same
 |dead
 |rows (rs:List (Nat×Nat)) (ks:List Nat) (ow:List (Nat×Nat)) (cs:Array Value)
def Mk(pos:Nat->Option Nat)(p:Nat×Nat):Bool:=match pos p.1 with
 |some j=>Lf j p.2
 |none=>false
def MF(H:Qq)(pos:Nat->Option Nat)(fz:List Fz):List Nat->Option (List (Nat×Array Value)×List Prop)
 |[]=>some ([],[])
 |k::l=>match pos k,ku fz k,Qt H k with
  |none,some x,some (.cells cs _ (0,0))=>bif x.rs.all fun r=>X0 (Qt H r)then match MF H pos fz l with
   |some (Y7,L)=>some ((k,x.cs)::Y7,X8 x.rs cs x.cs::L)
   |none=>none
    else none
  |_,_,_=>none
theorem An{H:Qq}{m:Nat}{pos:Nat->Option Nat}{fz:List Fz}:∀(ks:List Nat) (Y7:List (Nat×Array Value)) (L:List Prop),MF H pos fz ks=some (Y7,L)->Qr L->∀k cs n c,(k,cs)∈Y7->∃L',OA H m pos fz (.slice (some ⟨k,0,none⟩) n c)=some (Qw m (QC n cs),L')/\Qr L'
 |[],Y7,L,h,hL,k,cs,n,c,hm=>by
  simp only[MF,YO,YR]at h;obtain⟨rfl,rfl⟩:=h;simp at hm
 |k0::l,Y7,L,h,hL,k,cs,n,c,hm=>by
  simp only[MF]at h;split at h
  ·rename_i x cs0 t0 h1 h2 h3;cases hr:(x.rs.all fun r=>X0 (Qt H r))with
   |false=>rw[hr]at h;cases h
   |true=>
    rw[hr]at h;simp only[cond_true]at h;split at h
    ·rename_i frs2 L2 h4;simp only[YO,YR]at h;obtain⟨rfl,rfl⟩:=h;rcases List.mem_cons.1 hm with e|e
     ·simp only[YR]at e;obtain⟨rfl,rfl⟩:=e;refine⟨[X8 x.rs cs0 x.cs], ?_,hL.1,trivial⟩;unfold OA;have hs:simple (.slice (some ⟨k,0,none⟩) n c)=false:=rfl;rw[hs];simp only[cond_false,h1,h2,h3,hr,cond_true]
     ·exact An l frs2 L2 h4 hL.2 k cs n c e
    ·cases h
  ·cases h
def coO(H:Qq)(m:Nat)(pos:Nat->Option Nat)(fz:List Fz):Option Obj->KS->Option (Obj×List Prop)
 |some (.cells cs t fl),.auto=>match uw (Am H m pos fz 3) cs.toList with
  |some (l,L)=>some (.cells l.toArray t fl,L)
  |none=>none
 |some (.cells cs t fl),.cells rs cs1=>bif rs.all fun r=>X0 (Qt H r)then some (.cells cs1 t fl,[Q0 m rs cs cs1])else none
 |some (.cells cs t fl),.rows rs ks ow cs1=>bif (rs.all fun p=>X0 (Qt H p.1) && Lf ((pos p.1).getD m) p.2) && ow.all (Mk pos)then match MF H pos fz ks with
  |some (Y7,L)=>some (.cells cs1 t fl,Xj m rs Y7 ow cs cs1::L)
  |none=>none
   else none
 |some (.map es Se),.same=>some (.map es Se,[wQ es])
 |some (.loop r),.auto=>match uw (Am H m pos fz 3) r.tmps.toList with
  |some (l,L)=>some (.loop {r with tmps:=l.toArray},L)
  |none=>none
 |some (.deferred ds),.same=>some (.deferred ds,[])
 |some (.pending _ _),.dead=>some (.pending #[] 0,[])
 |_,_=>none
theorem Tw{H:Qq}{m:Nat}{pos:Nat->Option Nat}{fz:List Fz}{μ μ1:Mu}{w:World}{n':Nat}{fk:List Nat}{im1:dx}(c:Ax H m pos fz μ μ1 w n' fk im1){o:Option Obj}{s:KS}{o1:Obj}{L:List Prop}(h:coO H m pos fz o s=some (o1,L))(hL:Qr L):
 (∃x,o=some x)/\¬Wd o1/\(live o1->∃x,o=some x/\live x/\∀im,OR μ w im x->OR μ1 w im o1):=by
 have cells:∀{cs cs1:Array Value} {t:TypeId} {fl:Nat×Nat},cs1.size=cs.size->(∀(i:Nat) v v1 v',cs[i]? =some v->cs1[i]? =some v1->VR μ v v'->VR μ1 v1 v')->∀im,OR μ w im (.cells cs t fl)->OR μ1 w im (.cells cs1 t fl):=by
  intro cs cs1 t fl hs hc im ZU;have get:∀(i:Nat) v1,cs1[i]? =some v1->∃v,cs[i]? =some v:=fun i v1 h=>by
   have:=(Array.getElem?_eq_some_iff.1 h).1;exact⟨cs[i],by simp[show i<cs.size by omega]⟩
  rcases ZU with ⟨h1,h2,h3,arr,h4,h5,h6,h7⟩|⟨h1,h2⟩
  ·refine .inl ⟨h1,h2,h3,arr,h4,by omega,h6,fun i v1 hv1=> ?_⟩;obtain⟨v,hv⟩:=get i v1 hv1;obtain⟨v',a,b⟩:=h7 i v hv;exact⟨v',a,hc i v v1 v' hv hv1 b⟩
  ·refine .inr ⟨h1,fun i v1 hv1=> ?_⟩;obtain⟨v,hv⟩:=get i v1 hv1;obtain⟨v',a,b⟩:=h2 i v hv;exact⟨v',a,hc i v v1 v' hv hv1 b⟩
 unfold coO at h;split at h
 ·rename_i cs t fl;split at h
  ·rename_i l L1 hl;simp only[YO,YR]at h;obtain⟨rfl,rfl⟩:=h;have key:∀(l ts:List Value) (L:List Prop),uw (Am H m pos fz 3) l=some (ts,L)->Qr L->ts.length=l.length/\∀(i:Nat) v v1 v',l[i]? =some v->ts[i]? =some v1->VR μ v v'->VR μ1 v1 v':=by
    intro l;induction l with
    |nil=>
     intro ts L h hL;simp only[uw,YO,YR]at h;obtain⟨rfl,rfl⟩:=h;exact⟨rfl,fun i v v1 v' h=>by simp at h⟩
    |cons v l ih=>
     intro ts L h hL;simp only[uw]at h;split at h
     ·rename_i t L1 h1;split at h
      ·rename_i ts2 L2 h2;simp only[YO,YR]at h;obtain⟨rfl,rfl⟩:=h;obtain⟨a,b⟩:=X6 hL;obtain⟨k1,k2⟩:=ih ts2 L2 h2 b;refine⟨by simp[k1],fun i u u1 u' x y hr=> ?_⟩;cases i with
       |zero=>
        simp only[Lv,YO]at x y;subst x y;exact Yl c 3 _ _ _ _ h1 a hr
       |succ i=>exact k2 i u u1 u' (by simpa using x) (by simpa using y) hr
      ·cases h
     ·cases h
   obtain⟨k1,k2⟩:=key _ _ _ hl hL;refine⟨⟨_,rfl⟩,id,fun _=> ?_⟩;exact⟨_,rfl,trivial,cells (by simpa using k1) fun i v v1 v' x y=>k2 i v v1 v' (by simpa using x) (by simpa using y)⟩
  ·cases h
 ·rename_i cs t fl rs cs1;cases hr:(rs.all fun r=>X0 (Qt H r))with
  |false=>rw[hr]at h;cases h
  |true=>
   rw[hr]at h;simp only[cond_true,YO,YR]at h;obtain⟨rfl,rfl⟩:=h;obtain⟨⟨h1,h2⟩,_⟩:=hL;refine⟨⟨_,rfl⟩,id,fun _=> ?_⟩;refine⟨_,rfl,trivial,cells h1.symm fun i v v1 v' x y hv=> ?_⟩;rcases h2 i v v1 x y with ⟨hs,rfl⟩|⟨r,hrm,t,rfl,rfl,ht⟩
   ·rw[simple_eq hs hv];exact ZO hs
   ·obtain⟨im,QJ,htr⟩:=hv.top_inv;exact .top ht c.Pj (htr.mono fun b x hx=>iu c (List.all_eq_true.1 hr r hrm) QJ hx)
 ·rename_i cs t fl rs ks ow cs1;cases hr0:((rs.all fun p=>X0 (Qt H p.1) && Lf ((pos p.1).getD m) p.2) && ow.all (Mk pos))with
  |false=>rw[hr0]at h;cases h
  |true=>
   rw[hr0]at h;simp only[cond_true]at h;simp only[YB]at hr0;obtain⟨hr,how⟩:=hr0;split at h
   ·rename_i Y7 L2 hks;simp only[YO,YR]at h;obtain⟨rfl,rfl⟩:=h;obtain⟨hx,hL2⟩:=hL;obtain⟨h1,h2⟩:=AllX.get hx;refine⟨⟨_,rfl⟩,id,fun _=> ?_⟩;refine⟨_,rfl,trivial,cells (by simpa using h1) fun i v v1 v' x y hv=> ?_⟩;have hc:=h2 i v v1 (by simpa using x) (by simpa using y);cases hc with
    |simple hs=>rw[simple_eq hs hv];exact ZO hs
    |Pj hm ht=>
     rename_i r j t0;have:=List.all_eq_true.1 hr _ hm;simp only[YB]at this;have e:OA H m pos fz (Qw r t0)=some (Qw j t0,[]):=by
      have hs:simple (Qw r t0)=false:=rfl;unfold OA;rw[hs];simp only[cond_false,Qw,this.1,ht,Bool.and_self,cond_true,YE this.2]
     exact Tv c e trivial hv
    |own hm=>
     obtain⟨L',e,hL'⟩:=An ks Y7 L2 hks hL2 _ _ _ _ hm;exact Tv c e hL' hv
    |nil=>
     cases hv;exact .top rfl c.Pj .nil
    |keep hm=>
     have hk:=List.all_eq_true.1 how _ hm;unfold Mk at hk;split at hk
     ·rename_i j0 hj0;have hk:=YE hk;have e:=c.here _ _ hj0;rw[hk]at e;cases hv with
      |slice har h1 h2 h3=>
       obtain⟨im,hi,_,rfl⟩:=har;refine .slice ⟨im,e.trans hi,rfl,rfl⟩ h1 h2 fun hs ZD QN=> ?_
       rw[e]at QN;exact h3 hs ZD QN
     ·cases hk
   ·cases h
 ·rename_i es Se;simp only[YO,YR]at h;obtain⟨rfl,rfl⟩:=h;obtain⟨hp,_⟩:=hL;refine⟨⟨_,rfl⟩,id,fun _=> ?_⟩;refine⟨_,rfl,trivial,fun im ZU=> ?_⟩;obtain⟨h1,KG,h2,h3,h4⟩:=ZU;refine⟨h1,KG,h2,h3,fun i e e' x y=> ?_⟩;obtain⟨p,q,r,s⟩:=h4 i e e' x y;have hs:=hp i e x;exact⟨p,q,r,by rw[T0 hs s];exact PL hs⟩
 ·rename_i r;split at h
  ·rename_i l L1 hl;simp only[YO,YR]at h;obtain⟨rfl,rfl⟩:=h;refine⟨⟨_,rfl⟩,id,fun _=> ?_⟩;refine⟨_,rfl,trivial,fun im ZU=> ?_⟩;obtain⟨h1,tm,df,h2,h3⟩:=ZU;obtain⟨a,b⟩:=jd (fun v v' t L=>Yl c 3 v v' t L) r.tmps.toList l L1 tm.toList hl hL (by simpa using h3.1) fun i v v' x y=>h3.2 i v v' (by simpa using x) (by simpa using y)
   exact⟨h1,tm,df,h2,by simpa using a,fun i v v' x y=>b i v v' (by simpa using x) (by simpa using y)⟩
  ·cases h
 ·rename_i ds;simp only[YO,YR]at h;obtain⟨rfl,rfl⟩:=h;exact⟨⟨_,rfl⟩,id,fun _=>⟨_,rfl,trivial,fun im ZU=>ZU⟩⟩
 ·simp only[YO,YR]at h;obtain⟨rfl,rfl⟩:=h;exact⟨⟨_,rfl⟩,id,fun hl=>hl.elim⟩
 ·cases h
end Go.CE
