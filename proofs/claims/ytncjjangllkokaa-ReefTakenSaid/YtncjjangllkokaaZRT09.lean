/- TW 3: operations on trees. -/
import Derived.Test.YtncjjangllkokaaZRT08
set_option linter.all false
namespace Go.CE
open Go Go.RowKit

inductive Qk where
 |ZH (h:Hint)
 |tidx (k:Nat) (es:Array Value)
 |tarr (k:Nat) (es:Array Value)
 |tslc (k m':Nat) (cs':Array Value)
 |tapp (cs':Array Value)
 |tapp0
 |tcpy (cs':Array Value)
 |pure (out:Value) (fz:List Fz)
 |pureK (out:Value) (fz:List Fz)
 |bin (v:Value)
 |call (keys:List Nat) (out:OO) (Ux:Qo) (n':Nat) (W:List Nat)
 |eval (s:Rs)
 |wri (κ R:List Nat) (ps qs:List Bool) (out:OO) (outs news:List Obj)
 |tnil
 |wriC (κ R:List Nat) (ps qs:List Bool) (out:OO) (outs news:List Obj) (o2:OO)
def killL(H:Qo):List Nat->Qo
 |[]=>H
 |k::K=>St (killL H K) (some k)
def Tf:Option Obj->Bool
 |some (.cells _ _ (0,0))=>true
 |_=>false
def yR(P:Program)(T:Tm)(o:Oper):Option (Value×Nat):=match o.op with
 | .call c=>match c.callee with
   | .builtin .len=>match c.args.toList,c.argTypes.toList with
     |[x],[t]=>match XW T x with
      |some v=>match fU v,YC P t with
       |some (r,k,_),some (.slice _)=>some (.int .i64 k,r)
       |_,_=>none
      |none=>none
     |_,_=>none
   |_=>none
 | .fieldAddr s x f=>match XW T x with
   |some v=>match tG v with
    |some (r,off,cs)=>match Wh P s f (.pointer (some ⟨0,off,none⟩))with
     |some (.pointer (some ⟨0,off',none⟩))=>some (Qt r (PM off' cs),r)
     |_=>none
    |none=>none
   |none=>none
 | .load t x=>match XW T x with
   |some v=>match tG v with
    |some (r,off,cs)=>match Ky P t cs off with
     |some v=>bif rU 4 v then some (Q2 r 4 v,r)else none
     |none=>none
    |none=>none
   |none=>none
 |_=>none
def KD:Value->Bool
 | .slice none 0 0| .chan (some 0)=>true
 |_=>false
def TE(P:Program)(T:Tm)(o:Oper):Option (Value×Nat×Nat×Array Value×TypeId×Nat×Nat×Value):=match o.op with
 | .call c=>match c.callee with
   | .builtin .append=>match c.args.toList,c.argTypes.toList with
     |[s,x],[t,t']=>match XW T s,XW T x with
      |some sv,some xv=>match fU xv,YC P t with
       |some (r,k,cs),some (.slice e)=>match inf P e with
        |some i=>match i.zero,i.size with
         |some zv,z+1=>bif Nat.beq t t' && KD sv && Nat.beq zv.cells.size (z+1)then some (sv,r,k,cs,e,z+1,i.bytes,zv)else none
         |_,_=>none
        |none=>none
       |_,_=>none
      |_,_=>none
     |_,_=>none
   |_=>none
 |_=>none
def jd(P:Program)(T:Tm)(o:Oper):Option (Nat×Nat×Nat×Nat×Nat×Array Value×Nat):=match o.op with
 | .call c=>match c.callee with
   | .builtin .copy=>match c.args.toList,c.argTypes.toList with
     |[s,x],[t,_]=>match XW T s,XW T x with
      |some (.slice (some ⟨b,off,none⟩) k _),some xv=>match fU xv,YC P t with
       |some (r,m,cs2),some (.slice e)=>match Ww P e with
        |some z=>some (b,off,k,r,m,cs2,z)
        |none=>none
       |_,_=>none
      |_,_=>none
     |_,_=>none
   |_=>none
 |_=>none
def oD(P:Program)(op:BinOp)(t:TypeId)(a b v:Value):Prop:=∀(x y:Operand) (w:World),(do eqGuard op t x y a b;binOp op t a b:Sem Value).run P w=.ok v w
def OF(P:Program)(F:FuncId->Bool)(J:World->Prop)(B:Lo)(T:Tm)(o:Oper)(H:Qo)(n:Nat):Option Qk->Option Told
 |none=>match yR P T o with
  |some (v,r)=>bif Nat.blt r n && Xs (Qs H r)then some ⟨⟨.ret v,H,n,[r],[]⟩,none⟩else none
  |none=>Oe P F B T o H n none
 |some (.ZH h)=>Oe P F B T o H n (some h)
 |some (.tidx k es)=>match o.op with
  | .indexAddr t x i=>match XW T x,XW T i with
    |some v,some (.int _ q)=>match fU v,YC P t with
     |some (r,m,cs),some (.slice e)=>match Ww P e with
      |some z=>bif Nat.blt r n && Xs (Qs H r)then some ⟨⟨.ret (Qt r (PM 0 es)),H,n,[r],[]⟩,some (q=(k:Int)/\k<m/\cs.extract (k*z) (k*z+z)=es)⟩else none
      |none=>none
     |_,_=>none
    |_,_=>none
  |_=>none
 |some (.tarr k es)=>match o.op with
  | .indexAddr t x i=>match XW T x,XW T i with
    |some v,some (.int _ q)=>match tG v,YC P t with
     |some (r,off,cs),some (.array m e)=>match Ww P e with
      |some z=>bif Nat.blt r n && Xs (Qs H r)then some ⟨⟨.ret (Qt r (PM 0 es)),H,n,[r],[]⟩,some (q=(k:Int)/\k<m/\cs.extract (off+k*z) (off+k*z+z)=es)⟩else none
      |none=>none
     |_,_=>none
    |_,_=>none
  |_=>none
 |some (.tslc k m' cs')=>match o.op with
  | .slice t x (some lo) none none=>match XW T x,XW T lo with
    |some v,some (.int _ q)=>match fU v,YC P t with
     |some (r,m,cs),some (.slice e)=>match Ww P e with
      |some z=>bif Nat.blt r n && Xs (Qs H r)then some ⟨⟨.ret (Qt r (QE m' cs')),H,n,[r],[]⟩,some (q=(k:Int)/\k<m/\m'=m-k/\cs.extract (k*z) cs.size=cs')⟩else none
      |none=>none
     |_,_=>none
    |_,_=>none
  |_=>none
 |some (.tapp cs')=>match TE P T o with
  |some (_,r,k,cs,e,z,by',_)=>bif Nat.blt r n && Xs (Qs H r)then
   some ⟨⟨.ret (.slice (some ⟨n,0,none⟩) k z),(n,.cells cs' e (0,0))::H,n+1,[r],[]⟩,some (0<k/\k<=maxLen/\k*by'<=140737488355328/\cs.size=k*z/\cs.map (ZA r)=cs'/\(cs.all fun v=>simple v || W6 v)=true/\ones cs'=true)⟩else none
  |none=>none
 |some .tapp0=>match TE P T o with
  |some (sv,r,k,_,_,_,_,_)=>bif Nat.blt r n && Xs (Qs H r)then some ⟨⟨.ret sv,H,n,[r],[]⟩,some (k=0)⟩else none
  |none=>none
 |some (.tcpy cs')=>match jd P T o with
  |some (b,off,k,r,m,cs2,z)=>match Qs H b with
   |some (.cells cs te (0,0))=>bif Nat.blt r n && Xs (Qs H r) && Nat.blt b n then
    some ⟨⟨.ret (.int .i64 (Nat.min m k)),Vw H b (.cells cs' te (0,0)),n,[b,r],[b]⟩,some (0<m/\off+Nat.min m k*z<=cs.size/\Nat.min m k*z<=cs2.size/\(cs2.all fun v=>simple v || W6 v)=true/\ones ((cs2.extract 0 (Nat.min m k*z)).map (ZA r))=true/\splice cs off ((cs2.extract 0 (Nat.min m k*z)).map (ZA r))=cs')⟩else none
   |_=>none
  |none=>none
 |some (.eval s)=>some ⟨s,some (aH P F Xq (fun _ _ _=>none) T o H n=some s)⟩
 |some (.bin v)=>match o.op with
  | .binOp op t x y _=>match XW T x,XW T y with
    |some a,some b=>bif af a && af b && af v then some ⟨⟨.ret v,H,n,[],[]⟩,some (oD P op t a b v)⟩else none
    |_,_=>none
  |_=>none
 |some (.call keys out Ux n' W)=>match o.op with
  | .call _=>match J8 P F (XW T) o H n with
    |some ⟨.enter g args,H1,n1,R,W1⟩=>bif Nat.beq n1 n && W1.isEmpty then
     match Wa P g args with
     |some c1=>some ⟨⟨out,Ux++H1,n',R++keys,W⟩,some (FJ P B c1 H1 n out (Ux++H1) n' keys W)⟩
     |none=>none
      else none
    |some ⟨.round l fn tm a b,H1,n1,R,W1⟩=>bif Nat.beq n1 n && W1.isEmpty && Nat.ble tm.size 16000 then some ⟨⟨out,Ux++H1,n',R++keys,W⟩,some (FJ P B ⟨fn,ofList tm.size tm.toList,[.code a,.beginRound,.code b],[],.run,some l⟩ H1 n out (Ux++H1) n' keys W)⟩else none
    |_=>none
  |_=>none
 |some (.pure out fz)=>match o.op with
  | .call _=>match J8 P F (XW T) o H n with
    |some ⟨.enter g args,H1,n1,R,W1⟩=>bif Nat.beq n1 n && W1.isEmpty then
     match UL (VH H1 fz 3) args.toList with
     |some (ts,R2,L)=>bif R2.all fun i=>Nat.blt i n then
      bif SL 2 out then some ⟨⟨.ret out,H1,n,R++R2,[]⟩,some (Qz L/\Qx P J g ts.toArray out)⟩
      else bif (R2.all fun i=>Xs (Qs H1 i)) && rU 4 out then some ⟨⟨.ret (Q2 n 4 out),(n,Xa)::H1,n+1,R++R2,[]⟩,some (Qz L/\Qx P J g ts.toArray out)⟩else none
       else none
     |none=>none
      else none
    |_=>none
  |_=>none
 |some (.pureK out fz)=>match o.op with
  | .call _=>match J8 P F (XW T) o H n with
    |some ⟨.enter g args,H1,n1,R,W1⟩=>bif Nat.beq n1 n && W1.isEmpty then
     match UL (VH H1 fz 3) args.toList with
     |some (ts,R2,L)=>bif (R2.all fun i=>Nat.blt i n) && (R2.all fun i=>Xs (Qs H1 i) || Tf (Qs H1 i)) && rU 4 out then
      some ⟨⟨.ret (Q2 n 4 out),(n,Xa)::killL H1 (R2.filter fun i=>Tf (Qs H1 i)),n+1,R++R2,R2.filter fun i=>Tf (Qs H1 i)⟩,some (Qz L/\Qx P J g ts.toArray out)⟩else none
     |none=>none
      else none
    |_=>none
  |_=>none
 |some (.wri κ R ps qs out outs news)=>match o.op with
  | .call _=>match J8 P F (XW T) o H n with
    |some ⟨.enter g args,H1,n1,R0,W1⟩=>bif Nat.beq n1 n && W1.isEmpty then
     match Io H1 n κ R ps qs args out outs news with
     |some (as,bs,o1,Ux,L)=>some ⟨⟨o1,Ux++H1,n+1+news.length,R0++(κ++R),κ⟩,some (Qz L/\WriC P J g as.toArray bs out outs news)⟩
     |none=>none
      else none
    |_=>none
  |_=>none
 |some .tnil=>match o.op with
  | .binOp op t x y _=>match XW T x,XW T y with
    |some v,some (.slice none 0 0)=>match fU v,YC P t with
     |some (r,m,_),some (.slice _)=>bif Nat.blt r n && Xs (Qs H r)then match op with
      | .eql=>some ⟨⟨.ret (.bool false),H,n,[r],[]⟩,some (0<m)⟩
      | .neq=>some ⟨⟨.ret (.bool true),H,n,[r],[]⟩,some (0<m)⟩
      |_=>none
       else none
     |_,_=>none
    |_,_=>none
  |_=>none
 |some (.wriC κ R ps qs out outs news o2)=>match o.op with
  | .call _=>match J8 P F (XW T) o H n with
    |some ⟨.enter g args,H1,n1,R0,W1⟩=>bif Nat.beq n1 n && W1.isEmpty then
     match Io H1 n κ R ps qs args out outs news with
     |some (as,bs,o1,Ux,L)=>some ⟨⟨o2,Ux++H1,n+1+news.length,R0++(κ++R),κ⟩,some ((Qz L/\WriC P J g as.toArray bs out outs news)/\o1=o2)⟩
     |none=>none
      else none
    |_=>none
  |_=>none
section
variable {P:Program} {F:FuncId->Bool} {J:World->Prop} {B:Lo} {T:Tm} {o:Oper} {H:Qo} {n:Nat}
theorem KI(hF:∀g,F g=true->Q3 P g=true){c:Call}(Zb:o.op=.call c)(hu:Under H n){g:FuncId}{args:Array Value}{H1 H2:Qo}{R keys W:List Nat}{n':Nat}{out:OO}(hcr:J8 P F (XW T) o H n=some ⟨.enter g args,H1,n,R,[]⟩)(hcj:oC P B g args H1 n out H2 n' keys W):
 R5 P B o (XW T) H n out H2 n' (R++keys) W/\Shape H n H2 n' (R++keys) W:=by
 have ZZ:Wu P B (fun g' a' H' m'=>open Classical in if g'=g/\a'=args/\H'=H1/\m'=n then some ⟨out,H2,n',keys,W⟩else none):=by
  intro g' a' H' m' s _ h;simp only at h;split at h
  ·rename_i q;obtain⟨rfl,rfl,rfl,rfl⟩:=q;simp only[YO]at h;subst h;exact hcj
  ·cases h
 have:=KB hF YD ZZ hu (T:=T) (o:=o) (s:=⟨out,H2,n',R++keys,W⟩) (by simp[aH,Zb,hcr]);exact this
theorem FJ.callJ{g:FuncId}{args:Array Value}{c0:CF}{H':Qo}{n':Nat}{R W:List Nat}{out:OO}(hc:Wa P g args=some c0)(h:FJ P B c0 H n out H' n' R W):oC P B g args H n out H' n' R W:=
 ⟨h.shape,fun S μ w args' cs QC hB hS hf ha hR=>h.sem S μ w (Frame.enter P g args' .normal) cs QC hB hS hf (Ui hc ha) hR⟩
theorem FJ.recS{c:CF}{H1:Qo}{n n':Nat}{out:OO}{Ux:Qo}{W keys:List Nat}(h:FJ P B c H1 n out (Ux++H1) n' keys W):fP P B (RH c H1 n ⟨out,Ux++H1,n',keys,W⟩):=by
 intro c' H' m' s _ hs;unfold RH at hs;split at hs
 ·rename_i q;obtain⟨rfl,rfl,rfl⟩:=q;simp only[YO]at hs;subst hs;exact h
 ·cases hs
theorem bo(hJ:∀w,B.has w->J w){g:FuncId}{args:Array Value}{fz:List Fz}{H1:Qo}{ts:List Value}{R2:List Nat}{L:List Prop}{out:Value}(Z7:UL (VH H1 fz 3) args.toList=some (ts,R2,L))(hL:Qz L)(hp:Qx P J g ts.toArray out)
 {S:Nat->Prop} {μ:Mu} {w:World} {args':Array Value} (QC:Ok B.B S μ (Qs H1) w) (hB:B.has w) (hv:VRs μ args args') (hS:∀r∈R2,S r):Calls P g args' w fun e w'=> ∃v',e=.returned v'/\Below w.heap.size w w'/\TRv (Px (K0 μ H1 w R2) w w') out v':=by
 obtain⟨a,b⟩:=RC (fun v v' t R L h1 h2 h3 h4=>Ko QC 3 v v' t R L h1 h2 h3 h4) args.toList ts R2 L args'.toList Z7 hL hS (by simpa using hv.1) fun i v v' x y=>hv.2 i v v' (by simpa using x) (by simpa using y)
 exact hp (K0 μ H1 w R2) w args' (hJ w hB) (fun b x h=>WI h) ⟨by simpa using a,fun i v v' x y=>b i v v' (by simpa using x) (by simpa using y)⟩
theorem zk(hJ:∀w,B.has w->J w){g:FuncId}{args:Array Value}{fz:List Fz}{H1:Qo}{ts:List Value}{R2:List Nat}{L:List Prop}{out:Value}(Z7:UL (VH H1 fz 3) args.toList=some (ts,R2,L))(hL:Qz L)(hp:Qx P J g ts.toArray out)(hpl:SL 2 out=true)(Xh:(R2.all fun i=>Nat.blt i n)=true):
 oC P B g args H1 n (.ret out) H1 n R2 []:=by
 refine⟨Shape.same _ _ _,fun S μ w args' cs QC hB hS _ ha hR=> ?_⟩;obtain⟨e,w1,fr,⟨v',rfl,hb,ht⟩,hc,hf,hl⟩:=bo hJ Z7 hL hp QC hB ha (fun r hr=>hR r hr (YL (List.all_eq_true.1 Xh r hr))) cs;refine⟨.ret v',w1,μ,Post.ofBelow QC hb,.ret (fe 2 out v' hpl ht),fun _=>⟨fr,hc,by rw[hf];rfl,hl⟩,fun c cs' e=> ?_⟩;subst e;exact Steps.trans hc (.one (step_leave_returned hl))
theorem uK(hJ:∀w,B.has w->J w){g:FuncId}{args:Array Value}{fz:List Fz}{H1:Qo}{ts:List Value}{R2:List Nat}{L:List Prop}{out:Value}(Z7:UL (VH H1 fz 3) args.toList=some (ts,R2,L))(hL:Qz L)(hp:Qx P J g ts.toArray out)(Xh:(R2.all fun i=>Nat.blt i n)=true)
 (W9:(R2.all fun i=>Xs (Qs H1 i))=true) (ho:rU 4 out=true):oC P B g args H1 n (.ret (Q2 n 4 out)) ((n,Xa)::H1) (n+1) R2 []:=by
 refine⟨Shape.new _ _ _ _,fun S μ w args' cs QC hB hS hf ha hR=> ?_⟩;have hSR:∀r∈R2,S r:=fun r hr=>hR r hr (YL (List.all_eq_true.1 Xh r hr))
 obtain⟨e,w1,fr,⟨v',rfl,hb,ht⟩,hc,hfn,hl⟩:=bo hJ Z7 hL hp QC hB ha hSR cs;have hfm:∀b x,Px (K0 μ H1 w R2) w w1 b=some x->w1.heap[b]? =some x:=by
  intro b x h;unfold Px at h;split at h
  ·rename_i Xh;rw[hb.block b Xh];exact WI h
  ·exact h
 have XC:=Post.region (n:=n) QC hS (hf n (Nat.le_refl _) (by omega)) hb (Px (K0 μ H1 w R2) w w1) hfm fun b x h=>by
  unfold Px at h;split at h
  ·refine .inr ?_;have hw:=WI h;unfold K0 at h;split at h
   ·rename_i hc;obtain⟨i,hi,o,im,ho,QF,Uz⟩:=hc;obtain⟨o',UD,hr'⟩:=ZB (List.all_eq_true.1 W9 i hi);rw[ho]at UD;cases UD;rcases Uz with ⟨_,Kw⟩|⟨hl,_⟩
    ·cases hx:im.fm b with
     |none=>exact absurd hx Kw
     |some y=>
      obtain⟨Zz,QP,hf'⟩:=QC.KL i o (hSR i hi) ho hr';rw[QF]at QP;cases QP;have:=hf' b y hx;rw[hw]at this;cases this;exact⟨i,im,o,hSR i hi,ho,hr',QF,hx⟩
    ·exact absurd hl (by cases o <;> first|exact id|exact hr'.elim)
   ·cases h
  ·rename_i hge;exact .inl (Nat.le_of_not_lt hge)
 refine⟨.ret v',w1,_,XC,.ret (PH Xu 4 out v' ho ht),fun _=>⟨fr,hc,by rw[hfn];rfl,hl⟩,fun c cs' e=> ?_⟩;subst e;exact Steps.trans hc (.one (step_leave_returned hl))
theorem KF(H:Qo)(K:List Nat)(i:Nat):Qs (killL H K) i=if i∈K/\(Qs H i).isSome then some (.pending #[] 0)else Qs H i:=by
 induction K with
 |nil=>simp[killL]
 |cons k K ih=>
  simp only[killL];rw[Uf,ih];by_cases e:i=k
  ·subst e;cases hs:Qs H i with
   |none=>simp
   |some o=>by_cases hm:i∈K <;> simp[hm]
  ·simp[e]
theorem Post.regionK{B n:Nat}{S:Nat->Prop}{μ:Mu}{H:Qo}{w w':World}(K:List Nat)(QC:Ok B S μ (Qs H) w)(hS:∀i,S i->i<n)(hf:μ n=none)(Si:Below w.heap.size w w')(hK:∀k∈K,S k/\(∃o,Qs H k=some o/\live o)/\∃im,μ k=some im/\im.rw=true)
 (fm:Nat->Option Obj) (hfm:∀b x,fm b=some x->w'.heap[b]? =some x)
 (X5:∀b x,fm b=some x->w.heap.size<=b\/(∃k VP ko,S k/\Qs H k=some ko/\Wb ko/\μ k=some VP/\VP.fm b=some x)\/∃k∈K,∃im,μ k=some im/\im.Zn=b):Post B S n (n+1) K μ (upd μ n ⟨0,0,0,false,fm⟩) H ((n,Xa)::killL H K) w w':=by
 have hp:=Post.ofBelow (n:=n) QC Si;have Kw:∀i,S i->i≠n:=fun i hi=>by have:=hS i hi;omega
 have R8:∀i,S i->upd μ n ⟨0,0,0,false,fm⟩ i=μ i:=fun i hi=>by simp[upd,Kw i hi]
 have XM:∀i,S i->Qs ((n,Xa)::killL H K) i=Qs (killL H K) i:=fun i hi=>by rw[QV,if_neg (Kw i hi)]
 have hgl:∀i o,S i->Qs ((n,Xa)::killL H K) i=some o->live o\/Wb o->Qs H i=some o/\(live o->i ∉ K):=fun i o hi ho hl=>by
  rw[XM i hi,KF]at ho;split at ho
  ·cases ho;exact(hl.elim id id).elim
  ·rename_i hn;exact⟨ho,fun _ hm=>hn ⟨hm,by rw[ho];rfl⟩⟩
 have Kx:Qs ((n,Xa)::killL H K) n=some Xa:=by rw[QV,if_pos rfl]
 have isn:∀i,(n<=i/\i<n+1)->i=n:=fun i hi=>by omega
 refine⟨⟨fun i o hi ho hl=> ?_,fun i o im hi ho hl QF=> ?_,fun i j oi oj a b hi hj Pa ZT ZS P0 VQ ha hb hra Kl=> ?_,fun i o hi ho hr=> ?_,fun i j oi oj a b x hi hj ZT ZS Yt VQ ha hb Kl hx=> ?_⟩,by omega,fun i hi=> ?_,fun i hi hw=> ?_,Si.size,fun b hb _=>Si.block b hb,fun i hi _=>hK i hi,
  fun i im o h1 h2 ho hl QF=> ?_,fun i im o hi ho hr QF b x hx=> ?_,Si.os,Si.tape,Si.output⟩
 ·rcases hi with hi|hi
  ·have ho:=(hgl i o hi ho (.inl hl)).1;obtain⟨im,QF,hr⟩:=hp.ok.rel i o (.inl hi) ho hl;exact⟨im,by rw[R8 i hi];exact QF,hr.keep (Kn hf) rfl⟩
  ·rw[isn i hi,Kx]at ho;cases ho;exact hl.elim
 ·rcases hi with hi|hi
  ·have ho:=(hgl i o hi ho (.inl hl)).1;rw[R8 i hi]at QF;exact hp.ok.low i o im (.inl hi) ho hl QF
  ·rw[isn i hi,Kx]at ho;cases ho;exact hl.elim
 ·rcases hi with hi|hi
  ·rcases hj with hj|hj
   ·have ZT:=(hgl i oi hi ZT (.inl P0)).1;have ZS:=(hgl j oj hj ZS (.inl VQ)).1;rw[R8 i hi]at ha;rw[R8 j hj]at hb;exact QC.inj i j oi oj a b hi hj Pa ZT ZS P0 VQ ha hb hra Kl
   ·rw[isn j hj,Kx]at ZS;cases ZS;exact VQ.elim
  ·rw[isn i hi,Kx]at ZT;cases ZT;exact P0.elim
 ·rcases hi with hi|hi
  ·have ho:=(hgl i o hi ho (.inr hr)).1;obtain⟨im,QF,h⟩:=hp.ok.KL i o (.inl hi) ho hr;exact⟨im,by rw[R8 i hi];exact QF,h⟩
  ·rw[isn i hi];exact⟨_,Xu,hfm⟩
 ·have hjS:S j:=hj.elim id fun h=>by rw[isn j h,Kx]at ZS;cases ZS;exact VQ.elim
  obtain⟨ZS,hjK⟩:=hgl j oj hjS ZS (.inl VQ);rw[R8 j hjS]at hb;rcases hi with hi|hi
  ·have ZT:=(hgl i oi hi ZT (.inr Yt)).1;rw[R8 i hi]at ha;exact QC.sep i j oi oj a b x hi hjS ZT ZS Yt VQ ha hb Kl hx
  ·rw[isn i hi,Xu]at ha;cases ha;rcases X5 _ _ hx with h|⟨k,VP,ko,h1,h2,h3,h4,h5⟩|⟨k,hk,VP,h1,h2⟩
   ·have:=(QC.low j oj b hjS ZS VQ hb).1;omega
   ·exact QC.sep k j ko oj VP b x h1 hjS h2 ZS h3 VQ h4 hb Kl h5
   ·obtain⟨k1,⟨ko,k2,k3⟩,kim',k4,k5⟩:=hK k hk;rw[h1]at k4;cases k4;have hkj:k≠j:=fun e=>hjK VQ (e ▸ hk)
    exact QC.inj k j ko oj VP b k1 hjS hkj k2 ZS k3 VQ h1 hb k5 Kl h2
 ·simp only[upd];rw[if_neg (by omega)]
 ·rw[QV,if_neg (by omega),KF,if_neg (fun h=>hw h.1)]
 ·rw[isn i ⟨h1,h2⟩,Kx]at ho;cases ho;exact hl.elim
 ·rcases hi with hi|hi
  ·have JZ:=isn i hi;subst JZ;rw[Xu]at QF;cases QF;rcases X5 b x hx with h|⟨k,VP,ko,h1,h2⟩|⟨k,hk,VP,h1,h2⟩
   ·exact .inl h
   ·exact .inr (.inl ⟨k,VP,ko,h1,hS k h1,h2⟩)
   ·refine .inr (.inr ⟨k,hk,hS k (hK k hk).1,⟨VP,h1,h2⟩,fun o' UD=> ?_⟩);have hks:=(hK k hk).1;obtain⟨ko,k2,_⟩:=(hK k hk).2.1;rw[XM k hks,KF,if_pos ⟨hk,by rw[k2];rfl⟩]at UD;cases UD;exact id
  ·obtain⟨hiK,JZ⟩:=hi;have hks:=(hK i hiK).1;obtain⟨ko,k2,_⟩:=(hK i hiK).2.1;rw[XM i hks,KF,if_pos ⟨hiK,by rw[k2];rfl⟩]at ho;cases ho;exact hr.elim
theorem Shape.killL{H:Qo}{n:Nat}{K R:List Nat}(o:Obj)(hK:∀k∈K,k<n)(hs:∀k∈K,k∈R):Shape H n ((n,o)::killL H K) (n+1) R K:=by
 refine⟨by omega,fun i hi hw=> ?_,fun i hi=> ?_,hs,fun i hi=>by have:=hK i hi;omega⟩
 ·rw[QV,if_neg (by omega),KF,if_neg (fun h=>hw h.1)]
 ·rw[QV,if_neg (by omega),KF,if_neg (fun h=>by have:=hK i h.1;omega)]
theorem zS{o:Option Obj}(h:Tf o=true):∃cs t,o=some (.cells cs t (0,0)):=by
 unfold Tf at h;split at h
 ·exact⟨_,_,rfl⟩
 ·cases h
theorem r7(hJ:∀w,B.has w->J w){g:FuncId}{args:Array Value}{fz:List Fz}{H1:Qo}{ts:List Value}{R2:List Nat}{L:List Prop}{out:Value}(Z7:UL (VH H1 fz 3) args.toList=some (ts,R2,L))(hL:Qz L)(hp:Qx P J g ts.toArray out)(Xh:(R2.all fun i=>Nat.blt i n)=true)
 (W9:(R2.all fun i=>Xs (Qs H1 i) || Tf (Qs H1 i))=true) (ho:rU 4 out=true):oC P B g args H1 n (.ret (Q2 n 4 out)) ((n,Xa)::killL H1 (R2.filter fun i=>Tf (Qs H1 i))) (n+1) R2 (R2.filter fun i=>Tf (Qs H1 i)):=by
 have hltn:∀r∈R2,r<n:=fun r hr=>YL (List.all_eq_true.1 Xh r hr)
 refine⟨Shape.killL _ (fun k hk=>hltn k ((List.mem_filter.1 hk).1)) (fun k hk=>(List.mem_filter.1 hk).1),fun S μ w args' cs QC hB hS hf ha hR=> ?_⟩;have hSR:∀r∈R2,S r:=fun r hr=>hR r hr (hltn r hr)
 obtain⟨e,w1,fr,⟨v',rfl,hb,ht⟩,hc,hfn,hl⟩:=bo hJ Z7 hL hp QC hB ha hSR cs;have hfm:∀b x,Px (K0 μ H1 w R2) w w1 b=some x->w1.heap[b]? =some x:=by
  intro b x h;unfold Px at h;split at h
  ·rename_i Xh;rw[hb.block b Xh];exact WI h
  ·exact h
 have hK:∀k∈R2.filter fun i=>Tf (Qs H1 i),S k/\(∃o,Qs H1 k=some o/\live o)/\∃im,μ k=some im/\im.rw=true:=fun k hk=>by
  obtain⟨h1,h2⟩:=List.mem_filter.1 hk;obtain⟨cs0,t0,h3⟩:=zS h2;obtain⟨im,QF,ZL⟩:=QC.rel k _ (hSR k h1) h3 trivial;refine⟨hSR k h1,⟨_,h3,trivial⟩,im,QF, ?_⟩;rcases ZL with ⟨_,h,_⟩|⟨h,_⟩
  ·exact h
  ·exact absurd rfl h
 have XC:=Post.regionK (n:=n) (R2.filter fun i=>Tf (Qs H1 i)) QC hS (hf n (Nat.le_refl _) (by omega)) hb hK (Px (K0 μ H1 w R2) w w1) hfm fun b x h=>by
  unfold Px at h;split at h
  ·refine .inr ?_;have hw:=WI h;unfold K0 at h;split at h
   ·rename_i hc;obtain⟨i,hi,o,im,ho,QF,Uz⟩:=hc;have ZL:=List.all_eq_true.1 W9 i hi;rw[Bool.or_eq_true]at ZL;rcases Uz with ⟨hr',Kw⟩|⟨hl,hblk⟩
    ·left;cases hx:im.fm b with
     |none=>exact absurd hx Kw
     |some y=>
      obtain⟨Zz,QP,hf'⟩:=QC.KL i o (hSR i hi) ho hr';rw[QF]at QP;cases QP;have:=hf' b y hx;rw[hw]at this;cases this;exact⟨i,im,o,hSR i hi,ho,hr',QF,hx⟩
    ·right;rcases ZL with ZL|ZL
     ·obtain⟨o',UD,hr'⟩:=ZB ZL;rw[ho]at UD;cases UD;exact absurd hl (by cases o <;> first|exact id|exact hr'.elim)
     ·exact⟨i,List.mem_filter.2 ⟨hi,ZL⟩,im,QF,hblk⟩
   ·cases h
  ·rename_i hge;exact .inl (Nat.le_of_not_lt hge)
 refine⟨.ret v',w1,_,XC,.ret (PH Xu 4 out v' ho ht),fun _=>⟨fr,hc,by rw[hfn];rfl,hl⟩,fun c cs' e=> ?_⟩;subst e;exact Steps.trans hc (.one (step_leave_returned hl))
theorem Uv{r:Nat}{v:Value}(Xh:r<n)(W9:Xs (Qs H r)=true)(hd:∀c,o.op≠.defer c)
 (h:∀(μ:Mu) (w:World) (ρ:Operand->Value) (im:aO),μ r=some im->(∀b x,im.fm b=some x->w.heap[b]? =some x)->(∀x∈o.op.operands,∀v,XW T x=some v->VR μ v (ρ x))->∃v',(execOp ρ o).run P w=.ok (.value v') w/\VR μ v v'):
 R5 P B o (XW T) H n (.ret v) H n [r] []:=fun S μ w fr _ _ _ _ _ QC hB _ _ XL hR hm ht ho hw=>by
 obtain⟨x,hx,hr⟩:=ZB W9;obtain⟨im,QF,hf⟩:=QC.KL r x (hR r (by simp) Xh) hx hr;obtain⟨v',h1,h2⟩:=h μ w fr.eval im QF hf XL;exact⟨.ret v',w,μ,Post.refl QC,.ret h2,Ju hm ht ho hw hd h1⟩
theorem AD{fm:Nat->Option Obj}{w:World}(hw:∀b x,fm b=some x->w.heap[b]? =some x){off:Nat}{cs:Array Value}{u v:Value}{t:TypeId}(hu:TRv fm (PM off cs) u)(h:Ky P t cs off=some v):∃v',(Instr.loadAt t u).run P w=.ok v' w/\TRv fm v v':=by
 obtain⟨b,o,arr,ty,fl,rfl,h1,h2,h3⟩:=hu.ptr_inv;have hb:=hw _ _ h1;have hcell:∀i,i<cs.size->∃v',w.cell? ⟨b,o+i,none⟩=some v'/\∀v,cs[i]? =some v->TRv fm v v':=by
  intro i hi;have Xh:=h2 i hi;exact⟨arr[o+i],by simp[World.cell?,hb,Xh],fun v hv=>h3 i v _ hv (by simp[Xh])⟩
 unfold Ky at h;cases hag:o8 P t with
 |none=>rw[hag]at h;cases h
 |some g=>
  rw[hag]at h;cases g with
  |true=>
   cases hz:Ww P t with
   |none=>rw[hz]at h;cases h
   |some z=>
    rw[hz]at h;dsimp only at h;cases hb2:Nat.ble (off+z) cs.size with
    |false=>rw[hb2]at h;cases h
    |true=>
     rw[hb2]at h;simp only[cond_true,YO]at h;subst h;have hle:=YL hb2;have hr:=run_loadCells (P:=P) w ⟨b,o+off,none⟩ z (fun j=>(w.cell? ⟨b,o+(off+j),none⟩).getD undef) (fun j hj=>by
      obtain⟨v',ZY,_⟩:=hcell (off+j) (by omega);rw[WA,show o+off+j=o+(off+j)by omega,ZY];rfl)
     refine⟨.agg _,by simp[Instr.loadAt,Instr.sureAddr,loadVar,UA hag,Zh hz,hr];rfl,.agg (by simp;omega) fun i v v' hv ZY=> ?_⟩;have hi:i<z:=by
      have:=(Array.getElem?_eq_some_iff.1 hv).1;simp at this;omega
     obtain⟨u,h4,h5⟩:=hcell (off+i) (by omega);simp[hi,h4]at ZY;subst ZY;refine h5 v ?_;rw[Array.getElem?_extract]at hv;split at hv
     ·exact hv
     ·cases hv
  |false=>
   simp only at h;have hi:=(Array.getElem?_eq_some_iff.1 h).1;obtain⟨v',ZY,ht⟩:=hcell off hi;exact⟨v',by simp[Instr.loadAt,Instr.sureAddr,loadVar,UA hag,run_load,ZY],ht v h⟩
theorem rk{v:Value}{r:Nat}(e:yR P T o=some (v,r))(Xh:r<n)(W9:Xs (Qs H r)=true):R5 P B o (XW T) H n (.ret v) H n [r] []:=by
 unfold yR at e;split at e
 ·rename_i c Zb;split at e
  ·rename_i hc;split at e
   ·rename_i x t ha ht;split at e
    ·rename_i u hx;split at e
     ·rename_i r0 k cs el htop hue;rw[Zt]at hue;simp only[YO,YR]at e;obtain⟨rfl,rfl⟩:=e;refine Uv Xh W9 (fun c h=>by rw[Zb]at h;cases h) fun μ w ρ im QF hf XL=> ?_
      have ea:c.args=#[x]:=by rw[<-ha]
      have et:c.argTypes=#[t]:=by rw[<-ht]
      have hv:=XL x (by simp[Zb,Op.operands,Call.operands,hc,ea]) _ hx;rw[P4 htop]at hv;obtain⟨Zz,_,htr⟩:=hv.top_inv;have hlen:∃a c,ρ x=.slice a k c:=by
       rcases htr.slice_inv with ⟨b,o',c',arr,t',fl,h1,_⟩|⟨rfl,_,a',c',h1,_⟩
       ·exact⟨_,_,h1⟩
       ·exact⟨_,_,h1⟩
      obtain⟨a,cp,hv⟩:=hlen;refine⟨.int .i64 k, ?_,.int _ _⟩;simp[execOp,Zb,resolve,hc,invoke,builtin,ea,et,hv,Builtin.len_,run_underlying hue,goInt]
     ·cases e
    ·cases e
   ·cases e
  ·cases e
 ·rename_i s x f Zb;split at e
  ·rename_i u hx;split at e
   ·rename_i r0 off cs htop;split at e
    ·rename_i off' hc;simp only[YO,YR]at e;obtain⟨rfl,rfl⟩:=e;refine Uv Xh W9 (fun c h=>by rw[Zb]at h;cases h) fun μ w ρ im QF hf XL=> ?_
     have hv:=XL x (by simp[Zb,Op.operands]) _ hx;rw[jZ htop]at hv;obtain⟨Zz,QP,htr⟩:=hv.top_inv;rw[QF]at QP;cases QP;obtain⟨b,o',arr,ty,fl,h1,h2,h3,h4⟩:=htr.ptr_inv;have hc2:∃d,off'=off+d/\Wh P s f (.pointer (some ⟨b,o'+off,none⟩))=some (.pointer (some ⟨b,o'+off+d,none⟩)):=by
      unfold Wh at hc ⊢;simp only at hc ⊢;split at hc
      ·split at hc
       ·split at hc
        ·simp only[YO,Value.pointer.injEq,Addr.mk.injEq,true_and,and_true]at hc;rename_i fd hfd _ _ hz;refine⟨fd.offset,hc.symm, ?_⟩;simp_all
        ·cases hc
       ·cases hc
      ·cases hc
     obtain⟨d,rfl,hc2⟩:=hc2;obtain⟨_,hr⟩:=Tv (P:=P) hc2 w;refine⟨.pointer (some ⟨b,o'+off+d,none⟩),by simp[execOp,Zb,h1,hr],.top rfl QF ?_⟩;rw[Nat.add_assoc];exact .ptr h2 h3 h4
    ·cases e
   ·cases e
  ·cases e
 ·rename_i t x Zb;split at e
  ·rename_i u hx;split at e
   ·rename_i r0 off cs htop;split at e
    ·rename_i v0 hc;cases QC:rU 4 v0 with
     |false=>rw[QC]at e;cases e
     |true=>
      rw[QC]at e;simp only[cond_true,YO,YR]at e;obtain⟨rfl,rfl⟩:=e;refine Uv Xh W9 (fun c h=>by rw[Zb]at h;cases h) fun μ w ρ im QF hf XL=> ?_
      have hv:=XL x (by simp[Zb,Op.operands]) _ hx;rw[jZ htop]at hv;obtain⟨Zz,QP,htr⟩:=hv.top_inv;rw[QF]at QP;cases QP;obtain⟨v',h1,h2⟩:=AD hf htr hc;exact⟨v',by simp[execOp,Zb,h1],PH QF 4 v0 v' QC h2⟩
    ·cases e
   ·cases e
  ·cases e
 ·cases e
theorem tP{P:Program}{t e:TypeId}{b off m c z k:Nat}{q:Int}{kk:IntKind}(hu:YC P t=some (.slice e))(hz:Ww P e=some z)(hq:q=(k:Int))(hk:k<m)(hc:m<=c)(w:World):
 (Instr.sliceAt t (.slice (some ⟨b,off,none⟩) m c) (some (.int kk q)) none none).run P w=.ok (.slice (some ⟨b,off+k*z,none⟩) (m-k) (c-k)) w:=by
 rw[Zt]at hu;subst hq;have hb:yh m (some (.int kk (k:Int))) none=some (k,m):=by
  simp only[yh,Eh,decide_eq_true (show(0:Int)<=(k:Int)by omega),decide_eq_true (show(k:Int)<=(m:Int)by omega),Bool.and_self,cond_true,Int.toNat_natCast]
 obtain⟨hr,_,_⟩:=o4 (P:=P) (μ:=fun _=>none) (sl:=true) (lo':=some (.int kk (k:Int))) (hi':=none) hb (show VR _ _ _ from .int _ _) trivial hc w;simp only[Instr.sliceAt,Instr.slice,Sem.run_bind,run_underlying hu,Result.andThen_ok,hr,Zh hz,Sem.run_pure,Option.map_some,WA];rw[if_neg (by omega)]
theorem fT{sv:Value}{r k z by':Nat}{cs:Array Value}{e:TypeId}{zv:Value}(h:TE P T o=some (sv,r,k,cs,e,z,by',zv)):
 ∃c s x t i,o.op=.call c/\c.callee=.builtin .append/\c.args=#[s,x]/\c.argTypes=#[t,t]/\XW T s=some sv/\XW T x=some (Qt r (QE k cs))/\KD sv=true/\P.underlying t=some (.slice e)/\P.info? e=some i/\i.zero=some zv/\i.size=z/\i.bytes=by'/\zv.cells.size=z/\0<z:=by
 unfold TE at h;split at h
 ·rename_i c Zb;split at h
  ·rename_i hc;split at h
   ·rename_i s x t t' ha ht;split at h
    ·rename_i sv' xv hs hx;split at h
     ·rename_i r' k' cs' e' htop hu;split at h
      ·rename_i i hi;split at h
       ·rename_i zv' z' hz Zm;cases hq:(Nat.beq t t' && KD sv' && Nat.beq zv'.cells.size (z'+1))with
        |false=>rw[hq]at h;cases h
        |true=>
         rw[hq]at h;simp only[cond_true,YO,YR]at h;obtain⟨rfl,rfl,rfl,rfl,rfl,rfl,rfl,rfl⟩:=h;simp only[YB]at hq;obtain⟨⟨q1,q2⟩,q3⟩:=hq;obtain rfl:=YE q1;rw[Zt]at hu;rw[Yr]at hi;exact⟨c,s,x,t,i,Zb,hc,by rw[<-ha],by rw[<-ht],hs,by rw[hx,P4 htop],q2,hu,hi,hz,Zm,rfl,YE q3,by omega⟩
       ·cases h
      ·cases h
     ·cases h
    ·cases h
   ·cases h
  ·cases h
 ·cases h
theorem ix{μ:Mu}{s s':Value}(h:KD s=true)(hs:VR μ s s'):∃a,s'=.slice a 0 0:=by
 unfold KD at h;split at h
 ·cases hs;exact⟨_,rfl⟩
 ·cases hs;exact⟨_,rfl⟩
 ·cases h
theorem rn{sv:Value}{r k z by':Nat}{cs cs':Array Value}{e:TypeId}{zv:Value}(h:TE P T o=some (sv,r,k,cs,e,z,by',zv))(Xh:r<n)(W9:Xs (Qs H r)=true)
 (hp:0<k/\k<=maxLen/\k*by'<=140737488355328/\cs.size=k*z/\cs.map (ZA r)=cs'/\(cs.all fun v=>simple v || W6 v)=true/\ones cs'=true):
 R5 P B o (XW T) H n (.ret (.slice (some ⟨n,0,none⟩) k z)) ((n,.cells cs' e (0,0))::H) (n+1) [r] []:=by
 intro S μ w fr _ _ _ _ _ QC hB hS hf XL hR hm ht ho hw;obtain⟨c,s,x,t,i,Zb,hc,ea,et,hs,hx,hbn,hu,hi,hz,Zm,hby,hzs,hzp⟩:=fT h;obtain⟨p1,p2,p3,p4,p5,p6,p7⟩:=hp;obtain⟨xr,hxr,hr⟩:=ZB W9;obtain⟨im,QF,hfm⟩:=QC.KL r xr (hR r (by simp) Xh) hxr hr;have hvs:=XL s (by simp[Zb,Op.operands,Call.operands,hc,ea]) _ hs;have hvx:=XL x (by simp[Zb,Op.operands,Call.operands,hc,ea]) _ hx;obtain⟨a,hsa⟩:=ix hbn hvs;obtain⟨Zz,QP,htr⟩:=hvx.top_inv;rw[QF]at QP;cases QP;rcases htr.slice_inv with ⟨b,o',c',arr,ty,fl,h1,h2,h3,h4,h5,h6⟩|⟨h0,_⟩
 ·have hb:=hfm _ _ h4;obtain⟨news,hnews⟩:∃news,news=(arr.toList.drop o').take (k*z):=⟨_,rfl⟩
  have hnl:news.length=k*z:=by
   rw[hnews,List.length_take,List.length_drop,Array.length_toList];have:∀j,j<k*z->o'+j<arr.size:=fun j hj=>h5 j (by omega)
   have:=this (k*z-1) (by have:=Nat.mul_pos p1 hzp;omega);have:=Nat.mul_pos p1 hzp;omega
  have Qs:∀(j:Nat) u,news[j]? =some u->arr[o'+j]? =some u:=by
   intro j u hj;rw[hnews,List.getElem?_take]at hj;split at hj
   ·rw[List.getElem?_drop]at hj;simpa using hj
   ·cases hj
  have hcell:∀(j:Nat) u,news[j]? =some u->w.cell? ((⟨b,o',none⟩:Addr).add j)=some u:=by
   intro j u hj;rw[WA];have:=Qs j u hj;simp[World.cell?,hb];exact this
  have hV:VRs μ cs' news.toArray:=by
   refine⟨by rw[<-p5];simp[hnl,p4],fun j v v' hv ZY=> ?_⟩;rw[<-p5,Array.getElem?_map]at hv;cases hy:cs[j]? with
   |none=>rw[hy]at hv;cases hv
   |some y=>
    rw[hy]at hv;simp only[Option.map_some,YO]at hv;subst hv;exact SA QF (Array.all_eq_true'.1 p6 y (Array.mem_of_getElem? hy)) (h6 j y v' hy (Qs j v' (by simpa using ZY)))
  have VI:∃C,k<=C/\C<=maxLen/\(Builtin.append_ #[t,t] o.type #[fr.eval s,fr.eval x]).run P w=.ok (.slice (some ⟨w.heap.size,0,none⟩) k C) (w.drew.alloc (.cells (news.toArray++Builtin.zeroCells zv.cells (C-k)) e)):=by
   have hk63:(k:Int)<=9223372036854775807:=by simp only[maxLen]at p2;omega
   have hr0:=run_append_nil (P:=P) w t o.type e i zv hu hi hz ⟨b,o',none⟩ k c' news (by rw[hnl,Zm]) hcell p1 hk63 (by rw[hby];omega);refine⟨grownCap w k 0 e,grownCap_ge w k 0 e,grownCap_le_maxLen w k 0 e p2, ?_⟩;rw[hsa,h1];cases a with
   |none=>exact hr0
   |some a=>rw[iy hu hi hz w a ⟨b,o',none⟩ k c' news (by rw[hnl,Zm]) hcell p1 p2 (by rw[hby];exact p3)];exact hr0
  obtain⟨C,hC1,hC2,VI⟩:=VI;have hfn:=hf n (Nat.le_refl _) (by omega);have harr:(news.toArray++Builtin.zeroCells zv.cells (C-k)).size=C*z:=by
   rw[Array.size_append,size_zeroCells,hzs,List.size_toArray,hnl,<-Nat.add_mul];congr 1;omega
  refine⟨.ret (.slice (some ⟨w.heap.size,0,none⟩) k C),_,_,eY QC hS hfn none (fun _ h=>by cases h) w.heap.size (news.toArray++Builtin.zeroCells zv.cells (C-k)).size _ hB.le (by simp) (.inl (Nat.le_refl _)) (by simp) (fun b hb _=>Below.heap_alloc w.drew _ b hb) (.ofCells (heap_alloc_new w.drew _) ?_ rfl fun j v hv=> ?_) ⟨rfl,rfl,rfl⟩,.ret ?_,Ju hm ht ho hw (fun c h=>by rw[Zb]at h;cases h) (w':=w.drew.alloc _) ?_⟩
  ·rw[Array.size_append];have:=hV.1;simp only[List.size_toArray]at this ⊢;omega
  ·obtain⟨u,e1,e2⟩:=hV.get hv;have hj:j<news.toArray.size:=(Array.getElem?_eq_some_iff.1 e1).1;exact⟨u,by rw[Array.getElem?_append_left hj];exact e1,e2.mono (Kn hfn)⟩
  ·refine .slice ⟨_,Xu,rfl,rfl⟩ hC1 hC2 (fun _ im QF _ _=> ?_);rw[Xu]at QF;cases QF;exact harr.symm
  ·simp[execOp,Zb,resolve,hc,invoke,builtin,ea,et,VI]
 ·omega
theorem oG{sv:Value}{r k z by':Nat}{cs:Array Value}{e:TypeId}{zv:Value}(h:TE P T o=some (sv,r,k,cs,e,z,by',zv))(Xh:r<n)(W9:Xs (Qs H r)=true)(hk:k=0):
 R5 P B o (XW T) H n (.ret sv) H n [r] []:=by
 obtain⟨c,s,x,t,i,Zb,hc,ea,et,hs,hx,hbn,hu,hi,hz,Zm,hby,hzs,hzp⟩:=fT h;refine Uv Xh W9 (fun c h=>by rw[Zb]at h;cases h) fun μ w ρ im QF hf XL=> ?_
 have hvs:=XL s (by simp[Zb,Op.operands,Call.operands,hc,ea]) _ hs;have hvx:=XL x (by simp[Zb,Op.operands,Call.operands,hc,ea]) _ hx;obtain⟨a,hsa⟩:=ix hbn hvs;obtain⟨Zz,QP,htr⟩:=hvx.top_inv;rw[QF]at QP;cases QP;subst hk;have hxx:∃b d,ρ x=.slice b 0 d:=by
  rcases htr.slice_inv with ⟨b,o',c',arr,ty,fl,h1,_⟩|⟨_,_,a',c',h1,_⟩
  ·exact⟨_,_,h1⟩
  ·exact⟨_,_,h1⟩
 obtain⟨b,d,hxx⟩:=hxx;refine⟨.slice a 0 0, ?_,by rw[<-hsa];exact hvs⟩;have hszp:Ww P e=some z:=by simp[Ww,Yr,hi,Zm]
 have hr:=iz (ty:=o.type) hu hszp w a b 0 0 d (Nat.le_refl _);simp[execOp,Zb,resolve,hc,invoke,builtin,ea,et,hsa,hxx,hr]
theorem tE{b off k r m z:Nat}{cs2:Array Value}(h:jd P T o=some (b,off,k,r,m,cs2,z)):
 ∃c s x t t2 e s1,o.op=.call c/\c.callee=.builtin .copy/\c.args=#[s,x]/\c.argTypes=#[t,t2]/\XW T s=some (.slice (some ⟨b,off,none⟩) k s1)/\XW T x=some (Qt r (QE m cs2))/\P.underlying t=some (.slice e)/\Ww P e=some z:=by
 unfold jd at h;split at h
 ·rename_i c Zb;split at h
  ·rename_i hc;split at h
   ·rename_i s x t t2 ha ht;split at h
    ·rename_i b' off' k' s1 xv hs hx;split at h
     ·rename_i r' m' cs' e' htop hu;split at h
      ·rename_i z' hz;simp only[YO,YR]at h;obtain⟨rfl,rfl,rfl,rfl,rfl,rfl,rfl⟩:=h;rw[Zt]at hu;exact⟨c,s,x,t,t2,e',s1,Zb,hc,by rw[<-ha],by rw[<-ht],hs,by rw[hx,P4 htop],hu,hz⟩
      ·cases h
     ·cases h
    ·cases h
   ·cases h
  ·cases h
 ·cases h
theorem rl{b off k r m z:Nat}{cs cs2 cs':Array Value}{te:TypeId}(h:jd P T o=some (b,off,k,r,m,cs2,z))(hg:Qs H b=some (.cells cs te (0,0)))(Xh:r<n)(W9:Xs (Qs H r)=true)(hbn:b<n)
 (hp:0<m/\off+Nat.min m k*z<=cs.size/\Nat.min m k*z<=cs2.size/\(cs2.all fun v=>simple v || W6 v)=true/\ones ((cs2.extract 0 (Nat.min m k*z)).map (ZA r))=true/\splice cs off ((cs2.extract 0 (Nat.min m k*z)).map (ZA r))=cs'):
 R5 P B o (XW T) H n (.ret (.int .i64 (Nat.min m k))) (Vw H b (.cells cs' te (0,0))) n [b,r] [b]:=by
 intro S μ w fr _ _ _ _ _ QC hB hS hf XL hR hm ht ho hw;obtain⟨c,s,x,t,t2,e,s1,Zb,hc,ea,et,hs,hx,hu,hz⟩:=tE h;obtain⟨p0,h1,h2,p4,h3,rfl⟩:=hp;obtain⟨xr,hxr,hr⟩:=ZB W9;obtain⟨imr,himr,hfm⟩:=QC.KL r xr (hR r (by simp) Xh) hxr hr;have hb:S b:=hR b (by simp) hbn;obtain⟨im,QF,ZL⟩:=QC.rel b _ hb hg trivial;have hvs:=XL s (by simp[Zb,Op.operands,Call.operands,hc,ea]) _ hs;have hvx:=XL x (by simp[Zb,Op.operands,Call.operands,hc,ea]) _ hx;obtain⟨imr',himr',htr⟩:=hvx.top_inv;rw[himr]at himr';cases himr';generalize hsv:fr.eval s=sv at hvs;cases hvs with
 |slice har q1 q2 q3=>
  obtain⟨Zz,QP,_,rfl⟩:=har;simp only at QP;rw[QF]at QP;cases QP;rcases htr.slice_inv with ⟨b2,o',c',arr2,ty,fl,g1,g2,g3,g4,g5,g6⟩|⟨h0,_⟩
  ·have hb2:=hfm _ _ g4;have hcell:∀j,j<Nat.min m k*z->w.cell? ((⟨b2,o',none⟩:Addr).add j)=some (arr2.getD (o'+j) undef):=by
    intro j hj;have hlt2:=g5 j (by omega);rw[WA];simp[World.cell?,hb2,hlt2]
   have hload:=run_loadCells (P:=P) w ⟨b2,o',none⟩ (Nat.min m k*z) (fun j=>arr2.getD (o'+j) undef) hcell;generalize hxsd:(((Array.range (Nat.min m k*z)).map fun j=>arr2.getD (o'+j) undef):Array Value)=xs0;obtain⟨xs,hload,hxs⟩:∃xs,(loadCells ⟨b2,o',none⟩ (Nat.min m k*z)).run P w=.ok xs w/\VRs μ ((cs2.extract 0 (Nat.min m k*z)).map (ZA r)) xs:=by
    refine⟨_,hload,⟨by simp;omega,fun i v v' hv ZY=> ?_⟩⟩;rw[Array.getElem?_map]at hv;cases hy:(cs2.extract 0 (Nat.min m k*z))[i]? with
    |none=>rw[hy]at hv;cases hv
    |some y=>
     rw[hy]at hv;simp only[Option.map_some,YO]at hv;subst hv;rw[Array.getElem?_extract]at hy;split at hy
     ·rename_i hlt3;have hi:i<Nat.min m k*z:=by omega
      have hy2:cs2[i]? =some y:=by simpa using hy
      simp[hi]at ZY;have hlt2:=g5 i (by omega);refine SA himr (Array.all_eq_true'.1 p4 y (Array.mem_of_getElem? hy2)) (g6 i y v' hy2 ?_);rw[<-ZY];simp[hlt2]
     ·cases hy
   have hxsz:xs.size=Nat.min m k*z:=by rw[<-hxs.1];simp;omega
   have hexsz:((cs2.extract 0 (Nat.min m k*z)).map (ZA r)).size=Nat.min m k*z:=by simp;omega
   rcases ZL with ⟨_,Wc,hoo,arr,ha,hle,hcap,hcs⟩|⟨hz0,_⟩
   ·have Z7:=run_storeCells_at (P:=P) im.Zn off te xs.toList 0 arr w ha (by simp[hxsz];omega) (hxs.ones h3);simp only[Nat.add_zero]at Z7;refine⟨.ret (.int .i64 (Nat.min m k)),w.setRow im.Zn (CE.splice arr off xs),μ,Post.write QC hS b _ (.cells (CE.splice cs off ((cs2.extract 0 (Nat.min m k*z)).map (ZA r))) te (0,0)) im hb hg trivial QF Wc (w':=w.setRow im.Zn (CE.splice arr off xs)) ?_ ?_ ?_ ⟨rfl,rfl,rfl⟩,.ret (.int _ _),Ju hm ht ho hw (fun c h=>by rw[Zb]at h;cases h) ?_⟩
    ·simp[World.setRow]
    ·intro y hy;exact setRow_other w im.Zn y _ hy
    ·refine .inl ⟨rfl,Wc,hoo,CE.splice arr off xs,setRow_heap w im.Zn arr _ te _ ha, ?_, ?_, ?_⟩
     ·rw[WJ (by rw[hexsz];omega),WJ (by rw[hxsz];omega)];exact hle
     ·rw[WJ (by rw[hxsz];omega)];exact hcap
     ·exact VRs.splice (by rw[hexsz];omega) hle hcs hxs
    ·simp[execOp,Zb,resolve,hc,invoke,builtin,ea,et,hsv,g1,Builtin.copy_,Builtin.lenOf,Builtin.firstCells,Sem.run_bind,Sem.run_pure,Result.andThen_ok,run_underlying hu,Zh hz,hload,hoo,Z7,CE.splice,goInt]
   ·exact absurd rfl hz0
  ·omega
theorem qA(hF:∀g,F g=true->Q3 P g=true)(hJ:∀w,B.has w->J w)(hu:Under H n){h:Option Qk}{a:Told}(e:OF P F J B T o H n h=some a)(hp:∀p,a.p=some p->p):
 R5 P B o (XW T) H n a.s.out a.s.H a.s.n a.s.R a.s.W/\Shape H n a.s.H a.s.n a.s.R a.s.W:=by
 unfold OF at e;split at e
 ·split at e
  ·rename_i v r htr;cases hq:(Nat.blt r n && Xs (Qs H r))with
   |false=>rw[hq]at e;cases e
   |true=>
    rw[hq]at e;simp only[cond_true,YO]at e;subst e;simp only[YB]at hq;exact⟨rk htr (YL hq.1) hq.2,Shape.same _ _ _⟩
  ·exact qB hF hu e hp
 ·exact qB hF hu e hp
 ·rename_i k es;split at e
  ·rename_i t x i Zb;split at e
   ·rename_i u kk q hx hi;split at e
    ·rename_i r m cs el htop hue;split at e
     ·rename_i z hz;cases hq:(Nat.blt r n && Xs (Qs H r))with
      |false=>rw[hq]at e;cases e
      |true=>
       rw[hq]at e;simp only[cond_true,YO]at e;subst e;simp only[YB]at hq;obtain⟨Xh,W9⟩:=hq;obtain⟨hqk,hkm,hes⟩:=hp _ rfl;refine⟨Uv (YL Xh) W9 (fun c h=>by rw[Zb]at h;cases h) fun μ w ρ im QF hf XL=> ?_,Shape.same _ _ _⟩;have hv:=XL x (by simp[Zb,Op.operands]) _ hx;have hiv:=nP (XL i (by simp[Zb,Op.operands]) _ hi);rw[P4 htop]at hv;obtain⟨Zz,QP,htr⟩:=hv.top_inv;rw[QF]at QP;cases QP;have Uz:=htr.slice_inv;rcases Uz with ⟨b,o',c',arr,ty,fl,h1,h2,h3,h4,h5,h6⟩|⟨rfl,_⟩
       ·have hess:k*z+es.size<=cs.size\/es.size=0:=by rw[<-hes];simp;omega
        refine⟨.pointer (some ⟨b,o'+k*z,none⟩),by simp[execOp,Zb,h1,hiv,qN hue hz hqk hkm],.top rfl QF ?_⟩;refine TRv.ptr (o:=o'+k*z) (off:=0) h4 (fun i hi=> ?_) fun i v v' hv ZY=> ?_
        ·have:=h5 (k*z+i) (by omega);omega
        ·rw[<-hes,Array.getElem?_extract]at hv;split at hv
         ·refine h6 (k*z+i) v v' hv ?_;rw[<-ZY,Nat.add_assoc]
         ·cases hv
       ·omega
     ·cases e
    ·cases e
   ·cases e
  ·cases e
 ·rename_i k es;split at e
  ·rename_i t x i Zb;split at e
   ·rename_i u kk q hx hi;split at e
    ·rename_i r off cs m el htop hue;split at e
     ·rename_i z hz;cases hq:(Nat.blt r n && Xs (Qs H r))with
      |false=>rw[hq]at e;cases e
      |true=>
       rw[hq]at e;simp only[cond_true,YO]at e;subst e;simp only[YB]at hq;obtain⟨Xh,W9⟩:=hq;obtain⟨hqk,hkm,hes⟩:=hp _ rfl;refine⟨Uv (YL Xh) W9 (fun c h=>by rw[Zb]at h;cases h) fun μ w ρ im QF hf XL=> ?_,Shape.same _ _ _⟩;have hv:=XL x (by simp[Zb,Op.operands]) _ hx;have hiv:=nP (XL i (by simp[Zb,Op.operands]) _ hi);rw[jZ htop]at hv;obtain⟨Zz,QP,htr⟩:=hv.top_inv;rw[QF]at QP;cases QP;obtain⟨b,o',arr,ty,fl,h1,h2,h3,h4⟩:=htr.ptr_inv;refine⟨.pointer (some ⟨b,o'+off+k*z,none⟩),by simp[execOp,Zb,h1,hiv,dF hue hz hqk hkm],.top rfl QF ?_⟩;rw[Nat.add_assoc o'];refine TRv.ptr (o:=o'+(off+k*z)) (off:=0) h2 (fun i hi=> ?_) fun i v v' hv ZY=> ?_
       ·have Zm:es.size<=cs.size-(off+k*z):=by rw[<-hes];simp;omega
        have:=h3 (off+k*z+i) (by omega);omega
       ·rw[<-hes,Array.getElem?_extract]at hv;split at hv
        ·refine h4 (off+k*z+i) v v' hv ?_;rw[<-ZY,Nat.add_assoc o']
        ·cases hv
     ·cases e
    ·cases e
   ·cases e
  ·cases e
 ·rename_i k m' cs';split at e
  ·rename_i t x lo Zb;split at e
   ·rename_i u kk q hx hi;split at e
    ·rename_i r m cs el htop hue;split at e
     ·rename_i z hz;cases hq:(Nat.blt r n && Xs (Qs H r))with
      |false=>rw[hq]at e;cases e
      |true=>
       rw[hq]at e;simp only[cond_true,YO]at e;subst e;simp only[YB]at hq;obtain⟨Xh,W9⟩:=hq;obtain⟨hqk,hkm,hm',hes⟩:=hp _ rfl;refine⟨Uv (YL Xh) W9 (fun c h=>by rw[Zb]at h;cases h) fun μ w ρ im QF hf XL=> ?_,Shape.same _ _ _⟩;have hv:=XL x (by simp[Zb,Op.operands]) _ hx;have hiv:=nP (XL lo (by simp[Zb,Op.operands]) _ hi);rw[P4 htop]at hv;obtain⟨Zz,QP,htr⟩:=hv.top_inv;rw[QF]at QP;cases QP;have Uz:=htr.slice_inv;rcases Uz with ⟨b,o',c',arr,ty,fl,h1,h2,h3,h4,h5,h6⟩|⟨rfl,_⟩
       ·refine⟨.slice (some ⟨b,o'+k*z,none⟩) (m-k) (c'-k),by simp[execOp,Zb,h1,hiv,tP hue hz hqk hkm h2],.top rfl QF ?_⟩;rw[hm'];refine TRv.slice (o:=o'+k*z) (by omega) (by omega) h4 (fun i hi=> ?_) fun i v v' hv ZY=> ?_
        ·rw[<-hes,Array.size_extract]at hi;have:=h5 (k*z+i) (by omega);omega
        ·rw[<-hes,Array.getElem?_extract]at hv;split at hv
         ·refine h6 (k*z+i) v v' hv ?_;rw[<-ZY,Nat.add_assoc]
         ·cases hv
       ·omega
     ·cases e
    ·cases e
   ·cases e
  ·cases e
 ·rename_i cs';split at e
  ·rename_i u1 r k cs el z by' u2 hta
   cases hq:(Nat.blt r n && Xs (Qs H r))with
   |false=>rw[hq]at e;cases e
   |true=>
    rw[hq]at e;simp only[cond_true,YO]at e;subst e;simp only[YB]at hq;exact⟨rn hta (YL hq.1) hq.2 (hp _ rfl),Shape.new _ _ _ _⟩
  ·cases e
 ·split at e
  ·rename_i sv r k cs el z by' u2 hta
   cases hq:(Nat.blt r n && Xs (Qs H r))with
   |false=>rw[hq]at e;cases e
   |true=>
    rw[hq]at e;simp only[cond_true,YO]at e;subst e;simp only[YB]at hq;exact⟨oG hta (YL hq.1) hq.2 (hp _ rfl),Shape.same _ _ _⟩
  ·cases e
 ·rename_i cs';split at e
  ·rename_i b off k r m cs2 z hta;split at e
   ·rename_i cs te hg;cases hq:(Nat.blt r n && Xs (Qs H r) && Nat.blt b n)with
    |false=>rw[hq]at e;cases e
    |true=>
     rw[hq]at e;simp only[cond_true,YO]at e;subst e;simp only[YB]at hq;have hb:=YL hq.2;exact⟨rl hta hg (YL hq.1.1) hq.1.2 hb (hp _ rfl),(Shape.set _ hb).moreR (fun i hi=>by simp at hi ⊢;exact .inl hi)⟩
   ·cases e
  ·cases e
 ·rename_i s;simp only[YO]at e;subst e;exact KB hF YD (QI P B) hu (hp _ rfl)
 ·rename_i v;split at e
  ·rename_i op t x y yt Zb;split at e
   ·rename_i a b hx hy;cases hq:(af a && af b && af v)with
    |false=>rw[hq]at e;cases e
    |true=>
     rw[hq]at e;simp only[cond_true,YO]at e;subst e;simp only[YB]at hq;have hb:=hp _ rfl;refine⟨U9 (fun c h=>by rw[Zb]at h;cases h) fun μ w ρ _ XL=> ?_,Shape.same _ _ _⟩;have e1:=Rz hq.1.1 (XL x (by simp[Zb,Op.operands]) _ hx);have e2:=Rz hq.1.2 (XL y (by simp[Zb,Op.operands]) _ hy);refine⟨v, ?_,Jd hq.2⟩;simp only[execOp,Zb,e1,e2];rw[Sem.run_bind,hb x y w];rfl
   ·cases e
  ·cases e
 ·rename_i keys out Ux n' W;split at e
  ·rename_i c Zb;split at e
   ·rename_i g args H1 n1 R W1 hcr;cases hn:(Nat.beq n1 n && W1.isEmpty)with
    |false=>rw[hn]at e;cases e
    |true=>
     rw[hn]at e;simp only[cond_true]at e;simp only[YB,List.isEmpty_iff]at hn;obtain⟨JI,rfl⟩:=hn;have JI:=YE JI;subst JI;split at e
     ·rename_i c1 hc1;simp only[YO]at e;subst e;exact KI hF Zb hu hcr ((hp _ rfl).callJ hc1)
     ·cases e
   ·rename_i l fn tm cda cdb H1 n1 R W1 hcr;cases hn:(Nat.beq n1 n && W1.isEmpty && Nat.ble tm.size 16000)with
    |false=>rw[hn]at e;cases e
    |true=>
     rw[hn]at e;simp only[cond_true,YO]at e;subst e;simp only[YB,List.isEmpty_iff]at hn;obtain⟨⟨JI,rfl⟩,Zm⟩:=hn;have JI:=YE JI;subst JI;have Vh:=FJ.recS (hp _ rfl);have:=KB hF Vh (QI P B) hu (T:=T) (o:=o) (s:=⟨out,Ux++H1,n',R++keys,W⟩) (by
      simp[aH,Zb,hcr,Zm,P7])
     exact this
   ·cases e
  ·cases e
 ·rename_i out fz;split at e
  ·rename_i c Zb;split at e
   ·rename_i g args H1 n1 R W1 hcr;cases hn:(Nat.beq n1 n && W1.isEmpty)with
    |false=>rw[hn]at e;cases e
    |true=>
     rw[hn]at e;simp only[cond_true]at e;simp only[YB,List.isEmpty_iff]at hn;obtain⟨JI,rfl⟩:=hn;have JI:=YE JI;subst JI;split at e
     ·rename_i ts R2 L Z7;cases Xh:(R2.all fun i=>Nat.blt i n1)with
      |false=>rw[Xh]at e;cases e
      |true=>
       rw[Xh]at e;simp only[cond_true]at e;cases hpl:SL 2 out with
       |true=>
        rw[hpl]at e;simp only[cond_true,YO]at e;subst e;obtain⟨hL,hpc⟩:=hp _ rfl;exact KI hF Zb hu hcr (zk hJ Z7 hL hpc hpl Xh)
       |false=>
        rw[hpl]at e;simp only[cond_false]at e;cases hq:((R2.all fun i=>Xs (Qs H1 i)) && rU 4 out)with
        |false=>rw[hq]at e;cases e
        |true=>
         rw[hq]at e;simp only[cond_true,YO]at e;subst e;simp only[YB]at hq;obtain⟨hL,hpc⟩:=hp _ rfl;exact KI hF Zb hu hcr (uK hJ Z7 hL hpc Xh hq.1 hq.2)
     ·cases e
   ·cases e
  ·cases e
 ·rename_i out fz;split at e
  ·rename_i c Zb;split at e
   ·rename_i g args H1 n1 R W1 hcr;cases hn:(Nat.beq n1 n && W1.isEmpty)with
    |false=>rw[hn]at e;cases e
    |true=>
     rw[hn]at e;simp only[cond_true]at e;simp only[YB,List.isEmpty_iff]at hn;obtain⟨JI,rfl⟩:=hn;have JI:=YE JI;subst JI;split at e
     ·rename_i ts R2 L Z7;cases hq:((R2.all fun i=>Nat.blt i n1) && (R2.all fun i=>Xs (Qs H1 i) || Tf (Qs H1 i)) && rU 4 out)with
      |false=>rw[hq]at e;cases e
      |true=>
       rw[hq]at e;simp only[cond_true,YO]at e;subst e;simp only[YB]at hq;obtain⟨hL,hpc⟩:=hp _ rfl;exact KI hF Zb hu hcr (r7 hJ Z7 hL hpc hq.1.1 hq.1.2 hq.2)
     ·cases e
   ·cases e
  ·cases e
 ·rename_i κ R ps qs out outs news;split at e
  ·rename_i c Zb;split at e
   ·rename_i g args H1 n1 R0 W1 hcr;cases hn:(Nat.beq n1 n && W1.isEmpty)with
    |false=>rw[hn]at e;cases e
    |true=>
     rw[hn]at e;simp only[cond_true]at e;simp only[YB,List.isEmpty_iff]at hn;obtain⟨JI,rfl⟩:=hn;have JI:=YE JI;subst JI;split at e
     ·rename_i as bs o1 Ux L hw;simp only[YO]at e;subst e;obtain⟨hL,hwr⟩:=hp _ rfl;exact KI hF Zb hu hcr (hwr.callJ hJ κ R ps qs hw hL rfl rfl)
     ·cases e
   ·cases e
  ·cases e
 ·-- a tree Yo is not nil
  split at e
  ·rename_i op t x y yt Zb;split at e
   ·rename_i v hx hy;split at e
    ·rename_i r m cs el htop hue;cases hq:(Nat.blt r n && Xs (Qs H r))with
     |false=>rw[hq]at e;cases e
     |true=>
      rw[hq]at e;simp only[cond_true]at e;simp only[YB]at hq;obtain⟨Xh,W9⟩:=hq;have key:0<m->∀(μ:Mu) (w:World) (ρ:Operand->Value) (im:aO),μ r=some im->(∀x'∈o.op.operands,∀v',XW T x'=some v'->VR μ v' (ρ x'))->ρ y=.slice none 0 0/\∃p c,ρ x=.slice (some p) m c:=fun hm μ w ρ im QF XL=>by
       have hv:=XL x (by simp[Zb,Op.operands]) _ hx;have h2:=XL y (by simp[Zb,Op.operands]) _ hy;rw[P4 htop]at hv;obtain⟨Zz,QP,htr⟩:=hv.top_inv;have e2:ρ y=.slice none 0 0:=by generalize ρ y=z at h2;cases h2;rfl
       refine⟨e2, ?_⟩;rcases htr.slice_inv with ⟨b,o',c',arr,ty,fl,h1,_,_,_,_,_⟩|⟨h0,_⟩
       ·exact⟨_,_,h1⟩
       ·omega
      have heq:∀(p:Addr) (c:Nat) (w:World),(Op.equal t (.slice (some p) m c) (.slice none 0 0)).run P w=.ok false w:=fun p c w=>by
       show(Op.equalIn (9999+1) t (.slice (some p) m c) (.slice none 0 0)).run P w=.ok false w;unfold Op.equalIn;rw[Zt]at hue;simp[Sem.run_bind,run_underlying hue,Sem.run_pure]
      split at e
      ·rename_i hop2;simp only[YO]at e;subst e;have hm:=hp _ rfl;refine⟨Uv (YL Xh) W9 (fun c h=>by rw[Zb]at h;cases h) fun μ w ρ im QF hf XL=> ?_,Shape.same _ _ _⟩;obtain⟨e2,p,c,e1⟩:=key hm μ w ρ im QF XL;exact⟨.bool false,by simp[execOp,Zb,e1,e2,eqGuard,binOp,Sem.run_bind,Sem.run_pure,heq],.bool _⟩
      ·rename_i hop2;simp only[YO]at e;subst e;have hm:=hp _ rfl;refine⟨Uv (YL Xh) W9 (fun c h=>by rw[Zb]at h;cases h) fun μ w ρ im QF hf XL=> ?_,Shape.same _ _ _⟩;obtain⟨e2,p,c,e1⟩:=key hm μ w ρ im QF XL;exact⟨.bool true,by simp[execOp,Zb,e1,e2,eqGuard,binOp,Sem.run_bind,Sem.run_pure,heq],.bool _⟩
      ·cases e
    ·cases e
   ·cases e
  ·cases e
 ·rename_i κ R ps qs out outs news o2;split at e
  ·rename_i c Zb;split at e
   ·rename_i g args H1 n1 R0 W1 hcr;cases hn:(Nat.beq n1 n && W1.isEmpty)with
    |false=>rw[hn]at e;cases e
    |true=>
     rw[hn]at e;simp only[cond_true]at e;simp only[YB,List.isEmpty_iff]at hn;obtain⟨JI,rfl⟩:=hn;have JI:=YE JI;subst JI;split at e
     ·rename_i as bs o1 Ux L hw;simp only[YO]at e;subst e;obtain⟨⟨hL,hwr⟩,ho⟩:=hp _ rfl;subst ho;exact KI hF Zb hu hcr (hwr.callJ hJ κ R ps qs hw hL rfl rfl)
     ·cases e
   ·cases e
  ·cases e
end
abbrev Ue(k:Int)(n:Nat)(xs:Array Value)(t:Nat)(v:Array Value):Prop:=k=(↑k.toNat:Int)/\k.toNat<n/\xs.extract (k.toNat*t) (k.toNat*t+t)=v
abbrev o7(a v r:Array Value)(n f z:Nat):Prop:=a.size=n*f/\n+1<=maxLen/\(n+1)*z<=140737488355328/\a++v=r
end Go.CE

namespace Go.CE
open Go Go.RowKit

abbrev Q5:=List (Nat×Qk)
def Mg(sc:Q5)(q:Nat):Option Qk×Q5:=match sc with
 |(k,h)::l=>bif Nat.beq k q then(some h,l)else(none,sc)
 |[]=>(none,[])
structure Oz where
 Qw:List Rec
 T:Tm
 H:Qo
 n:Nat
 sc:Q5
 q:Nat
 L:List Prop
 Z6:Option (Value×List Nat×List Nat)
def ca(P:Program)(F:FuncId->Bool)(J:World->Prop)(B:Lo)(ops:Array Oper):List Oper->Tm->Qo->Nat->Q5->Nat->List Prop->Option Oz
 |[],T,H,n,sc,q,L=>some ⟨[],T,H,n,sc,q,L,none⟩
 |o::l,T,H,n,sc,q,L=>
  bif J7 T o.dst then
   bif Region.wanted o (XI ops T)then
    match Mg sc q with
    |(h,sc')=>match OF P F J B T o H n h with
     |some ⟨⟨.ret v,H1,n1,R,W⟩,p⟩=>match ca P F J B ops l (Vn T o.dst v) H1 n1 sc' (q+1) (more p L)with
      |some r=>some {r with Qw:=⟨o,true,v,T,H,H1,n,n1,R,W⟩::r.Qw}
      |none=>none
     |some ⟨⟨.Z6 v,H1,n1,R,W⟩,p⟩=>some ⟨[],T,H1,n1,sc',q+1,more p L,some (v,R,W)⟩
     |none=>none
   else match ca P F J B ops l (Vn T o.dst undef) H n sc (q+1) L with
    |some r=>some {r with Qw:=⟨o,false,undef,T,H,H,n,n,[],[]⟩::r.Qw}
    |none=>none
  else none
def Hm(P:Program)(F:FuncId->Bool)(B:Lo)(c:CF)(H:Qo)(n:Nat)(f:Operand)(params:Array Tmp)(assign body:Code)(k:List Item)(keys:List Nat)(out:OO)(Ux:Qo)(n':Nat)(W:List Nat):Option (CF×Qo×Prop):=
 match XW c.tmps f with
 |some fv=>match U6 c H n params assign body with
  |some (H1,l,ds,_)=>match Pf F H1 fv #[.func (.yield l) #[] #[]]with
   |some (.enter g args,_)=>match Wa P g args with
    |some c1=>match out with
     | .ret _=>some ({c with todo:=.endRangeFunc l::k,defers:=ds++c.defers},Ux++H1,FJ P B c1 H1 (l+1) out (Ux++H1) n' keys W)
     | .Z6 v=>some ({c with mode:=.Z6 v,defers:=ds++c.defers},Ux++H1,FJ P B c1 H1 (l+1) out (Ux++H1) n' keys W)
    |none=>none
   |_=>none
  |none=>none
 |none=>none
def Qq(P:Program)(F:FuncId->Bool)(J:World->Prop)(B:Lo):Nat->Nat->CF->Qo->Nat->Q5->Nat->List Nat->List Prop->Option ST
 |0,_,c,H,n,_,_,W,L=>some ⟨.at c H n,W,L⟩
 |k+1,b,c,H,n,sc,q,W,L=>
  match c.mode,c.todo with
  | .run,.code (.region _ ops draw)::todo=>match ca P F J B ops ops.toList c.tmps H n sc q L with
    |some r=>match r.Z6 with
     |none=>bif !draw || (WV 0 ops.toList && indep ops 0 r.Qw (Y6 ops.toList []))then Qq P F J B k b {c with tmps:=r.T,todo:=todo} r.H r.n r.sc r.q (ZK b (VO r.Qw) W) r.L else none
     |some (v,_,W1)=>bif !draw || RY ops r.Qw r.T then Qq P F J B k b {c with tmps:=r.T,mode:=.Z6 v} r.H r.n r.sc r.q (ZK b (VO r.Qw++W1) W) r.L else none
    |none=>none
  | .run,.code (.rangeFunc f params assign body)::todo=>match Mg sc q with
    |(some (.ZH (.call keys out Ux n1 W1)),sc')=>match Hn P F B c H n f params assign body todo keys out Ux n1 W1 with
     |some (c',H',p)=>Qq P F J B k b c' H' n1 sc' q (ZK b W1 W) (p::L)
     |none=>none
    |(some (.call keys out Ux n1 W1),sc')=>match Hm P F B c H n f params assign body todo keys out Ux n1 W1 with
     |some (c',H',p)=>Qq P F J B k b c' H' n1 sc' q (ZK b W1 W) (p::L)
     |none=>none
    |_=>none
  |_,_=>match Pb P F Xq (fun _ _ _=>none) c H n with
   |some (.go c' H' n' _ W')=>Qq P F J B k b c' H' n' sc q (ZK b W' W) L
   |some (.done out H' n' _ W')=>some ⟨.fin out H' n',ZK b W' W,L⟩
   |none=>none
section
variable {P:Program} {F:FuncId->Bool} {J:World->Prop} {B:Lo}
theorem Jg{ops:Array Oper}:∀(l:List Oper) (T:Tm) (H:Qo) (n:Nat) (sc:Q5) (q:Nat) (L:List Prop) (r:Oz),ca P F J B ops l T H n sc q L=some r->Qz r.L->Qz L
 |[],T,H,n,sc,q,L,r,h,ha=>by
  simp only[ca,YO]at h;subst h;exact ha
 |o::l,T,H,n,sc,q,L,r,h,ha=>by
  simp only[ca]at h;cases hd:J7 T o.dst with
  |false=>rw[hd]at h;cases h
  |true=>
   rw[hd]at h;simp only[cond_true]at h;cases hw:Region.wanted o (XI ops T)with
   |true=>
    rw[hw]at h;simp only[cond_true]at h;split at h
    ·rename_i v H1 n1 R W p Zb;split at h
     ·rename_i r' hr;simp only[YO]at h;subst h;exact(dv (Jg l _ _ _ _ _ _ r' hr ha)).2
     ·cases h
    ·simp only[YO]at h;subst h;exact(dv ha).2
    ·cases h
   |false=>
    rw[hw]at h;simp only[cond_false]at h;split at h
    ·rename_i r' hr;simp only[YO]at h;subst h;exact Jg l _ _ _ _ _ _ r' hr ha
    ·cases h
def RegOk(P:Program)(B:Lo)(ops:Array Oper)(l:List Oper)(T:Tm)(H:Qo)(n:Nat)(r:Oz):Prop:=match r.Z6 with
 |none=>Kk r.Qw T H n r.T r.H r.n/\r.Qw.map (·.o)=l/\Under r.H r.n
 |some (v,R,W)=> ∃H1 n1 o l2,Kk r.Qw T H n r.T H1 n1/\r.Qw.map (·.o)++o::l2=l/\Region.wanted o (XI ops r.T)=true/\R5 P B o (XW r.T) H1 n1 (.Z6 v) r.H r.n R W/\Shape H1 n1 r.H r.n R W/\Under r.H r.n
theorem RegOk.cons{ops:Array Oper}{l:List Oper}{T:Tm}{H:Qo}{n:Nat}{r:Oz}{x:Rec}(h:RegOk P B ops l (Vn T x.o.dst x.v) x.H' x.n' r)(hT:x.T=T)(hH:x.H=H)(hn:x.n=n):RegOk P B ops (x.o::l) T H n {r with Qw:=x::r.Qw}:=by
 unfold RegOk at h ⊢;cases hp:r.Z6 with
 |none=>
  rw[hp]at h;obtain⟨h3,h4,h5⟩:=h;exact⟨⟨hT,hH,hn,h3⟩,by simp[h4],h5⟩
 |some p=>
  obtain⟨v,R,W⟩:=p;rw[hp]at h;obtain⟨H1,n1,o,l2,h1,h2,h3⟩:=h;exact⟨H1,n1,o,l2,⟨hT,hH,hn,h1⟩,by simp[h2],h3⟩
theorem JL(hF:∀g,F g=true->Q3 P g=true)(hJ:∀w,B.has w->J w){ops:Array Oper}{len:Nat}:∀(l:List Oper) (T:Tm) (H:Qo) (n:Nat) (sc:Q5) (q:Nat) (L:List Prop) (r:Oz),T.len=len->Under H n->ca P F J B ops l T H n sc q L=some r->Qz r.L->
 (∀x∈r.Qw,aI len x)/\(∀x∈r.Qw,Pj P B ops x)/\RegOk P B ops l T H n r
 |[],T,H,n,sc,q,L,r,hl,hu,h,ha=>by
  simp only[ca,YO]at h;subst h;exact⟨fun r hr=>by simp at hr,fun r hr=>by simp at hr,⟨rfl,rfl,rfl⟩,rfl,hu⟩
 |o::l,T,H,n,sc,q,L,r,hl,hu,h,ha=>by
  simp only[ca]at h;cases hd:J7 T o.dst with
  |false=>rw[hd]at h;cases h
  |true=>
   have hdst:=KH hd;rw[hl]at hdst;rw[hd]at h;simp only[cond_true]at h;cases hw:Region.wanted o (XI ops T)with
   |true=>
    rw[hw]at h;simp only[cond_true]at h;split at h
    ·rename_i v H1 n1 R W p Zb;split at h
     ·rename_i r' hr;simp only[YO]at h;subst h;have hpL:=dv (Jg l _ _ _ _ _ _ r' hr ha);obtain⟨hdo,JY⟩:=qA hF hJ hu Zb hpL.1;obtain⟨h1,h2,h3⟩:=JL hF hJ (ops:=ops) (len:=len) l (Vn T o.dst v) H1 n1 _ _ _ r' (by rw[VS];exact hl) (hu.shape JY) hr ha;refine⟨fun x hx=> ?_,fun x hx=> ?_,RegOk.cons (x:=⟨o,true,v,T,H,H1,n,n1,R,W⟩) h3 rfl rfl rfl⟩
      ·rcases List.mem_cons.1 hx with rfl|hx
       ·exact⟨JY.le,JY.keep,JY.top,JY.sub,JY.wlt,hdst⟩
       ·exact h1 x hx
      ·rcases List.mem_cons.1 hx with rfl|hx
       ·exact⟨hw.symm,(fun _=>hdo),(fun e=>by cases e)⟩
       ·exact h2 x hx
     ·cases h
    ·rename_i v H1 n1 R W p Zb;simp only[YO]at h;subst h;obtain⟨hdo,JY⟩:=qA hF hJ hu Zb (dv ha).1;exact⟨fun r hr=>by simp at hr,fun r hr=>by simp at hr,H,n,o,l,⟨rfl,rfl,rfl⟩,rfl,hw,hdo,JY,hu.shape JY⟩
    ·cases h
   |false=>
    rw[hw]at h;simp only[cond_false]at h;split at h
    ·rename_i r' hr;simp only[YO]at h;subst h;obtain⟨h1,h2,h3⟩:=JL hF hJ (ops:=ops) (len:=len) l (Vn T o.dst undef) H n _ _ _ r' (by rw[VS];exact hl) hu hr ha;refine⟨fun x hx=> ?_,fun x hx=> ?_,RegOk.cons (x:=⟨o,false,undef,T,H,H,n,n,[],[]⟩) h3 rfl rfl rfl⟩
     ·rcases List.mem_cons.1 hx with rfl|hx
      ·exact⟨Nat.le_refl _,fun _ _ _=>rfl,fun _ _=>rfl,fun i hi=>by simp at hi,fun i hi=>by simp at hi,hdst⟩
      ·exact h1 x hx
     ·rcases List.mem_cons.1 hx with rfl|hx
      ·exact⟨hw.symm,(fun e=>by cases e),fun _=>⟨rfl,rfl,rfl,rfl⟩⟩
      ·exact h2 x hx
    ·cases h
theorem nS{c:CF}{H:Qo}{n:Nat}{id:Nat}{ops:Array Oper}{k:List Item}{Qw:List Rec}{v:Value}{H':Qo}{n':Nat}{R W:List Nat}{T':Tm}(hm:c.mode=.run)
 (ht:c.todo=.code (.region id ops false)::k) (hs:∀x∈Qw,aI c.tmps.len x) (hk:∀x∈Qw,Pj P B ops x)
 (h:∃H1 n1 o l2,Kk Qw c.tmps H n T' H1 n1/\Qw.map (·.o)++o::l2=ops.toList/\Region.wanted o (XI ops T')=true/\R5 P B o (XW T') H1 n1 (.Z6 v) H' n' R W/\Shape H1 n1 H' n' R W/\Under H' n'):
 GoJ P B c H n {c with tmps:=T',mode:=.Z6 v} H' n' (Kz Qw++R) (VO Qw++W):=by
 obtain⟨H1,n1,o,l2,Pw,hmap,Uy,hdo,JY,_⟩:=h;have hown:=VZ (l2:=o::l2) hmap rfl;have hlen:ops.size=Qw.length+(l2.length+1):=by have:=congrArg List.length hmap;simp at this;omega
 have hat:ops[Qw.length]? =some o:=by
  rw[<-Array.getElem?_toList,<-hmap,List.getElem?_append_right (by simp)];simp
 have hsh1:=ZE Qw _ _ _ _ _ _ Pw hs;have l1:=hsh1.le;have l3:=JY.le;refine⟨hsh1.trans JY,fun S μ w fr cs Z QC hB hS hf X5 hR=> ?_⟩;obtain⟨a,b,d⟩:=X5.running hm;rw[ht]at d;obtain⟨L',e,hL⟩:=d.code;have hf1:Y8 μ n n1:=fun q x y=>hf q x (by omega)
 obtain⟨μ1,A1,w1,hp,hT,Z7⟩:=TJ (fr:=fr) (cs:=cs) (k:=L') a Qw 0 c.tmps H n T' H1 n1 (List.range' Qw.length (l2.length+1)) Pw hs hk (fun j r hj=>by rw[Nat.zero_add];exact hown j r hj) rfl S μ w fr.tmps QC hB hS hf1
  (fun q hq Xh=>hR q (List.mem_append_left _ hq) Xh) b
 have hr:List.range' 0 Qw.length++List.range' Qw.length (l2.length+1)=List.range' 0 ops.size:=by
  rw[hlen];have:=List.range'_append_1 (s:=0) (m:=Qw.length) (n:=l2.length+1);simpa using this
 rw[hr,List.range'_succ]at Z7;obtain⟨XY,w2,μ2,KE,ho,hst2⟩:=hdo _ μ1 w1 (Xe fr A1 ops (Qw.length::List.range' (Qw.length+1) l2.length) L') cs L' ops Qw.length _ hp.ok (hB.post QC hp) (fun q hq=>hq.elim (fun e=>by have:=hS q e;omega) (fun e=>e.2))
  (fun q x y=>by rw[hp.ext q (by omega)];exact hf q (by omega) y) (fun x _ v hv=>nY (fr:=Xe fr A1 ops (Qw.length::List.range' (Qw.length+1) l2.length) L') hT x v hv) (fun q hq Xh=>by
   rcases Nat.lt_or_ge q n with h1|h1
   ·exact .inl (hR q (List.mem_append_right _ hq) h1)
   ·exact .inr ⟨h1,Xh⟩) a rfl hat (by rw[show(Xe fr A1 ops (Qw.length::List.range' (Qw.length+1) l2.length) L').tmps=A1 from rfl,UF hT];exact Uy)
 have hpp:=hp.trans KE;cases ho with
 |Z6 hv=>
  rename_i v';refine⟨{Xe fr A1 ops (Qw.length::List.range' (Qw.length+1) l2.length) L' with mode:=.panicking [{v:=v',recovered:=false}]},w2,μ2,hpp,⟨X5.fn,hT.mono (KE.mu fun q x y=>by rw[hp.ext q (by omega)];exact hf q (by omega) y),(fun h=>by cases h),X5.defers.mono (hpp.mu hf),.Z6 hv,X5.kind,X5.round.mono (hpp.mu hf)⟩,rfl,rfl,
   .head (ZP a e) (Z7.trans (hst2.trans ?_))⟩
  simp only[OO.on,Frame.raise,Xe,a];exact Steps.refl _ _
theorem xJ(hF:∀g,F g=true->Q3 P g=true)(XP:P.follows .mixedOrders=true){c c':CF}{H H':Qo}{n n':Nat}{f:Operand}{params:Array Tmp}{assign body:Code}{k:List Item}{keys W:List Nat}{out:OO}{Ux:Qo}{p:Prop}(hu:Under H n)(hm:c.mode=.run)(ht:c.todo=.code (.rangeFunc f params assign body)::k)
 (h:Hm P F B c H n f params assign body k keys out Ux n' W=some (c',H',p)) (hp:p):∃R,GoJ P B c H n c' H' n' R W:=by
 unfold Hm at h;split at h
 ·rename_i fv hfv;split at h
  ·rename_i H1 l ds R1 ho;split at h
   ·rename_i g args R2 hc;split at h
    ·rename_i c1 he;refine⟨R1++R2++keys, ?_⟩;split at h
     ·rename_i v;simp only[YO,YR]at h;obtain⟨rfl,rfl,rfl⟩:=h;have:Pb P F Xq (RH c1 H1 (l+1) ⟨.ret v,Ux++H1,n',keys,W⟩) c H n=some (.go {c with todo:=.endRangeFunc l::k,defers:=ds++c.defers} (Ux++H1) n' (R1++R2++keys) W):=by
       unfold Pb;simp only[hm,ht,hfv,ho,hc,he,P7]
      exact Vm hF XP (QI P B) (FJ.recS hp) hu this
     ·rename_i v;simp only[YO,YR]at h;obtain⟨rfl,rfl,rfl⟩:=h;have:Pb P F Xq (RH c1 H1 (l+1) ⟨.Z6 v,Ux++H1,n',keys,W⟩) c H n=some (.go {c with mode:=.Z6 v,defers:=ds++c.defers} (Ux++H1) n' (R1++R2++keys) W):=by
       unfold Pb;simp only[hm,ht,hfv,ho,hc,he,P7]
      exact Vm hF XP (QI P B) (FJ.recS hp) hu this
    ·cases h
   ·cases h
  ·cases h
 ·cases h
theorem RD(b:Nat):∀(fuel:Nat) (c:CF) (H:Qo) (n:Nat) (sc:Q5) (q:Nat) (W0:List Nat) (L:List Prop) (s:ST),Qq P F J B fuel b c H n sc q W0 L=some s->Qz s.L->Qz L:=by
 intro fuel;induction fuel with
 |zero=>intro c H n sc q W0 L s h ha;simp only[Qq,YO]at h;subst h;exact ha
 |succ k ih=>
  intro c H n sc q W0 L s h ha;simp only[Qq]at h;split at h
  ·split at h
   ·rename_i r' hr';split at h
    ·have h:=KK h;exact Jg _ _ _ _ _ _ _ _ hr' (ih _ _ _ _ _ _ _ _ h ha)
    ·exact Jg _ _ _ _ _ _ _ _ hr' (ih _ _ _ _ _ _ _ _ (KK h) ha)
   ·cases h
  ·split at h
   ·split at h
    ·exact(ih _ _ _ _ _ _ _ _ h ha).2
    ·cases h
   ·split at h
    ·exact(ih _ _ _ _ _ _ _ _ h ha).2
    ·cases h
   ·cases h
  ·split at h
   ·exact ih _ _ _ _ _ _ _ _ h ha
   ·simp only[YO]at h;subst h;exact ha
   ·cases h
theorem ZU(hF:∀g,F g=true->Q3 P g=true)(hJ:∀w,B.has w->J w)(XP:P.follows .mixedOrders=true):∀(fuel b:Nat) (c:CF) (H:Qo) (n:Nat) (sc:Q5) (q:Nat) (W0:List Nat) (L:List Prop) (s:ST),Under H n->Qq P F J B fuel b c H n sc q W0 L=some s->Qz s.L->
 ∃R W,O8 P B c H n R W s.r/\∀i,i<b->(i∈s.W<->i∈W0\/i∈W)
 |0,b,c,H,n,sc,q,W0,L,s,hu,h,ha=>by
  simp only[Qq,YO]at h;subst h;exact⟨[],[],GoJ.refl c H n,fun i _=>by simp⟩
 |k+1,b,c,H,n,sc,q,W0,L,s,hu,h,ha=>by
  have plain:(match Pb P F Xq (fun _ _ _=>none) c H n with
   |some (.go c' H' n' _ W')=>Qq P F J B k b c' H' n' sc q (ZK b W' W0) L
   |some (.done out H' n' _ W')=>some ⟨.fin out H' n',ZK b W' W0,L⟩
   |none=>none)=some s->∃R W,O8 P B c H n R W s.r/\∀i,i<b->(i∈s.W<->i∈W0\/i∈W):=by
   intro h;split at h
   ·rename_i c' H' n' R' W' hs;have J4:GoJ P B c H n c' H' n' R' W':=Vm hF XP (QI P B) YD hu hs;obtain⟨R,W,h1,h2⟩:=ZU hF hJ XP k b c' H' n' sc q _ L s (hu.shape J4.shape) h ha;refine⟨_,_,J4.srj h1,fun i hi=> ?_⟩;rw[h2 i hi,Zj hi,List.mem_append,or_assoc]
   ·rename_i out H' n' R' W' hs;have hdone:FJ P B c H n out H' n' R' W':=Vm hF XP (QI P B) YD hu hs;simp only[YO]at h;subst h;exact⟨R',W',hdone,fun i hi=>Zj hi⟩
   ·cases h
  simp only[Qq]at h;split at h
  ·rename_i id ops draw todo hm ht;split at h
   ·rename_i r hr;cases hpan:r.Z6 with
    |none=>
     rw[hpan]at h;simp only at h;cases hd:(!draw || (WV 0 ops.toList && indep ops 0 r.Qw (Y6 ops.toList [])))with
     |false=>rw[hd]at h;cases h
     |true=>
      rw[hd]at h;simp only[cond_true]at h;have hL:Qz r.L:=by
       exact RD b k _ _ _ _ _ _ _ s h ha
      obtain⟨h1,h2,W9⟩:=JL hF hJ (len:=c.tmps.len) ops.toList c.tmps H n sc q L r rfl hu hr hL;unfold RegOk at W9;rw[hpan]at W9;obtain⟨h3,h4,h5⟩:=W9;have J4:=sL XP hm ht h1 h2 h3 h4 hd;obtain⟨R,W,k1,k2⟩:=ZU hF hJ XP k b _ _ _ _ _ _ _ s h5 h ha;refine⟨_,_,J4.srj k1,fun i hi=> ?_⟩;rw[k2 i hi,Zj hi,List.mem_append,or_assoc]
    |some p=>
     obtain⟨v,R1,W1⟩:=p;rw[hpan]at h;simp only at h;cases hd:(!draw || RY ops r.Qw r.T)with
     |false=>rw[hd]at h;cases h
     |true=>
      rw[hd]at h;simp only[cond_true]at h;have hL:Qz r.L:=by
       exact RD b k _ _ _ _ _ _ _ s h ha
      obtain⟨h1,h2,W9⟩:=JL hF hJ (len:=c.tmps.len) ops.toList c.tmps H n sc q L r rfl hu hr hL;unfold RegOk at W9;rw[hpan]at W9;have J4:GoJ P B c H n {c with tmps:=r.T,mode:=.Z6 v} r.H r.n (Kz r.Qw++R1) (VO r.Qw++W1):=by
       cases draw with
       |true=>
        obtain⟨H1,n1,o,l2,x1,x2,x3,x4,x5,_⟩:=W9;exact ib XP hm ht h1 h2 ⟨H1,n1,o,l2,x1,x2,x3,x4,x5⟩ (by simpa using hd)
       |false=>exact nS hm ht h1 h2 W9
      obtain⟨_,_,_,_,_,_,_,_,_,h5⟩:=W9;obtain⟨R,W,k1,k2⟩:=ZU hF hJ XP k b _ _ _ _ _ _ _ s h5 h ha;refine⟨_,_,J4.srj k1,fun i hi=> ?_⟩;rw[k2 i hi,Zj hi,List.mem_append (s:=VO r.Qw++W1),or_assoc]
   ·cases h
  ·rename_i f params assign body todo hm ht;split at h
   ·rename_i keys out Ux n1 W1 sc' htold;split at h
    ·rename_i c' H' p hi;have hL:=RD b k _ _ _ _ _ _ _ s h ha;obtain⟨R0,J4⟩:=xK hF XP hu hm ht hi hL.1;obtain⟨R,W,h1,h2⟩:=ZU hF hJ XP k b _ _ _ _ _ _ _ s (hu.shape J4.shape) h ha;refine⟨_,_,J4.srj h1,fun i hi=> ?_⟩;rw[h2 i hi,Zj hi,List.mem_append,or_assoc]
    ·cases h
   ·rename_i keys out Ux n1 W1 sc' htold;split at h
    ·rename_i c' H' p hi;have hL:=RD b k _ _ _ _ _ _ _ s h ha;obtain⟨R0,J4⟩:=xJ hF XP hu hm ht hi hL.1;obtain⟨R,W,h1,h2⟩:=ZU hF hJ XP k b _ _ _ _ _ _ _ s (hu.shape J4.shape) h ha;refine⟨_,_,J4.srj h1,fun i hi=> ?_⟩;rw[h2 i hi,Zj hi,List.mem_append,or_assoc]
    ·cases h
   ·cases h
  ·exact plain h
end
end Go.CE

namespace Go.CE
open Go Go.RowKit

def Yv(H:Qo)(n:Nat):List Nat:=(List.range n).filter fun r=>Xs (Qs H r)
theorem pw{H:Qo}{n r:Nat}:r∈Yv H n<->r<n/\Xs (Qs H r)=true:=by simp[Yv]
noncomputable def ja(n n1:Nat)(ρ:Nat->Nat)(μ μ':Mu)(fm:Nat->Option Obj):Mu:=fun i=>if i=n then some ⟨0,0,0,false,fm⟩else if n<i/\i<n1 then μ' (ρ i)else μ i
structure AQ (n n' n1:Nat) (W:List Nat) (μ μ':Mu) (H H' H1:Qo) (w':World) (ρ:Nat->Nat) (fk:List Nat):Prop where
 le:n<n1
 id:∀i,i<n->ρ i=i
 rng:∀i,n<i->i<n1->n<=ρ i/\ρ i<n'
 inj:∀i j,n<i->i<n1->n<j->j<n1->ρ i=ρ j->i=j
 under:Under H1 n1
 ZH:∀i,i<n->i ∉ W->Qs H1 i=Qs H i
 KL:Qs H1 n=some Xa
 obj:∀i o1,i<n1->(n<i\/i∈W/\i<n)->Qs H1 i=some o1->¬Wb o1/\(live o1->∃o,Qs H' (ρ i)=some o/\live o/\∀im,μ' (ρ i)=some im->OR μ' w' im o->OR (ja n n1 ρ μ μ' (K0 μ' H' w' (Yv H' n'++fk))) w' im o1)
 fz:∀k∈fk,n<=k/\k<n'/\(∃o,Qs H' k=some o/\live o)/\∀i,n<i->i<n1->ρ i≠k
theorem Post.merge{B n n' n1:Nat}{W:List Nat}{μ μ':Mu}{H H' H1:Qo}{w w':World}{ρ:Nat->Nat}{fk:List Nat}(QC:Ok B (fun i=>i<n) μ (Qs H) w)(hf:∀i,n<=i->μ i=none)(hp:Post B (fun i=>i<n) n n' W μ μ' H H' w w')(k:AQ n n' n1 W μ μ' H H' H1 w' ρ fk):
 Post B (fun i=>i<n) n n1 W μ (ja n n1 ρ μ μ' (K0 μ' H' w' (Yv H' n'++fk))) H H1 w w':=by
 have le1:=k.le;have hlow:∀i,i<n->ja n n1 ρ μ μ' (K0 μ' H' w' (Yv H' n'++fk)) i=μ i:=fun i hi=>by unfold ja;rw[if_neg (by omega),if_neg (by omega)]
 have hhigh:∀i,n<i->i<n1->ja n n1 ρ μ μ' (K0 μ' H' w' (Yv H' n'++fk)) i=μ' (ρ i):=fun i h1 h2=>by unfold ja;rw[if_neg (by omega),if_pos ⟨h1,h2⟩]
 have hmid:ja n n1 ρ μ μ' (K0 μ' H' w' (Yv H' n'++fk)) n=some ⟨0,0,0,false,K0 μ' H' w' (Yv H' n'++fk)⟩:=by unfold ja;rw[if_pos rfl]
 have hext:Ext μ (ja n n1 ρ μ μ' (K0 μ' H' w' (Yv H' n'++fk))):=by
  intro i im QF;rcases Nat.lt_or_ge i n with h|h
  ·rw[hlow i h];exact QF
  ·rw[hf i h]at QF;cases QF
 generalize hM:ja n n1 ρ μ μ' (K0 μ' H' w' (Yv H' n'++fk))=μ1 at *;have obj:=k.obj;rw[hM]at obj
 -- an object of the new heap: an ZH one Yo was left, the region, or one of the run
 have other:∀i o im,i<n->i ∉ W->Qs H i=some o->live o->μ i=some im->w'.heap[im.Zn]? =w.heap[im.Zn]? :=by
  intro i o im hi hw ho hl QF;refine hp.frame _ (QC.low i o im hi ho hl QF).1 fun q hq hqn Zz QP hb=> ?_
  obtain⟨_,⟨oq,hoq,hlq⟩,im2,Wt,hr⟩:=hp.wr q hq hqn;rw[QP]at Wt;cases Wt;by_cases hra:im.rw=true
  ·exact QC.inj q i oq o Zz im hqn hi (fun e=>hw (e ▸ hq)) hoq ho hlq hl QP QF hr hra hb
  ·have a:=(QC.low i o im hi ho hl QF).2.2 (by simpa using hra);have b:=(QC.low q oq Zz hqn hoq hlq QP).2.1 hr;omega
 have hS':∀i,i<n1->i≠n->(ρ i<n\/n<=ρ i/\ρ i<n'):=by
  intro i hi Kw;rcases Nat.lt_or_ge i n with h|h
  ·exact .inl (by rw[k.id i h];exact h)
  ·exact .inr (k.rng i (by omega) hi)
 have hmuR:∀i,i<n1->i≠n->μ1 i=μ' (ρ i):=by
  intro i hi Kw;rcases Nat.lt_or_ge i n with h|h
  ·rw[hlow i h,k.id i h,hp.ext i (by omega)]
  ·exact hhigh i (by omega) hi
 have VJ:∀i,(i<n\/n<=i/\i<n1)->i<n1:=fun i hi=>hi.elim (fun e=>by omega) (fun e=>e.2)
 have liveH':∀i o1,i<n1->Qs H1 i=some o1->live o1->i≠n/\∃o,Qs H' (ρ i)=some o/\live o:=by
  intro i o1 hi ho hl;have Kw:i≠n:=fun e=>by rw[e,k.KL]at ho;cases ho;exact hl.elim
  refine⟨Kw, ?_⟩;by_cases h:n<i\/i∈W/\i<n
  ·obtain⟨o,h1,h2,_⟩:=(obj i o1 hi h ho).2 hl;exact⟨o,h1,h2⟩
  ·have h1:i<n:=by omega
   have h2:i ∉ W:=fun e=>h (.inr ⟨e,h1⟩)
   rw[k.ZH i h1 h2]at ho;exact⟨o1,by rw[k.id i h1,hp.keep i h1 h2];exact ho,hl⟩
 have hinj:∀i j,i<n1->j<n1->i≠n->j≠n->ρ i=ρ j->i=j:=by
  intro i j hi hj JZ hjn e;rcases Nat.lt_or_ge i n with h|h <;> rcases Nat.lt_or_ge j n with h'|h'
  ·rw[k.id i h,k.id j h']at e;exact e
  ·have:=k.rng j (by omega) hj;rw[k.id i h]at e;omega
  ·have:=k.rng i (by omega) hi;rw[k.id j h']at e;omega
  ·exact k.inj i j (by omega) hi (by omega) hj e
 have regH1:∀i o,i<n1->Qs H1 i=some o->Wb o->i=n\/(i<n/\i ∉ W/\Qs H i=some o/\Qs H' i=some o):=by
  intro i o hi ho hr;by_cases Kw:i=n
  ·exact .inl Kw
  ·by_cases h:n<i\/i∈W/\i<n
   ·exact absurd hr (obj i o hi h ho).1
   ·have h1:i<n:=by omega
    have h2:i ∉ W:=fun e=>h (.inr ⟨e,h1⟩)
    rw[k.ZH i h1 h2]at ho;exact .inr ⟨h1,h2,ho,by rw[hp.keep i h1 h2];exact ho⟩
 have deadW:∀q,q∈W->q<n->(∀o,Qs H' q=some o->¬live o)->∀o,Qs H1 q=some o->¬live o:=by
  intro q hq hqn hd o ho hl;obtain⟨_,o',h5,h6⟩:=liveH' q o (by omega) ho hl;rw[k.id q hqn]at h5;exact hd o' h5 h6
 -- what stands in the region
 have fmCase:∀b x,K0 μ' H' w' (Yv H' n'++fk) b=some x->w'.heap[b]? =some x/\((∃r o im,r<n'/\Qs H' r=some o/\Wb o/\μ' r=some im/\im.fm b=some x)\/∃q o im,q∈fk/\Qs H' q=some o/\live o/\μ' q=some im/\im.Zn=b):=by
  intro b x h;have hw:=WI h;refine⟨hw, ?_⟩;unfold K0 at h;split at h
  ·rename_i hc;obtain⟨i,hi,o,im,ho,QF,Uz⟩:=hc;rcases List.mem_append.1 hi with hi|hi
   ·obtain⟨Xh,Kl⟩:=pw.1 hi;obtain⟨o',UD,hr'⟩:=ZB Kl;rw[ho]at UD;cases UD;rcases Uz with ⟨_,Kw⟩|⟨hl,_⟩
    ·cases hx:im.fm b with
     |none=>exact absurd hx Kw
     |some y=>
      obtain⟨Zz,QP,hf'⟩:=hp.ok.KL i o (by rcases Nat.lt_or_ge i n with h|h;exact .inl h;exact .inr ⟨h,Xh⟩) ho hr'
      rw[QF]at QP;cases QP;have:=hf' b y hx;rw[hw]at this;cases this;exact .inl ⟨i,o,im,Xh,ho,hr',QF,hx⟩
    ·exact absurd hl (by cases o <;> first|exact id|exact hr'.elim)
   ·obtain⟨h1,h2,⟨o',UD,hl'⟩,_⟩:=k.fz i hi;rw[ho]at UD;cases UD;rcases Uz with ⟨hr,_⟩|⟨hl,hb⟩
    ·exact absurd hl' (by cases o <;> first|exact id|exact hr.elim)
    ·exact .inr ⟨i,o,im,hi,ho,hl,QF,hb⟩
  ·cases h
 have hin':∀r,r<n'->(r<n\/n<=r/\r<n'):=fun r h=>by omega
 refine⟨⟨fun i o hi ho hl=> ?_,fun i o im hi ho hl QF=> ?_,fun i j oi oj a b hi hj Pa ZT ZS P0 VQ ha hb hra Kl=> ?_,fun i o hi ho hr=> ?_,fun i j oi oj a b x hi hj ZT ZS Yt VQ ha hb Kl hx=> ?_⟩,by omega,fun i hi=> ?_,fun i hi hw=>k.ZH i hi hw,hp.grow,hp.frame,hp.wr,fun i im o h1 h2 ho hl QF=> ?_,fun i im o hi ho hr QF b x hx=> ?_,hp.os,hp.tape,hp.output⟩
 ·have hi1:=VJ i hi;have Kw:=(liveH' i o hi1 ho hl).1;by_cases h:n<i\/i∈W/\i<n
  ·obtain⟨o',h1,h2,h4⟩:=(obj i o hi1 h ho).2 hl;obtain⟨im,QF,ZL⟩:=hp.ok.rel (ρ i) o' (hS' i hi1 Kw) h1 h2;exact⟨im,by rw[hmuR i hi1 Kw];exact QF,h4 im QF ZL⟩
  ·have h1:i<n:=by omega
   have h2:i ∉ W:=fun e=>h (.inr ⟨e,h1⟩)
   rw[k.ZH i h1 h2]at ho;obtain⟨im,QF,ZL⟩:=QC.rel i o h1 ho hl;exact⟨im,hext _ _ QF,ZL.keep hext (other i o im h1 h2 ho hl QF)⟩
 ·have hi1:=VJ i hi;obtain⟨Kw,o',h1,h2⟩:=liveH' i o hi1 ho hl;rw[hmuR i hi1 Kw]at QF;exact hp.ok.low (ρ i) o' im (hS' i hi1 Kw) h1 h2 QF
 ·have hi1:=VJ i hi;have hj1:=VJ j hj;obtain⟨hni,o1,h1,h2⟩:=liveH' i oi hi1 ZT P0;obtain⟨hnj,o2,h3,h4⟩:=liveH' j oj hj1 ZS VQ;rw[hmuR i hi1 hni]at ha;rw[hmuR j hj1 hnj]at hb;exact hp.ok.inj (ρ i) (ρ j) o1 o2 a b (hS' i hi1 hni) (hS' j hj1 hnj) (fun e=>Pa (hinj i j hi1 hj1 hni hnj e)) h1 h3 h2 h4 ha hb hra Kl
 ·rcases regH1 i o (VJ i hi) ho hr with JZ|⟨h1,h2,h3,h4⟩
  ·rw[JZ];exact⟨_,hmid,fun b x h=>WI h⟩
  ·obtain⟨im,QF,hf'⟩:=hp.ok.KL i o (.inl h1) h4 hr;rw[hp.ext i (by omega)]at QF;exact⟨im,hext _ _ QF,hf'⟩
 ·have hj1:=VJ j hj;obtain⟨hnj,o2,h3,h4⟩:=liveH' j oj hj1 ZS VQ;rw[hmuR j hj1 hnj]at hb;rcases regH1 i oi (VJ i hi) ZT Yt with JZ|⟨h1,h2,h5,h6⟩
  ·rw[JZ,hmid]at ha;cases ha;obtain⟨_,Uz⟩:=fmCase _ _ hx;rcases Uz with ⟨r,o,im,Xh,ho,hr,QF,hfx⟩|⟨q,o,im,hq,ho,hl,QF,hbb⟩
   ·exact hp.ok.sep r (ρ j) o o2 im b x (hin' r Xh) (hS' j hj1 hnj) ho h3 hr h4 QF hb Kl hfx
   ·obtain⟨q1,q2,_,q3⟩:=k.fz q hq;have Kw:q≠ρ j:=by
     intro e;rcases Nat.lt_or_ge j n with h|h
     ·rw[k.id j h]at e;omega
     ·exact q3 j (by omega) hj1 e.symm
    have Wc:=(hp.fresh q im o q1 q2 ho hl QF).1;exact hp.ok.inj q (ρ j) o o2 im b (hin' q q2) (hS' j hj1 hnj) Kw ho h3 hl h4 QF hb Wc Kl hbb
  ·rw[hlow i h1]at ha;exact hp.ok.sep i (ρ j) oi o2 a b x (.inl h1) (hS' j hj1 hnj) h6 h3 Yt h4 (by rw[hp.ext i (by omega)];exact ha) hb Kl hx
 ·rw[<-hM];unfold ja;rw[if_neg (by omega),if_neg (by omega)]
 ·obtain⟨Kw,o',h3,h4⟩:=liveH' i o h2 ho hl;rw[hmuR i h2 Kw]at QF;obtain⟨a,b⟩:=k.rng i (by omega) h2;obtain⟨hr,X5⟩:=hp.fresh (ρ i) im o' a b h3 h4 QF;exact⟨hr,X5.imp id fun⟨q,hq,hqn,hb,hd⟩=>⟨q,hq,hqn,hb,deadW q hq hqn hd⟩⟩
 ·have hi1:i<n1:=by omega
  rcases regH1 i o hi1 ho hr with JZ|⟨h1,h2,_⟩
  ·rw[JZ,hmid]at QF;cases QF;obtain⟨_,Uz⟩:=fmCase _ _ hx;rcases Uz with ⟨r,o,im,Xh,ho,hr,QF,hfx⟩|⟨q,o,im,hq,ho,hl,QF,hbb⟩
   ·by_cases hx:n<=r/\r<n'\/r∈W/\r<n
    ·rcases hp.rf r im o hx ho hr QF b x hfx with c|c|⟨q,hq,hqn,hb,hd⟩
     ·exact .inl c
     ·exact .inr (.inl c)
     ·exact .inr (.inr ⟨q,hq,hqn,hb,deadW q hq hqn hd⟩)
    ·have h:r<n:=by omega
     rw[hp.keep r h fun e=>hx (.inr ⟨e,h⟩)]at ho;rw[hp.ext r (by omega)]at QF;exact .inr (.inl ⟨r,im,o,h,h,ho,hr,QF,hfx⟩)
   ·obtain⟨q1,q2,_,_⟩:=k.fz q hq;rcases(hp.fresh q im o q1 q2 ho hl QF).2 with c|⟨q',hq',hqn,⟨Zz,QP,hb'⟩,hd⟩
    ·exact .inl (by omega)
    ·exact .inr (.inr ⟨q',hq',hqn,⟨Zz,QP,by omega⟩,deadW q' hq' hqn hd⟩)
  ·rcases hi with hi|hi
   ·omega
   ·exact absurd hi.1 h2
end Go.CE

namespace Go.CE
open Go Go.RowKit

section
variable (H:Qo) (m:Nat) (pos:Nat->Option Nat) (fz:List Fz)
def Mw(v:Value):Option (Value×List Prop):=bif simple v then some (v,[])else match v with
 | .func (.via r ⟨[]⟩ 0 true) ⟨[t]⟩ ⟨[]⟩=>bif Xs (Qs H r) && W6 t then some (Qt ((pos r).getD m) t,[])else none
 | .pointer (some ⟨k,o,none⟩)=>match pos k with
   |some j=>some (.pointer (some ⟨j,o,none⟩),[])
   |none=>match ig fz k,Qs H k with
    |some x,some (.cells cs _ (0,0))=>bif x.rs.all fun r=>Xs (Qs H r)then some (Qt m (PM o x.cs),[Zu x.rs cs x.cs])else none
    |_,_=>some (.chan none,[])
 | .slice (some ⟨k,o,none⟩) n z=>match pos k with
   |some j=>some (.slice (some ⟨j,o,none⟩) n z,[])
   |none=>match o,ig fz k,Qs H k with
    |0,some x,some (.cells cs _ (0,0))=>bif x.rs.all fun r=>Xs (Qs H r)then some (Qt m (QE n x.cs),[Zu x.rs cs x.cs])else none
    |_,_,_=>some (.chan none,[])
 | .map (some r)=>match pos r with
   |some j=>some (.map (some j),[])
   |none=>some (.chan none,[])
 | .func (.yield l) ⟨[]⟩ ⟨[]⟩=>match pos l with
   |some j=>some (.func (.yield j) #[] #[],[])
   |none=>some (.chan none,[])
 | .chan none=>some (.chan none,[])
 |_=>none
def qS(f:Value->Option (Value×List Prop)):List Value->Option (List Value×List Prop)
 |[]=>some ([],[])
 |v::l=>match f v with
  |some (t,L)=>match qS f l with
   |some (ts,L2)=>some (t::ts,L++L2)
   |none=>none
  |none=>none
def sR:Nat->Value->Option (Value×List Prop)
 |0,v=>Mw H m pos fz v
 |f+1,v=>match v with
  | .agg xs=>match qS (sR f) xs.toList with
    |some (l,L)=>some (.agg l.toArray,L)
    |none=>none
  | .tuple xs=>match qS (sR f) xs.toList with
    |some (l,L)=>some (.tuple l.toArray,L)
    |none=>none
  | .iface t x=>match sR f x with
    |some (x,L)=>some (.iface t x,L)
    |none=>none
  | .func (.func g) xs ys=>match qS (sR f) xs.toList with
    |some (l,L)=>match qS (sR f) ys.toList with
     |some (k,L2)=>some (.func (.func g) l.toArray k.toArray,L++L2)
     |none=>none
    |none=>none
  |v=>Mw H m pos fz v
def O2(rs:List Nat)(v v1:Value):Prop:=(simple v=true/\v1=v)\/∃r∈rs,∃t,v=Qt r t/\v1=Qt m t/\W6 t=true
def XA(rs:List Nat)(cs cs1:Array Value):Prop:=cs.size=cs1.size/\∀(i:Nat) v v1,cs[i]? =some v->cs1[i]? =some v1->O2 m rs v v1
end
theorem QK{m:Nat}{rs:List Nat}{cs:Array Value}(h:∀v∈cs,simple v=true):XA m rs cs cs:=⟨rfl,fun i v v1 h1 h2=>by
 rw[h1]at h2;cases h2;exact .inl ⟨h v (Array.mem_of_getElem? h1),rfl⟩⟩
inductive iB (m:Nat) (rs:List (Nat×Nat)) (K1:List (Nat×Array Value)) (ow:List (Nat×Nat)):Value->Value->Prop
 |simple {v}:CE.simple v=true->iB m rs K1 ow v v
 |KL {r j t}:(r,j)∈rs->W6 t=true->iB m rs K1 ow (Qt r t) (Qt j t)
 |own {k cs n c}:(k,cs)∈K1->iB m rs K1 ow (.slice (some ⟨k,0,none⟩) n c) (Qt m (QE n cs))
 |nil:iB m rs K1 ow (.slice none 0 0) (Qt m (QE 0 #[]))
 |keep {k j n c}:(k,j)∈ow->iB m rs K1 ow (.slice (some ⟨k,0,none⟩) n c) (.slice (some ⟨j,0,none⟩) n c)
def AllX(m:Nat)(rs:List (Nat×Nat))(K1:List (Nat×Array Value))(ow:List (Nat×Nat)):List Value->List Value->Prop
 |[],[]=>True
 |v::l,u::k=>iB m rs K1 ow v u/\AllX m rs K1 ow l k
 |_,_=>False
def XX(m:Nat)(rs:List (Nat×Nat))(K1:List (Nat×Array Value))(ow:List (Nat×Nat))(cs cs1:Array Value):Prop:=AllX m rs K1 ow cs.toList cs1.toList
theorem AllX.get{m:Nat}{rs:List (Nat×Nat)}{K1:List (Nat×Array Value)}{ow:List (Nat×Nat)}:∀{l k:List Value},AllX m rs K1 ow l k->k.length=l.length/\∀(i:Nat) v u,l[i]? =some v->k[i]? =some u->iB m rs K1 ow v u
 |[],[],_=>⟨rfl,fun i v u h=>by simp at h⟩
 |v::l,u::k,h=>by
  obtain⟨a,b⟩:=AllX.get h.2;refine⟨by simp[a],fun i x y hx hy=> ?_⟩;cases i with
  |zero=>
   simp only[List.getElem?_cons_zero,YO]at hx hy;subst hx hy;exact h.1
  |succ i=>exact b i x y (by simpa using hx) (by simpa using hy)
 |[],_::_,h=>h.elim
 |_::_,[],h=>h.elim
theorem AllX.append{m:Nat}{rs:List (Nat×Nat)}{K1:List (Nat×Array Value)}{ow:List (Nat×Nat)}:∀{l k l2 k2:List Value},AllX m rs K1 ow l k->AllX m rs K1 ow l2 k2->AllX m rs K1 ow (l++l2) (k++k2)
 |[],[],_,_,_,h2=>h2
 |_::_,_::_,_,_,h,h2=>⟨h.1,AllX.append h.2 h2⟩
 |[],_::_,_,_,h,_=>h.elim
 |_::_,[],_,_,h,_=>h.elim
section
variable {B:Nat} {S:Nat->Prop} {H:Qo} {m:Nat} {pos:Nat->Option Nat} {fz:List Fz} {μ μ1:Mu} {w:World} {n':Nat} {fk:List Nat} {im1:aO}
structure ym (H:Qo) (m:Nat) (pos:Nat->Option Nat) (fz:List Fz) (μ μ1:Mu) (w:World) (n':Nat) (fk:List Nat) (im1:aO):Prop where
 ok:∃B S,Ok B S μ (Qs H) w/\∀i,i<n'->S i
 under:Under H n'
 here:∀k j,pos k=some j->μ1 j=μ k
 KL:μ1 m=some im1
 fm:im1.fm=K0 μ H w (Yv H n'++fk)
 sub:∀x∈fz,x.k∈fk
theorem fG:∀(l:List Fz) (k:Nat) (x:Fz),ig l k=some x->x∈l/\x.k=k
 |[],k,x,h=>by cases h
 |y::l,k,x,h=>by
  simp only[ig]at h;cases e:Nat.beq y.k k with
  |true=>
   rw[e]at h;simp only[cond_true,YO]at h;subst h;exact⟨by simp,YE e⟩
  |false=>
   rw[e]at h;obtain⟨h1,h2⟩:=fG l k x h;exact⟨List.mem_cons_of_mem _ h1,h2⟩
theorem DQ(hu:Under H n'){r:Nat}(h:Xs (Qs H r)=true):r<n':=by
 obtain⟨o,ho,_⟩:=ZB h;exact hu.lt ho
theorem ej(c:ym H m pos fz μ μ1 w n' fk im1){r:Nat}(hr:Xs (Qs H r)=true){im:aO}(QF:μ r=some im){b:Nat}{x:Obj}(hx:im.fm b=some x):im1.fm b=some x:=by
 obtain⟨B,S,QC,hS⟩:=c.ok;rw[c.fm];have Xh:=DQ c.under hr;exact js QC (List.mem_append_left _ (pw.2 ⟨Xh,hr⟩)) (hS r Xh) hr QF hx
theorem ir(c:ym H m pos fz μ μ1 w n' fk im1){rs:List Nat}(W9:(rs.all fun r=>Xs (Qs H r))=true){v v1 v':Value}(h:oB rs v v1)(hv:VR μ v v'):TRv im1.fm v1 v':=by
 rcases h with ⟨h1,rfl⟩|⟨r,hr,rfl,_⟩
 ·rw[simple_eq h1 hv];exact .simple h1
 ·obtain⟨im,QF,ht⟩:=hv.top_inv;exact ht.mono fun b x hx=>ej c (List.all_eq_true.1 W9 r hr) QF hx
theorem Ru(c:ym H m pos fz μ μ1 w n' fk im1){v v' t:Value}{L:List Prop}(h:Mw H m pos fz v=some (t,L))(hL:Qz L)(hv:VR μ v v'):VR μ1 t v':=by
 obtain⟨B,S,QC,hS⟩:=c.ok;have addr:∀{k j o:Nat} {a':Addr},pos k=some j->AR μ ⟨k,o,none⟩ a'->AR μ1 ⟨j,o,none⟩ a':=by
  rintro k j o a' hp ⟨im,h1,h2,h3⟩;exact⟨im,by rw[c.here k j hp];exact h1,rfl,h3⟩
 unfold Mw at h;cases hs:simple v with
 |true=>
  rw[hs]at h;simp only[cond_true,YO,YR]at h;obtain⟨rfl,rfl⟩:=h;rw[simple_eq hs hv];exact ZO hs
 |false=>
  rw[hs]at h;simp only[cond_false]at h;split at h
  ·rename_i r t0;cases hg:(Xs (Qs H r) && W6 t0)with
   |false=>rw[hg]at h;cases h
   |true=>
    rw[hg]at h;simp only[cond_true,YO,YR]at h;obtain⟨rfl,rfl⟩:=h;simp only[YB]at hg;obtain⟨im,QF,ht⟩:=VR.top_inv (r:=r) (t:=t0) hv;cases hp:pos r with
    |none=>exact .top hg.2 c.KL (ht.mono fun b x hx=>ej c hg.1 QF hx)
    |some j=>exact .top hg.2 (by rw[Option.getD_some,c.here r j hp];exact QF) ht
  ·rename_i k o;split at h
   ·rename_i j hj;simp only[YO,YR]at h;obtain⟨rfl,rfl⟩:=h;cases hv with
    |ptr har=>exact .ptr (addr hj har)
   ·split at h
    ·rename_i x cs ty hx hg;cases hr:(x.rs.all fun r=>Xs (Qs H r))with
     |false=>rw[hr]at h;cases h
     |true=>
      rw[hr]at h;simp only[cond_true,YO,YR]at h;obtain⟨rfl,rfl⟩:=h;obtain⟨⟨h2,h3⟩,_⟩:=hL;obtain⟨hxm,hxk⟩:=fG _ _ _ hx;have hkf:k∈fk:=hxk ▸ c.sub x hxm;obtain⟨im,arr,QF,_,hoff,harr,hle,_,hcells⟩:=a6 QC (hS k (c.under.lt hg)) hg;cases hv with
      |ptr har=>
       obtain⟨im2,Wt,_,rfl⟩:=har;rw[QF]at Wt;cases Wt;rw[hoff];refine .top rfl c.KL (TRv.ptr (o:=0) (by rw[c.fm];exact(jt (List.mem_append_right _ hkf) hg trivial QF).trans harr) (fun i hi=>by omega) fun i v v' hv ZY=> ?_);simp only[Nat.zero_add]at ZY;have hi:i<cs.size:=by rw[h2];exact(Array.getElem?_eq_some_iff.1 hv).1
       obtain⟨u,Sg,hu2⟩:=hcells i cs[i] (by simp[hi]);rw[ZY]at Sg;cases Sg;exact ir c hr (h3 i _ _ (by simp[hi]) hv) hu2
    ·simp only[YO,YR]at h;obtain⟨rfl,rfl⟩:=h;cases hv;exact .Kv (fun b e=>by cases e) rfl rfl
  ·rename_i k o n z;split at h
   ·rename_i j hj;simp only[YO,YR]at h;obtain⟨rfl,rfl⟩:=h;cases hv with
    |slice har a b d=>
     refine .slice (addr hj har) a b fun hz im QF Wc hoff=>d hz im ?_ Wc hoff
     rw[<-c.here k j hj];exact QF
   ·split at h
    ·rename_i x cs ty hx hg;cases hr:(x.rs.all fun r=>Xs (Qs H r))with
     |false=>rw[hr]at h;cases h
     |true=>
      rw[hr]at h;simp only[cond_true,YO,YR]at h;obtain⟨rfl,rfl⟩:=h;obtain⟨⟨h2,h3⟩,_⟩:=hL;obtain⟨hxm,hxk⟩:=fG _ _ _ hx;have hkf:k∈fk:=hxk ▸ c.sub x hxm;obtain⟨im,arr,QF,_,hoff,harr,hle,_,hcells⟩:=a6 QC (hS k (c.under.lt hg)) hg;cases hv with
      |slice har a b _=>
       obtain⟨im2,Wt,_,rfl⟩:=har;rw[QF]at Wt;cases Wt;rw[hoff];refine .top rfl c.KL (TRv.slice (o:=0) a b (by rw[c.fm];exact(jt (List.mem_append_right _ hkf) hg trivial QF).trans harr) (fun i hi=>by omega) fun i v v' hv ZY=> ?_);simp only[Nat.zero_add]at ZY;have hi:i<cs.size:=by rw[h2];exact(Array.getElem?_eq_some_iff.1 hv).1
       obtain⟨u,Sg,hu2⟩:=hcells i cs[i] (by simp[hi]);rw[ZY]at Sg;cases Sg;exact ir c hr (h3 i _ _ (by simp[hi]) hv) hu2
    ·simp only[YO,YR]at h;obtain⟨rfl,rfl⟩:=h;cases hv;exact .Kv (fun b e=>by cases e) rfl rfl
  ·rename_i r;split at h
   ·rename_i j hj;simp only[YO,YR]at h;obtain⟨rfl,rfl⟩:=h;cases hv with
    |map hr=>exact .map (by rw[c.here r j hj];exact hr)
   ·simp only[YO,YR]at h;obtain⟨rfl,rfl⟩:=h;cases hv;exact .Kv (fun b e=>by cases e) rfl rfl
  ·rename_i l;split at h
   ·rename_i j hj;simp only[YO,YR]at h;obtain⟨rfl,rfl⟩:=h;cases hv with
    |yield hl=>exact .yield (by rw[c.here l j hj];exact hl)
   ·simp only[YO,YR]at h;obtain⟨rfl,rfl⟩:=h;cases hv;exact .Kv (fun b e=>by cases e) rfl rfl
  ·simp only[YO,YR]at h;obtain⟨rfl,rfl⟩:=h;cases hv with
   |Kv a b c=>exact .Kv a b c
  ·cases h
theorem fL{f:Value->Option (Value×List Prop)}(hf:∀v v' t L,f v=some (t,L)->Qz L->VR μ v v'->VR μ1 t v'):∀(l ts:List Value) (L:List Prop) (l':List Value),qS f l=some (ts,L)->Qz L->l.length=l'.length->(∀(i:Nat) v v',l[i]? =some v->l'[i]? =some v'->VR μ v v')->
 ts.length=l'.length/\∀(i:Nat) v v',ts[i]? =some v->l'[i]? =some v'->VR μ1 v v'
 |[],ts,L,l',h,hL,hl,hv=>by
  simp only[qS,YO,YR]at h;obtain⟨rfl,rfl⟩:=h;exact⟨hl,fun i v v' h=>by simp at h⟩
 |v::l,ts,L,[],h,hL,hl,hv=>by simp at hl
 |v::l,ts,L,v'::l',h,hL,hl,hv=>by
  simp only[qS]at h;split at h
  ·rename_i t L1 h1;split at h
   ·rename_i ts2 L2 h2;simp only[YO,YR]at h;obtain⟨rfl,rfl⟩:=h;obtain⟨a,b⟩:=Xc hL;have k1:=hf v v' t L1 h1 a (hv 0 v v' rfl rfl);obtain⟨k2,k3⟩:=fL hf l ts2 L2 l' h2 b (by simpa using hl) fun i u u' x y=>hv (i+1) u u' (by simpa using x) (by simpa using y)
    refine⟨by simp[k2],fun i u u' x y=> ?_⟩;cases i with
    |zero=>
     simp only[List.getElem?_cons_zero,YO]at x y;subst x y;exact k1
    |succ i=>exact k3 i u u' (by simpa using x) (by simpa using y)
   ·cases h
  ·cases h
theorem VG(c:ym H m pos fz μ μ1 w n' fk im1):∀(f:Nat) (v v' t:Value) (L:List Prop),sR H m pos fz f v=some (t,L)->Qz L->VR μ v v'->VR μ1 t v'
 |0,v,v',t,L,h,hL,hv=>Ru c h hL hv
 |f+1,v,v',t,L,h,hL,hv=>by
  have arr:∀{xs xs':Array Value} {l:List Value} {L:List Prop},qS (sR H m pos fz f) xs.toList=some (l,L)->Qz L->xs.size=xs'.size->(∀(i:Nat) v v',xs[i]? =some v->xs'[i]? =some v'->VR μ v v')->l.toArray.size=xs'.size/\∀(i:Nat) v v',l.toArray[i]? =some v->xs'[i]? =some v'->VR μ1 v v':=by
   intro xs xs' l L h hL hs hx;obtain⟨a,b⟩:=fL (fun v v' t L=>VG c f v v' t L) xs.toList l L xs'.toList h hL (by simpa using hs) fun i v v' x y=>hx i v v' (by simpa using x) (by simpa using y)
   exact⟨by simpa using a,fun i v v' x y=>b i v v' (by simpa using x) (by simpa using y)⟩
  cases v with
  |agg xs=>
   simp only[sR]at h;split at h
   ·rename_i l L1 hl;simp only[YO,YR]at h;obtain⟨rfl,rfl⟩:=h;cases hv with
    |agg h1 h2=>exact .agg (arr hl hL h1 h2).1 (arr hl hL h1 h2).2
   ·cases h
  |tuple xs=>
   simp only[sR]at h;split at h
   ·rename_i l L1 hl;simp only[YO,YR]at h;obtain⟨rfl,rfl⟩:=h;cases hv with
    |tuple h1 h2=>exact .tuple (arr hl hL h1 h2).1 (arr hl hL h1 h2).2
   ·cases h
  |iface ty x=>
   simp only[sR]at h;split at h
   ·rename_i l L1 hl;simp only[YO,YR]at h;obtain⟨rfl,rfl⟩:=h;cases hv with
    |iface hv=>exact .iface (VG c f _ _ _ _ hl hL hv)
   ·cases h
  |func fn xs ys=>
   cases fn with
   |func g=>
    simp only[sR]at h;split at h
    ·rename_i l L1 hl;split at h
     ·rename_i k L2 hk;simp only[YO,YR]at h;obtain⟨rfl,rfl⟩:=h;obtain⟨a,b⟩:=Xc hL;cases hv with
      |func h1 h2 h3 h4=>
       have k1:=arr hl a h1 h3;have k2:=arr hk b h2 h4;exact .func k1.1 k2.1 k1.2 k2.2
     ·cases h
    ·cases h
   |_=>exact Ru (fz:=fz) c (by exact h) hL hv
  |_=>exact Ru (fz:=fz) c (by exact h) hL hv
end
inductive KS where
 |auto
 |cells (rs:List Nat) (cs:Array Value)
 |same
 |dead
 |rows (rs:List (Nat×Nat)) (ks:List Nat) (ow:List (Nat×Nat)) (cs:Array Value)
def Hk(pos:Nat->Option Nat)(p:Nat×Nat):Bool:=match pos p.1 with
 |some j=>Nat.beq j p.2
 |none=>false
def HI(H:Qo)(pos:Nat->Option Nat)(fz:List Fz):List Nat->Option (List (Nat×Array Value)×List Prop)
 |[]=>some ([],[])
 |k::l=>match pos k,ig fz k,Qs H k with
  |none,some x,some (.cells cs _ (0,0))=>bif x.rs.all fun r=>Xs (Qs H r)then match HI H pos fz l with
   |some (K1,L)=>some ((k,x.cs)::K1,Zu x.rs cs x.cs::L)
   |none=>none
    else none
  |_,_,_=>none
theorem xZ{H:Qo}{m:Nat}{pos:Nat->Option Nat}{fz:List Fz}:∀(ks:List Nat) (K1:List (Nat×Array Value)) (L:List Prop),HI H pos fz ks=some (K1,L)->Qz L->∀k cs n c,(k,cs)∈K1->∃L',Mw H m pos fz (.slice (some ⟨k,0,none⟩) n c)=some (Qt m (QE n cs),L')/\Qz L'
 |[],K1,L,h,hL,k,cs,n,c,hm=>by
  simp only[HI,YO,YR]at h;obtain⟨rfl,rfl⟩:=h;simp at hm
 |k0::l,K1,L,h,hL,k,cs,n,c,hm=>by
  simp only[HI]at h;split at h
  ·rename_i x cs0 t0 h1 h2 h3;cases hr:(x.rs.all fun r=>Xs (Qs H r))with
   |false=>rw[hr]at h;cases h
   |true=>
    rw[hr]at h;simp only[cond_true]at h;split at h
    ·rename_i frs2 L2 h4;simp only[YO,YR]at h;obtain⟨rfl,rfl⟩:=h;rcases List.mem_cons.1 hm with e|e
     ·simp only[YR]at e;obtain⟨rfl,rfl⟩:=e;refine⟨[Zu x.rs cs0 x.cs], ?_,hL.1,trivial⟩;unfold Mw;have hs:simple (.slice (some ⟨k,0,none⟩) n c)=false:=rfl;rw[hs];simp only[cond_false,h1,h2,h3,hr,cond_true]
     ·exact xZ l frs2 L2 h4 hL.2 k cs n c e
    ·cases h
  ·cases h
def ND(H:Qo)(m:Nat)(pos:Nat->Option Nat)(fz:List Fz):Option Obj->KS->Option (Obj×List Prop)
 |some (.cells cs t fl),.auto=>match qS (sR H m pos fz 3) cs.toList with
  |some (l,L)=>some (.cells l.toArray t fl,L)
  |none=>none
 |some (.cells cs t fl),.cells rs cs1=>bif rs.all fun r=>Xs (Qs H r)then some (.cells cs1 t fl,[XA m rs cs cs1])else none
 |some (.cells cs t fl),.rows rs ks ow cs1=>bif (rs.all fun p=>Xs (Qs H p.1) && Nat.beq ((pos p.1).getD m) p.2) && ow.all (Hk pos)then match HI H pos fz ks with
  |some (K1,L)=>some (.cells cs1 t fl,XX m rs K1 ow cs cs1::L)
  |none=>none
   else none
 |some (.map es JG),.same=>some (.map es JG,[XE es])
 |some (.loop r),.auto=>match qS (sR H m pos fz 3) r.tmps.toList with
  |some (l,L)=>some (.loop {r with tmps:=l.toArray},L)
  |none=>none
 |some (.deferred ds),.same=>some (.deferred ds,[])
 |some (.pending _ _),.dead=>some (.pending #[] 0,[])
 |_,_=>none
theorem Rv{H:Qo}{m:Nat}{pos:Nat->Option Nat}{fz:List Fz}{μ μ1:Mu}{w:World}{n':Nat}{fk:List Nat}{im1:aO}(c:ym H m pos fz μ μ1 w n' fk im1){o:Option Obj}{s:KS}{o1:Obj}{L:List Prop}(h:ND H m pos fz o s=some (o1,L))(hL:Qz L):
 (∃x,o=some x)/\¬Wb o1/\(live o1->∃x,o=some x/\live x/\∀im,OR μ w im x->OR μ1 w im o1):=by
 have cells:∀{cs cs1:Array Value} {t:TypeId} {fl:Nat×Nat},cs1.size=cs.size->(∀(i:Nat) v v1 v',cs[i]? =some v->cs1[i]? =some v1->VR μ v v'->VR μ1 v1 v')->∀im,OR μ w im (.cells cs t fl)->OR μ1 w im (.cells cs1 t fl):=by
  intro cs cs1 t fl hs hc im ZL;have get:∀(i:Nat) v1,cs1[i]? =some v1->∃v,cs[i]? =some v:=fun i v1 h=>by
   have:=(Array.getElem?_eq_some_iff.1 h).1;exact⟨cs[i],by simp[show i<cs.size by omega]⟩
  rcases ZL with ⟨h1,h2,h3,arr,h4,h5,h6,h7⟩|⟨h1,h2⟩
  ·refine .inl ⟨h1,h2,h3,arr,h4,by omega,h6,fun i v1 hv1=> ?_⟩;obtain⟨v,hv⟩:=get i v1 hv1;obtain⟨v',a,b⟩:=h7 i v hv;exact⟨v',a,hc i v v1 v' hv hv1 b⟩
  ·refine .inr ⟨h1,fun i v1 hv1=> ?_⟩;obtain⟨v,hv⟩:=get i v1 hv1;obtain⟨v',a,b⟩:=h2 i v hv;exact⟨v',a,hc i v v1 v' hv hv1 b⟩
 unfold ND at h;split at h
 ·rename_i cs t fl;split at h
  ·rename_i l L1 hl;simp only[YO,YR]at h;obtain⟨rfl,rfl⟩:=h;have key:∀(l ts:List Value) (L:List Prop),qS (sR H m pos fz 3) l=some (ts,L)->Qz L->ts.length=l.length/\∀(i:Nat) v v1 v',l[i]? =some v->ts[i]? =some v1->VR μ v v'->VR μ1 v1 v':=by
    intro l;induction l with
    |nil=>
     intro ts L h hL;simp only[qS,YO,YR]at h;obtain⟨rfl,rfl⟩:=h;exact⟨rfl,fun i v v1 v' h=>by simp at h⟩
    |cons v l ih=>
     intro ts L h hL;simp only[qS]at h;split at h
     ·rename_i t L1 h1;split at h
      ·rename_i ts2 L2 h2;simp only[YO,YR]at h;obtain⟨rfl,rfl⟩:=h;obtain⟨a,b⟩:=Xc hL;obtain⟨k1,k2⟩:=ih ts2 L2 h2 b;refine⟨by simp[k1],fun i u u1 u' x y hr=> ?_⟩;cases i with
       |zero=>
        simp only[List.getElem?_cons_zero,YO]at x y;subst x y;exact VG c 3 _ _ _ _ h1 a hr
       |succ i=>exact k2 i u u1 u' (by simpa using x) (by simpa using y) hr
      ·cases h
     ·cases h
   obtain⟨k1,k2⟩:=key _ _ _ hl hL;refine⟨⟨_,rfl⟩,id,fun _=> ?_⟩;exact⟨_,rfl,trivial,cells (by simpa using k1) fun i v v1 v' x y=>k2 i v v1 v' (by simpa using x) (by simpa using y)⟩
  ·cases h
 ·rename_i cs t fl rs cs1;cases hr:(rs.all fun r=>Xs (Qs H r))with
  |false=>rw[hr]at h;cases h
  |true=>
   rw[hr]at h;simp only[cond_true,YO,YR]at h;obtain⟨rfl,rfl⟩:=h;obtain⟨⟨h1,h2⟩,_⟩:=hL;refine⟨⟨_,rfl⟩,id,fun _=> ?_⟩;refine⟨_,rfl,trivial,cells h1.symm fun i v v1 v' x y hv=> ?_⟩;rcases h2 i v v1 x y with ⟨hs,rfl⟩|⟨r,hrm,t,rfl,rfl,ht⟩
   ·rw[simple_eq hs hv];exact ZO hs
   ·obtain⟨im,QF,htr⟩:=hv.top_inv;exact .top ht c.KL (htr.mono fun b x hx=>ej c (List.all_eq_true.1 hr r hrm) QF hx)
 ·rename_i cs t fl rs ks ow cs1;cases hr0:((rs.all fun p=>Xs (Qs H p.1) && Nat.beq ((pos p.1).getD m) p.2) && ow.all (Hk pos))with
  |false=>rw[hr0]at h;cases h
  |true=>
   rw[hr0]at h;simp only[cond_true]at h;simp only[YB]at hr0;obtain⟨hr,how⟩:=hr0;split at h
   ·rename_i K1 L2 hks;simp only[YO,YR]at h;obtain⟨rfl,rfl⟩:=h;obtain⟨hx,hL2⟩:=hL;obtain⟨h1,h2⟩:=AllX.get hx;refine⟨⟨_,rfl⟩,id,fun _=> ?_⟩;refine⟨_,rfl,trivial,cells (by simpa using h1) fun i v v1 v' x y hv=> ?_⟩;have hc:=h2 i v v1 (by simpa using x) (by simpa using y);cases hc with
    |simple hs=>rw[simple_eq hs hv];exact ZO hs
    |KL hm ht=>
     rename_i r j t0;have:=List.all_eq_true.1 hr _ hm;simp only[YB]at this;have e:Mw H m pos fz (Qt r t0)=some (Qt j t0,[]):=by
      have hs:simple (Qt r t0)=false:=rfl;unfold Mw;rw[hs];simp only[cond_false,Qt,this.1,ht,Bool.and_self,cond_true,YE this.2]
     exact Ru c e trivial hv
    |own hm=>
     obtain⟨L',e,hL'⟩:=xZ ks K1 L2 hks hL2 _ _ _ _ hm;exact Ru c e hL' hv
    |nil=>
     cases hv;exact .top rfl c.KL .nil
    |keep hm=>
     have hk:=List.all_eq_true.1 how _ hm;unfold Hk at hk;split at hk
     ·rename_i j0 hj0;have hk:=YE hk;have e:=c.here _ _ hj0;rw[hk]at e;cases hv with
      |slice har h1 h2 h3=>
       obtain⟨im,hi,_,rfl⟩:=har;refine .slice ⟨im,e.trans hi,rfl,rfl⟩ h1 h2 fun hs Zz QP=> ?_
       rw[e]at QP;exact h3 hs Zz QP
     ·cases hk
   ·cases h
 ·rename_i es JG;simp only[YO,YR]at h;obtain⟨rfl,rfl⟩:=h;obtain⟨hp,_⟩:=hL;refine⟨⟨_,rfl⟩,id,fun _=> ?_⟩;refine⟨_,rfl,trivial,fun im ZL=> ?_⟩;obtain⟨h1,US,h2,h3,h4⟩:=ZL;refine⟨h1,US,h2,h3,fun i e e' x y=> ?_⟩;obtain⟨p,q,r,s⟩:=h4 i e e' x y;have hs:=hp i e x;exact⟨p,q,r,by rw[Rz hs s];exact Jd hs⟩
 ·rename_i r;split at h
  ·rename_i l L1 hl;simp only[YO,YR]at h;obtain⟨rfl,rfl⟩:=h;refine⟨⟨_,rfl⟩,id,fun _=> ?_⟩;refine⟨_,rfl,trivial,fun im ZL=> ?_⟩;obtain⟨h1,tm,df,h2,h3⟩:=ZL;obtain⟨a,b⟩:=fL (fun v v' t L=>VG c 3 v v' t L) r.tmps.toList l L1 tm.toList hl hL (by simpa using h3.1) fun i v v' x y=>h3.2 i v v' (by simpa using x) (by simpa using y)
   exact⟨h1,tm,df,h2,by simpa using a,fun i v v' x y=>b i v v' (by simpa using x) (by simpa using y)⟩
  ·cases h
 ·rename_i ds;simp only[YO,YR]at h;obtain⟨rfl,rfl⟩:=h;exact⟨⟨_,rfl⟩,id,fun _=>⟨_,rfl,trivial,fun im ZL=>ZL⟩⟩
 ·simp only[YO,YR]at h;obtain⟨rfl,rfl⟩:=h;exact⟨⟨_,rfl⟩,id,fun hl=>hl.elim⟩
 ·cases h
end Go.CE
