/- TW 3: operations on trees. -/
import Derived.Test.YtncjjangllkokaaZRS08
set_option linter.all false
open Nat renaming beq->Lf,blt->Lr,min->LW,ble->LR,le_refl->LI,zero_add->LD,lt_or_ge->LK
open Array renaming getElem?_extract->LX,mem_of_getElem? ->LN,getElem?_toList->Lq
open Option renaming map_some->LL
open List renaming length->Ld,getElem?_append_right->Lm,range'->LM,mem_append_left->Ln,mem_append_right->Lw,range->Ll,getElem?_cons_zero->Lu,mem_cons_of_mem->Lt
namespace Go.CE
open Go Go.RowKit

inductive Qh where
 |Xs (h:Hint)
 |tidx (k:Nat) (es:Array Value)
 |tarr (k:Nat) (es:Array Value)
 |tslc (k m':Nat) (cs':Array Value)
 |tapp (cs':Array Value)
 |tapp0
 |tcpy (cs':Array Value)
 |pure (out:Value) (fz:List Fz)
 |pureK (out:Value) (fz:List Fz)
 |bin (v:Value)
 |call (keys:List Nat) (out:OO) (Yl:Qt) (n':Nat) (W:List Nat)
 |eval (s:Rs)
 |wri (κ R:List Nat) (ps qs:List Bool) (out:OO) (outs news:List Obj)
 |tnil
 |wriC (κ R:List Nat) (ps qs:List Bool) (out:OO) (outs news:List Obj) (o2:OO)
def killL(H:Qt):List Nat->Qt
 |[]=>H
 |k::K=>ah (killL H K) (some k)
def aY:Option Obj->Bool
 |some (.cells _ _ (0,0))=>true
 |_=>false
def yw(P:Program)(T:Tm)(o:Oper):Option (Value×Nat):=match o.op with
 | .call c=>match c.callee with
   | .builtin .len=>match c.args.toList,c.argTypes.toList with
     |[x],[t]=>match Zd T x with
      |some v=>match hQ v,R5 P t with
       |some (r,k,_),some (.slice _)=>some (.int .i64 k,r)
       |_,_=>none
      |none=>none
     |_,_=>none
   |_=>none
 | .fieldAddr s x f=>match Zd T x with
   |some v=>match sR v with
    |some (r,off,cs)=>match Wd P s f (.pointer (some ⟨0,off,none⟩))with
     |some (.pointer (some ⟨0,off',none⟩))=>some (Q2 r (SK off' cs),r)
     |_=>none
    |none=>none
   |none=>none
 | .load t x=>match Zd T x with
   |some v=>match sR v with
    |some (r,off,cs)=>match Y4 P t cs off with
     |some v=>bif rF 4 v then some (Q7 r 4 v,r)else none
     |none=>none
    |none=>none
   |none=>none
 |_=>none
def YW:Value->Bool
 | .slice none 0 0| .chan (some 0)=>true
 |_=>false
def bq(P:Program)(T:Tm)(o:Oper):Option (Value×Nat×Nat×Array Value×TypeId×Nat×Nat×Value):=match o.op with
 | .call c=>match c.callee with
   | .builtin .append=>match c.args.toList,c.argTypes.toList with
     |[s,x],[t,t']=>match Zd T s,Zd T x with
      |some sv,some xv=>match hQ xv,R5 P t with
       |some (r,k,cs),some (.slice e)=>match inf P e with
        |some i=>match i.zero,i.size with
         |some zv,z+1=>bif Lf t t' && YW sv && Lf zv.cells.size (z+1)then some (sv,r,k,cs,e,z+1,i.bytes,zv)else none
         |_,_=>none
        |none=>none
       |_,_=>none
      |_,_=>none
     |_,_=>none
   |_=>none
 |_=>none
def j6(P:Program)(T:Tm)(o:Oper):Option (Nat×Nat×Nat×Nat×Nat×Array Value×Nat):=match o.op with
 | .call c=>match c.callee with
   | .builtin .copy=>match c.args.toList,c.argTypes.toList with
     |[s,x],[t,_]=>match Zd T s,Zd T x with
      |some (.slice (some ⟨b,off,none⟩) k _),some xv=>match hQ xv,R5 P t with
       |some (r,m,cs2),some (.slice e)=>match Wz P e with
        |some z=>some (b,off,k,r,m,cs2,z)
        |none=>none
       |_,_=>none
      |_,_=>none
     |_,_=>none
   |_=>none
 |_=>none
def oB(P:Program)(op:BinOp)(t:TypeId)(a b v:Value):Prop:=∀(x y:Operand) (w:World),(do eqGuard op t x y a b;binOp op t a b:Sem Value).run P w=.ok v w
def opT(P:Program)(F:FuncId->Bool)(J:World->Prop)(B:Lo)(T:Tm)(o:Oper)(H:Qt)(n:Nat):Option Qh->Option Told
 |none=>match yw P T o with
  |some (v,r)=>bif Lr r n && X2 (Qw H r)then some ⟨⟨.ret v,H,n,[r],[]⟩,none⟩else none
  |none=>O9 P F B T o H n none
 |some (.Xs h)=>O9 P F B T o H n (some h)
 |some (.tidx k es)=>match o.op with
  | .indexAddr t x i=>match Zd T x,Zd T i with
    |some v,some (.int _ q)=>match hQ v,R5 P t with
     |some (r,m,cs),some (.slice e)=>match Wz P e with
      |some z=>bif Lr r n && X2 (Qw H r)then some ⟨⟨.ret (Q2 r (SK 0 es)),H,n,[r],[]⟩,some (q=(k:Int)/\k<m/\cs.extract (k*z) (k*z+z)=es)⟩else none
      |none=>none
     |_,_=>none
    |_,_=>none
  |_=>none
 |some (.tarr k es)=>match o.op with
  | .indexAddr t x i=>match Zd T x,Zd T i with
    |some v,some (.int _ q)=>match sR v,R5 P t with
     |some (r,off,cs),some (.array m e)=>match Wz P e with
      |some z=>bif Lr r n && X2 (Qw H r)then some ⟨⟨.ret (Q2 r (SK 0 es)),H,n,[r],[]⟩,some (q=(k:Int)/\k<m/\cs.extract (off+k*z) (off+k*z+z)=es)⟩else none
      |none=>none
     |_,_=>none
    |_,_=>none
  |_=>none
 |some (.tslc k m' cs')=>match o.op with
  | .slice t x (some lo) none none=>match Zd T x,Zd T lo with
    |some v,some (.int _ q)=>match hQ v,R5 P t with
     |some (r,m,cs),some (.slice e)=>match Wz P e with
      |some z=>bif Lr r n && X2 (Qw H r)then some ⟨⟨.ret (Q2 r (QH m' cs')),H,n,[r],[]⟩,some (q=(k:Int)/\k<m/\m'=m-k/\cs.extract (k*z) cs.size=cs')⟩else none
      |none=>none
     |_,_=>none
    |_,_=>none
  |_=>none
 |some (.tapp cs')=>match bq P T o with
  |some (_,r,k,cs,e,z,by',_)=>bif Lr r n && X2 (Qw H r)then
   some ⟨⟨.ret (.slice (some ⟨n,0,none⟩) k z),(n,.cells cs' e (0,0))::H,n+1,[r],[]⟩,some (0<k/\k<=maxLen/\k*by'<=140737488355328/\cs.size=k*z/\cs.map (ZV r)=cs'/\(cs.all fun v=>simple v || WI v)=true/\ones cs'=true)⟩else none
  |none=>none
 |some .tapp0=>match bq P T o with
  |some (sv,r,k,_,_,_,_,_)=>bif Lr r n && X2 (Qw H r)then some ⟨⟨.ret sv,H,n,[r],[]⟩,some (k=0)⟩else none
  |none=>none
 |some (.tcpy cs')=>match j6 P T o with
  |some (b,off,k,r,m,cs2,z)=>match Qw H b with
   |some (.cells cs te (0,0))=>bif Lr r n && X2 (Qw H r) && Lr b n then
    some ⟨⟨.ret (.int .i64 (LW m k)),VA H b (.cells cs' te (0,0)),n,[b,r],[b]⟩,some (0<m/\off+LW m k*z<=cs.size/\LW m k*z<=cs2.size/\(cs2.all fun v=>simple v || WI v)=true/\ones ((cs2.extract 0 (LW m k*z)).map (ZV r))=true/\splice cs off ((cs2.extract 0 (LW m k*z)).map (ZV r))=cs')⟩else none
   |_=>none
  |none=>none
 |some (.eval s)=>some ⟨s,some (dn P F X1 (fun _ _ _=>none) T o H n=some s)⟩
 |some (.bin v)=>match o.op with
  | .binOp op t x y _=>match Zd T x,Zd T y with
    |some a,some b=>bif af a && af b && af v then some ⟨⟨.ret v,H,n,[],[]⟩,some (oB P op t a b v)⟩else none
    |_,_=>none
  |_=>none
 |some (.call keys out Yl n' W)=>match o.op with
  | .call _=>match Ss P F (Zd T) o H n with
    |some ⟨.enter g args,H1,n1,R,W1⟩=>bif Lf n1 n && W1.isEmpty then
     match ZY P g args with
     |some c1=>some ⟨⟨out,Yl++H1,n',R++keys,W⟩,some (FJ P B c1 H1 n out (Yl++H1) n' keys W)⟩
     |none=>none
      else none
    |some ⟨.round l fn tm a b,H1,n1,R,W1⟩=>bif Lf n1 n && W1.isEmpty && LR tm.size 16000 then some ⟨⟨out,Yl++H1,n',R++keys,W⟩,some (FJ P B ⟨fn,ofList tm.size tm.toList,[.code a,.beginRound,.code b],[],.run,some l⟩ H1 n out (Yl++H1) n' keys W)⟩else none
    |_=>none
  |_=>none
 |some (.pure out fz)=>match o.op with
  | .call _=>match Ss P F (Zd T) o H n with
    |some ⟨.enter g args,H1,n1,R,W1⟩=>bif Lf n1 n && W1.isEmpty then
     match Kz (VO H1 fz 3) args.toList with
     |some (ts,R2,L)=>bif R2.all fun i=>Lr i n then
      bif a8 2 out then some ⟨⟨.ret out,H1,n,R++R2,[]⟩,some (Q3 L/\Qr P J g ts.toArray out)⟩
      else bif (R2.all fun i=>X2 (Qw H1 i)) && rF 4 out then some ⟨⟨.ret (Q7 n 4 out),(n,X8)::H1,n+1,R++R2,[]⟩,some (Q3 L/\Qr P J g ts.toArray out)⟩else none
       else none
     |none=>none
      else none
    |_=>none
  |_=>none
 |some (.pureK out fz)=>match o.op with
  | .call _=>match Ss P F (Zd T) o H n with
    |some ⟨.enter g args,H1,n1,R,W1⟩=>bif Lf n1 n && W1.isEmpty then
     match Kz (VO H1 fz 3) args.toList with
     |some (ts,R2,L)=>bif (R2.all fun i=>Lr i n) && (R2.all fun i=>X2 (Qw H1 i) || aY (Qw H1 i)) && rF 4 out then
      some ⟨⟨.ret (Q7 n 4 out),(n,X8)::killL H1 (R2.filter fun i=>aY (Qw H1 i)),n+1,R++R2,R2.filter fun i=>aY (Qw H1 i)⟩,some (Q3 L/\Qr P J g ts.toArray out)⟩else none
     |none=>none
      else none
    |_=>none
  |_=>none
 |some (.wri κ R ps qs out outs news)=>match o.op with
  | .call _=>match Ss P F (Zd T) o H n with
    |some ⟨.enter g args,H1,n1,R0,W1⟩=>bif Lf n1 n && W1.isEmpty then
     match Ic H1 n κ R ps qs args out outs news with
     |some (as,bs,o1,Yl,L)=>some ⟨⟨o1,Yl++H1,n+1+news.length,R0++(κ++R),κ⟩,some (Q3 L/\WriC P J g as.toArray bs out outs news)⟩
     |none=>none
      else none
    |_=>none
  |_=>none
 |some .tnil=>match o.op with
  | .binOp op t x y _=>match Zd T x,Zd T y with
    |some v,some (.slice none 0 0)=>match hQ v,R5 P t with
     |some (r,m,_),some (.slice _)=>bif Lr r n && X2 (Qw H r)then match op with
      | .eql=>some ⟨⟨.ret (.bool false),H,n,[r],[]⟩,some (0<m)⟩
      | .neq=>some ⟨⟨.ret (.bool true),H,n,[r],[]⟩,some (0<m)⟩
      |_=>none
       else none
     |_,_=>none
    |_,_=>none
  |_=>none
 |some (.wriC κ R ps qs out outs news o2)=>match o.op with
  | .call _=>match Ss P F (Zd T) o H n with
    |some ⟨.enter g args,H1,n1,R0,W1⟩=>bif Lf n1 n && W1.isEmpty then
     match Ic H1 n κ R ps qs args out outs news with
     |some (as,bs,o1,Yl,L)=>some ⟨⟨o2,Yl++H1,n+1+news.length,R0++(κ++R),κ⟩,some ((Q3 L/\WriC P J g as.toArray bs out outs news)/\o1=o2)⟩
     |none=>none
      else none
    |_=>none
  |_=>none
section
variable {P:Program} {F:FuncId->Bool} {J:World->Prop} {B:Lo} {T:Tm} {o:Oper} {H:Qt} {n:Nat}
theorem Jb(hF:∀g,F g=true->Q6 P g=true){c:Call}(Zj:o.op=.call c)(hu:Under H n){g:FuncId}{args:Array Value}{H1 H2:Qt}{R keys W:List Nat}{n':Nat}{out:OO}(hcr:Ss P F (Zd T) o H n=some ⟨.enter g args,H1,n,R,[]⟩)(hcj:oA P B g args H1 n out H2 n' keys W):
 Tk P B o (Zd T) H n out H2 n' (R++keys) W/\Shape H n H2 n' (R++keys) W:=by
 have ZX:Ws P B (fun g' a' H' m'=>open Classical in if g'=g/\a'=args/\H'=H1/\m'=n then some ⟨out,H2,n',keys,W⟩else none):=by
  intro g' a' H' m' s _ h;simp only at h;split at h
  ·rename_i q;obtain⟨rfl,rfl,rfl,rfl⟩:=q;simp only[YO]at h;subst h;exact hcj
  ·cases h
 have:=YV hF P2 ZX hu (T:=T) (o:=o) (s:=⟨out,H2,n',R++keys,W⟩) (by simp[dn,Zj,hcr]);exact this
theorem FJ.callJ{g:FuncId}{args:Array Value}{c0:CF}{H':Qt}{n':Nat}{R W:List Nat}{out:OO}(hc:ZY P g args=some c0)(h:FJ P B c0 H n out H' n' R W):oA P B g args H n out H' n' R W:=
 ⟨h.shape,fun S μ w args' cs QE hB hS hf ha hR=>h.sem S μ w (Frame.enter P g args' .normal) cs QE hB hS hf (UL hc ha) hR⟩
theorem FJ.recS{c:CF}{H1:Qt}{n n':Nat}{out:OO}{Yl:Qt}{W keys:List Nat}(h:FJ P B c H1 n out (Yl++H1) n' keys W):gZ P B (Tt c H1 n ⟨out,Yl++H1,n',keys,W⟩):=by
 intro c' H' m' s _ hs;unfold Tt at hs;split at hs
 ·rename_i q;obtain⟨rfl,rfl,rfl⟩:=q;simp only[YO]at hs;subst hs;exact h
 ·cases hs
theorem cR(hJ:∀w,B.has w->J w){g:FuncId}{args:Array Value}{fz:List Fz}{H1:Qt}{ts:List Value}{R2:List Nat}{L:List Prop}{out:Value}(Zh:Kz (VO H1 fz 3) args.toList=some (ts,R2,L))(hL:Q3 L)(hp:Qr P J g ts.toArray out)
 {S:Nat->Prop} {μ:Mu} {w:World} {args':Array Value} (QE:Ok B.B S μ (Qw H1) w) (hB:B.has w) (hv:VRs μ args args') (hS:∀r∈R2,S r):Calls P g args' w fun e w'=> ∃v',e=.returned v'/\Below w.heap.size w w'/\TRv (cm (Y7 μ H1 w R2) w w') out v':=by
 obtain⟨a,b⟩:=Tq (fun v v' t R L h1 h2 h3 h4=>Ph QE 3 v v' t R L h1 h2 h3 h4) args.toList ts R2 L args'.toList Zh hL hS (by simpa using hv.1) fun i v v' x y=>hv.2 i v v' (by simpa using x) (by simpa using y)
 exact hp (Y7 μ H1 w R2) w args' (hJ w hB) (fun b x h=>Vo h) ⟨by simpa using a,fun i v v' x y=>b i v v' (by simpa using x) (by simpa using y)⟩
theorem yP(hJ:∀w,B.has w->J w){g:FuncId}{args:Array Value}{fz:List Fz}{H1:Qt}{ts:List Value}{R2:List Nat}{L:List Prop}{out:Value}(Zh:Kz (VO H1 fz 3) args.toList=some (ts,R2,L))(hL:Q3 L)(hp:Qr P J g ts.toArray out)(Vv:a8 2 out=true)(Xp:(R2.all fun i=>Lr i n)=true):
 oA P B g args H1 n (.ret out) H1 n R2 []:=by
 refine⟨Shape.same _ _ _,fun S μ w args' cs QE hB hS _ ha hR=> ?_⟩;obtain⟨e,w1,fr,⟨v',rfl,hb,ht⟩,hc,hf,hl⟩:=cR hJ Zh hL hp QE hB ha (fun r hr=>hR r hr (YL (List.all_eq_true.1 Xp r hr))) cs;refine⟨.ret v',w1,μ,Post.ofBelow QE hb,.ret (gE 2 out v' Vv ht),fun _=>⟨fr,hc,by rw[hf];rfl,hl⟩,fun c cs' e=> ?_⟩;subst e;exact Steps.trans hc (.one (step_leave_returned hl))
theorem uv(hJ:∀w,B.has w->J w){g:FuncId}{args:Array Value}{fz:List Fz}{H1:Qt}{ts:List Value}{R2:List Nat}{L:List Prop}{out:Value}(Zh:Kz (VO H1 fz 3) args.toList=some (ts,R2,L))(hL:Q3 L)(hp:Qr P J g ts.toArray out)(Xp:(R2.all fun i=>Lr i n)=true)
 (WJ:(R2.all fun i=>X2 (Qw H1 i))=true) (ho:rF 4 out=true):oA P B g args H1 n (.ret (Q7 n 4 out)) ((n,X8)::H1) (n+1) R2 []:=by
 refine⟨Shape.new _ _ _ _,fun S μ w args' cs QE hB hS hf ha hR=> ?_⟩;have hSR:∀r∈R2,S r:=fun r hr=>hR r hr (YL (List.all_eq_true.1 Xp r hr))
 obtain⟨e,w1,fr,⟨v',rfl,hb,ht⟩,hc,hfn,hl⟩:=cR hJ Zh hL hp QE hB ha hSR cs;have hfm:∀b x,cm (Y7 μ H1 w R2) w w1 b=some x->w1.heap[b]? =some x:=by
  intro b x h;unfold cm at h;split at h
  ·rename_i Xp;rw[hb.block b Xp];exact Vo h
  ·exact h
 have Zv:=Post.region (n:=n) QE hS (hf n (LI _) (by omega)) hb (cm (Y7 μ H1 w R2) w w1) hfm fun b x h=>by
  unfold cm at h;split at h
  ·refine .inr ?_;have hw:=Vo h;unfold Y7 at h;split at h
   ·rename_i hc;obtain⟨i,hi,o,im,ho,QK,Yb⟩:=hc;obtain⟨o',Kt,hr'⟩:=ZG (List.all_eq_true.1 WJ i hi);rw[ho]at Kt;cases Kt;rcases Yb with ⟨_,JU⟩|⟨hl,_⟩
    ·cases hx:im.fm b with
     |none=>exact absurd hx JU
     |some y=>
      obtain⟨Z9,QS,hf'⟩:=QE.P1 i o (hSR i hi) ho hr';rw[QK]at QS;cases QS;have:=hf' b y hx;rw[hw]at this;cases this;exact⟨i,im,o,hSR i hi,ho,hr',QK,hx⟩
    ·exact absurd hl (by cases o <;> first|exact id|exact hr'.elim)
   ·cases h
  ·rename_i hge;exact .inl (Nat.le_of_not_lt hge)
 refine⟨.ret v',w1,_,Zv,.ret (SF X3 4 out v' ho ht),fun _=>⟨fr,hc,by rw[hfn];rfl,hl⟩,fun c cs' e=> ?_⟩;subst e;exact Steps.trans hc (.one (step_leave_returned hl))
theorem YX(H:Qt)(K:List Nat)(i:Nat):Qw (killL H K) i=if i∈K/\(Qw H i).isSome then some (.pending #[] 0)else Qw H i:=by
 induction K with
 |nil=>simp[killL]
 |cons k K ih=>
  simp only[killL];rw[UJ,ih];by_cases e:i=k
  ·subst e;cases hs:Qw H i with
   |none=>simp
   |some o=>by_cases hm:i∈K <;> simp[hm]
  ·simp[e]
theorem Post.regionK{B n:Nat}{S:Nat->Prop}{μ:Mu}{H:Qt}{w w':World}(K:List Nat)(QE:Ok B S μ (Qw H) w)(hS:∀i,S i->i<n)(hf:μ n=none)(hbel:Below w.heap.size w w')(hK:∀k∈K,S k/\(∃o,Qw H k=some o/\live o)/\∃im,μ k=some im/\im.rw=true)
 (fm:Nat->Option Obj) (hfm:∀b x,fm b=some x->w'.heap[b]? =some x)
 (XF:∀b x,fm b=some x->w.heap.size<=b\/(∃k UT ko,S k/\Qw H k=some ko/\Wa ko/\μ k=some UT/\UT.fm b=some x)\/∃k∈K,∃im,μ k=some im/\im.Zt=b):Post B S n (n+1) K μ (upd μ n ⟨0,0,0,false,fm⟩) H ((n,X8)::killL H K) w w':=by
 have hp:=Post.ofBelow (n:=n) QE hbel;have JU:∀i,S i->i≠n:=fun i hi=>by have:=hS i hi;omega
 have Rv:∀i,S i->upd μ n ⟨0,0,0,false,fm⟩ i=μ i:=fun i hi=>by simp[upd,JU i hi]
 have Xo:∀i,S i->Qw ((n,X8)::killL H K) i=Qw (killL H K) i:=fun i hi=>by rw[QV,if_neg (JU i hi)]
 have hgl:∀i o,S i->Qw ((n,X8)::killL H K) i=some o->live o\/Wa o->Qw H i=some o/\(live o->i ∉ K):=fun i o hi ho hl=>by
  rw[Xo i hi,YX]at ho;split at ho
  ·cases ho;exact(hl.elim id id).elim
  ·rename_i hn;exact⟨ho,fun _ hm=>hn ⟨hm,by rw[ho];rfl⟩⟩
 have Ku:Qw ((n,X8)::killL H K) n=some X8:=by rw[QV,if_pos rfl]
 have isn:∀i,(n<=i/\i<n+1)->i=n:=fun i hi=>by omega
 refine⟨⟨fun i o hi ho hl=> ?_,fun i o im hi ho hl QK=> ?_,fun i j oi oj a b hi hj TS Wc Wb hli Ud ha hb hra Ym=> ?_,fun i o hi ho hr=> ?_,fun i j oi oj a b x hi hj Wc Wb Pa Ud ha hb Ym hx=> ?_⟩,by omega,fun i hi=> ?_,fun i hi hw=> ?_,hbel.size,fun b hb _=>hbel.block b hb,fun i hi _=>hK i hi,
  fun i im o h1 h2 ho hl QK=> ?_,fun i im o hi ho hr QK b x hx=> ?_,hbel.os,hbel.tape,hbel.output⟩
 ·rcases hi with hi|hi
  ·have ho:=(hgl i o hi ho (.inl hl)).1;obtain⟨im,QK,hr⟩:=hp.ok.rel i o (.inl hi) ho hl;exact⟨im,by rw[Rv i hi];exact QK,hr.keep (Yn hf) rfl⟩
  ·rw[isn i hi,Ku]at ho;cases ho;exact hl.elim
 ·rcases hi with hi|hi
  ·have ho:=(hgl i o hi ho (.inl hl)).1;rw[Rv i hi]at QK;exact hp.ok.low i o im (.inl hi) ho hl QK
  ·rw[isn i hi,Ku]at ho;cases ho;exact hl.elim
 ·rcases hi with hi|hi
  ·rcases hj with hj|hj
   ·have Wc:=(hgl i oi hi Wc (.inl hli)).1;have Wb:=(hgl j oj hj Wb (.inl Ud)).1;rw[Rv i hi]at ha;rw[Rv j hj]at hb;exact QE.inj i j oi oj a b hi hj TS Wc Wb hli Ud ha hb hra Ym
   ·rw[isn j hj,Ku]at Wb;cases Wb;exact Ud.elim
  ·rw[isn i hi,Ku]at Wc;cases Wc;exact hli.elim
 ·rcases hi with hi|hi
  ·have ho:=(hgl i o hi ho (.inr hr)).1;obtain⟨im,QK,h⟩:=hp.ok.P1 i o (.inl hi) ho hr;exact⟨im,by rw[Rv i hi];exact QK,h⟩
  ·rw[isn i hi];exact⟨_,X3,hfm⟩
 ·have hjS:S j:=hj.elim id fun h=>by rw[isn j h,Ku]at Wb;cases Wb;exact Ud.elim
  obtain⟨Wb,hjK⟩:=hgl j oj hjS Wb (.inl Ud);rw[Rv j hjS]at hb;rcases hi with hi|hi
  ·have Wc:=(hgl i oi hi Wc (.inr Pa)).1;rw[Rv i hi]at ha;exact QE.sep i j oi oj a b x hi hjS Wc Wb Pa Ud ha hb Ym hx
  ·rw[isn i hi,X3]at ha;cases ha;rcases XF _ _ hx with h|⟨k,UT,ko,h1,h2,h3,h4,h5⟩|⟨k,hk,UT,h1,h2⟩
   ·have:=(QE.low j oj b hjS Wb Ud hb).1;omega
   ·exact QE.sep k j ko oj UT b x h1 hjS h2 Wb h3 Ud h4 hb Ym h5
   ·obtain⟨k1,⟨ko,k2,k3⟩,kim',k4,k5⟩:=hK k hk;rw[h1]at k4;cases k4;have hkj:k≠j:=fun e=>hjK Ud (e ▸ hk)
    exact QE.inj k j ko oj UT b k1 hjS hkj k2 Wb k3 Ud h1 hb k5 Ym h2
 ·simp only[upd];rw[if_neg (by omega)]
 ·rw[QV,if_neg (by omega),YX,if_neg (fun h=>hw h.1)]
 ·rw[isn i ⟨h1,h2⟩,Ku]at ho;cases ho;exact hl.elim
 ·rcases hi with hi|hi
  ·have Rw:=isn i hi;subst Rw;rw[X3]at QK;cases QK;rcases XF b x hx with h|⟨k,UT,ko,h1,h2⟩|⟨k,hk,UT,h1,h2⟩
   ·exact .inl h
   ·exact .inr (.inl ⟨k,UT,ko,h1,hS k h1,h2⟩)
   ·refine .inr (.inr ⟨k,hk,hS k (hK k hk).1,⟨UT,h1,h2⟩,fun o' Kt=> ?_⟩);have hks:=(hK k hk).1;obtain⟨ko,k2,_⟩:=(hK k hk).2.1;rw[Xo k hks,YX,if_pos ⟨hk,by rw[k2];rfl⟩]at Kt;cases Kt;exact id
  ·obtain⟨hiK,Rw⟩:=hi;have hks:=(hK i hiK).1;obtain⟨ko,k2,_⟩:=(hK i hiK).2.1;rw[Xo i hks,YX,if_pos ⟨hiK,by rw[k2];rfl⟩]at ho;cases ho;exact hr.elim
theorem Shape.killL{H:Qt}{n:Nat}{K R:List Nat}(o:Obj)(hK:∀k∈K,k<n)(hs:∀k∈K,k∈R):Shape H n ((n,o)::killL H K) (n+1) R K:=by
 refine⟨by omega,fun i hi hw=> ?_,fun i hi=> ?_,hs,fun i hi=>by have:=hK i hi;omega⟩
 ·rw[QV,if_neg (by omega),YX,if_neg (fun h=>hw h.1)]
 ·rw[QV,if_neg (by omega),YX,if_neg (fun h=>by have:=hK i h.1;omega)]
theorem zT{o:Option Obj}(h:aY o=true):∃cs t,o=some (.cells cs t (0,0)):=by
 unfold aY at h;split at h
 ·exact⟨_,_,rfl⟩
 ·cases h
theorem qP(hJ:∀w,B.has w->J w){g:FuncId}{args:Array Value}{fz:List Fz}{H1:Qt}{ts:List Value}{R2:List Nat}{L:List Prop}{out:Value}(Zh:Kz (VO H1 fz 3) args.toList=some (ts,R2,L))(hL:Q3 L)(hp:Qr P J g ts.toArray out)(Xp:(R2.all fun i=>Lr i n)=true)
 (WJ:(R2.all fun i=>X2 (Qw H1 i) || aY (Qw H1 i))=true) (ho:rF 4 out=true):oA P B g args H1 n (.ret (Q7 n 4 out)) ((n,X8)::killL H1 (R2.filter fun i=>aY (Qw H1 i))) (n+1) R2 (R2.filter fun i=>aY (Qw H1 i)):=by
 have hltn:∀r∈R2,r<n:=fun r hr=>YL (List.all_eq_true.1 Xp r hr)
 refine⟨Shape.killL _ (fun k hk=>hltn k ((List.mem_filter.1 hk).1)) (fun k hk=>(List.mem_filter.1 hk).1),fun S μ w args' cs QE hB hS hf ha hR=> ?_⟩;have hSR:∀r∈R2,S r:=fun r hr=>hR r hr (hltn r hr)
 obtain⟨e,w1,fr,⟨v',rfl,hb,ht⟩,hc,hfn,hl⟩:=cR hJ Zh hL hp QE hB ha hSR cs;have hfm:∀b x,cm (Y7 μ H1 w R2) w w1 b=some x->w1.heap[b]? =some x:=by
  intro b x h;unfold cm at h;split at h
  ·rename_i Xp;rw[hb.block b Xp];exact Vo h
  ·exact h
 have hK:∀k∈R2.filter fun i=>aY (Qw H1 i),S k/\(∃o,Qw H1 k=some o/\live o)/\∃im,μ k=some im/\im.rw=true:=fun k hk=>by
  obtain⟨h1,h2⟩:=List.mem_filter.1 hk;obtain⟨cs0,t0,h3⟩:=zT h2;obtain⟨im,QK,ZU⟩:=QE.rel k _ (hSR k h1) h3 trivial;refine⟨hSR k h1,⟨_,h3,trivial⟩,im,QK, ?_⟩;rcases ZU with ⟨_,h,_⟩|⟨h,_⟩
  ·exact h
  ·exact absurd rfl h
 have Zv:=Post.regionK (n:=n) (R2.filter fun i=>aY (Qw H1 i)) QE hS (hf n (LI _) (by omega)) hb hK (cm (Y7 μ H1 w R2) w w1) hfm fun b x h=>by
  unfold cm at h;split at h
  ·refine .inr ?_;have hw:=Vo h;unfold Y7 at h;split at h
   ·rename_i hc;obtain⟨i,hi,o,im,ho,QK,Yb⟩:=hc;have ZU:=List.all_eq_true.1 WJ i hi;rw[Bool.or_eq_true]at ZU;rcases Yb with ⟨hr',JU⟩|⟨hl,hblk⟩
    ·left;cases hx:im.fm b with
     |none=>exact absurd hx JU
     |some y=>
      obtain⟨Z9,QS,hf'⟩:=QE.P1 i o (hSR i hi) ho hr';rw[QK]at QS;cases QS;have:=hf' b y hx;rw[hw]at this;cases this;exact⟨i,im,o,hSR i hi,ho,hr',QK,hx⟩
    ·right;rcases ZU with ZU|ZU
     ·obtain⟨o',Kt,hr'⟩:=ZG ZU;rw[ho]at Kt;cases Kt;exact absurd hl (by cases o <;> first|exact id|exact hr'.elim)
     ·exact⟨i,List.mem_filter.2 ⟨hi,ZU⟩,im,QK,hblk⟩
   ·cases h
  ·rename_i hge;exact .inl (Nat.le_of_not_lt hge)
 refine⟨.ret v',w1,_,Zv,.ret (SF X3 4 out v' ho ht),fun _=>⟨fr,hc,by rw[hfn];rfl,hl⟩,fun c cs' e=> ?_⟩;subst e;exact Steps.trans hc (.one (step_leave_returned hl))
theorem UW{r:Nat}{v:Value}(Xp:r<n)(WJ:X2 (Qw H r)=true)(hd:∀c,o.op≠.defer c)
 (h:∀(μ:Mu) (w:World) (ρ:Operand->Value) (im:c7),μ r=some im->(∀b x,im.fm b=some x->w.heap[b]? =some x)->(∀x∈o.op.operands,∀v,Zd T x=some v->VR μ v (ρ x))->∃v',(execOp ρ o).run P w=.ok (.value v') w/\VR μ v v'):
 Tk P B o (Zd T) H n (.ret v) H n [r] []:=fun S μ w fr _ _ _ _ _ QE hB _ _ XP hR hm ht ho hw=>by
 obtain⟨x,hx,hr⟩:=ZG WJ;obtain⟨im,QK,hf⟩:=QE.P1 r x (hR r (by simp) Xp) hx hr;obtain⟨v',h1,h2⟩:=h μ w fr.eval im QK hf XP;exact⟨.ret v',w,μ,Post.refl QE,.ret h2,Rk hm ht ho hw hd h1⟩
theorem AI{fm:Nat->Option Obj}{w:World}(hw:∀b x,fm b=some x->w.heap[b]? =some x){off:Nat}{cs:Array Value}{u v:Value}{t:TypeId}(hu:TRv fm (SK off cs) u)(h:Y4 P t cs off=some v):∃v',(Instr.loadAt t u).run P w=.ok v' w/\TRv fm v v':=by
 obtain⟨b,o,arr,ty,fl,rfl,h1,h2,h3⟩:=hu.ptr_inv;have hb:=hw _ _ h1;have hcell:∀i,i<cs.size->∃v',w.cell? ⟨b,o+i,none⟩=some v'/\∀v,cs[i]? =some v->TRv fm v v':=by
  intro i hi;have Xp:=h2 i hi;exact⟨arr[o+i],by simp[World.cell?,hb,Xp],fun v hv=>h3 i v _ hv (by simp[Xp])⟩
 unfold Y4 at h;cases hag:o6 P t with
 |none=>rw[hag]at h;cases h
 |some g=>
  rw[hag]at h;cases g with
  |true=>
   cases hz:Wz P t with
   |none=>rw[hz]at h;cases h
   |some z=>
    rw[hz]at h;dsimp only at h;cases hb2:LR (off+z) cs.size with
    |false=>rw[hb2]at h;cases h
    |true=>
     rw[hb2]at h;simp only[cond_true,YO]at h;subst h;have hle:=YL hb2;have hr:=run_loadCells (P:=P) w ⟨b,o+off,none⟩ z (fun j=>(w.cell? ⟨b,o+(off+j),none⟩).getD undef) (fun j hj=>by
      obtain⟨v',ZQ,_⟩:=hcell (off+j) (by omega);rw[Wx,show o+off+j=o+(off+j)by omega,ZQ];rfl)
     refine⟨.agg _,by simp[Instr.loadAt,Instr.sureAddr,loadVar,Ko hag,Zp hz,hr];rfl,.agg (by simp;omega) fun i v v' hv ZQ=> ?_⟩;have hi:i<z:=by
      have:=(Array.getElem?_eq_some_iff.1 hv).1;simp at this;omega
     obtain⟨u,h4,h5⟩:=hcell (off+i) (by omega);simp[hi,h4]at ZQ;subst ZQ;refine h5 v ?_;rw[LX]at hv;split at hv
     ·exact hv
     ·cases hv
  |false=>
   simp only at h;have hi:=(Array.getElem?_eq_some_iff.1 h).1;obtain⟨v',ZQ,ht⟩:=hcell off hi;exact⟨v',by simp[Instr.loadAt,Instr.sureAddr,loadVar,Ko hag,run_load,ZQ],ht v h⟩
theorem qw{v:Value}{r:Nat}(e:yw P T o=some (v,r))(Xp:r<n)(WJ:X2 (Qw H r)=true):Tk P B o (Zd T) H n (.ret v) H n [r] []:=by
 unfold yw at e;split at e
 ·rename_i c Zj;split at e
  ·rename_i hc;split at e
   ·rename_i x t ha ht;split at e
    ·rename_i u hx;split at e
     ·rename_i r0 k cs el htop hue;rw[Zx]at hue;simp only[YO,YR]at e;obtain⟨rfl,rfl⟩:=e;refine UW Xp WJ (fun c h=>by rw[Zj]at h;cases h) fun μ w ρ im QK hf XP=> ?_
      have ea:c.args=#[x]:=by rw[<-ha]
      have et:c.argTypes=#[t]:=by rw[<-ht]
      have hv:=XP x (by simp[Zj,Op.operands,Call.operands,hc,ea]) _ hx;rw[Sx htop]at hv;obtain⟨Z9,_,htr⟩:=hv.top_inv;have hlen:∃a c,ρ x=.slice a k c:=by
       rcases htr.slice_inv with ⟨b,o',c',arr,t',fl,h1,_⟩|⟨rfl,_,a',c',h1,_⟩
       ·exact⟨_,_,h1⟩
       ·exact⟨_,_,h1⟩
      obtain⟨a,cp,hv⟩:=hlen;refine⟨.int .i64 k, ?_,.int _ _⟩;simp[execOp,Zj,resolve,hc,invoke,builtin,ea,et,hv,Builtin.len_,run_underlying hue,goInt]
     ·cases e
    ·cases e
   ·cases e
  ·cases e
 ·rename_i s x f Zj;split at e
  ·rename_i u hx;split at e
   ·rename_i r0 off cs htop;split at e
    ·rename_i off' hc;simp only[YO,YR]at e;obtain⟨rfl,rfl⟩:=e;refine UW Xp WJ (fun c h=>by rw[Zj]at h;cases h) fun μ w ρ im QK hf XP=> ?_
     have hv:=XP x (by simp[Zj,Op.operands]) _ hx;rw[k9 htop]at hv;obtain⟨Z9,QS,htr⟩:=hv.top_inv;rw[QK]at QS;cases QS;obtain⟨b,o',arr,ty,fl,h1,h2,h3,h4⟩:=htr.ptr_inv;have hc2:∃d,off'=off+d/\Wd P s f (.pointer (some ⟨b,o'+off,none⟩))=some (.pointer (some ⟨b,o'+off+d,none⟩)):=by
      unfold Wd at hc ⊢;simp only at hc ⊢;split at hc
      ·split at hc
       ·split at hc
        ·simp only[YO,Value.pointer.injEq,Addr.mk.injEq,true_and,and_true]at hc;rename_i fd hfd _ _ hz;refine⟨fd.offset,hc.symm, ?_⟩;simp_all
        ·cases hc
       ·cases hc
      ·cases hc
     obtain⟨d,rfl,hc2⟩:=hc2;obtain⟨_,hr⟩:=bn (P:=P) hc2 w;refine⟨.pointer (some ⟨b,o'+off+d,none⟩),by simp[execOp,Zj,h1,hr],.top rfl QK ?_⟩;rw[Nat.add_assoc];exact .ptr h2 h3 h4
    ·cases e
   ·cases e
  ·cases e
 ·rename_i t x Zj;split at e
  ·rename_i u hx;split at e
   ·rename_i r0 off cs htop;split at e
    ·rename_i v0 hc;cases QE:rF 4 v0 with
     |false=>rw[QE]at e;cases e
     |true=>
      rw[QE]at e;simp only[cond_true,YO,YR]at e;obtain⟨rfl,rfl⟩:=e;refine UW Xp WJ (fun c h=>by rw[Zj]at h;cases h) fun μ w ρ im QK hf XP=> ?_
      have hv:=XP x (by simp[Zj,Op.operands]) _ hx;rw[k9 htop]at hv;obtain⟨Z9,QS,htr⟩:=hv.top_inv;rw[QK]at QS;cases QS;obtain⟨v',h1,h2⟩:=AI hf htr hc;exact⟨v',by simp[execOp,Zj,h1],SF QK 4 v0 v' QE h2⟩
    ·cases e
   ·cases e
  ·cases e
 ·cases e
theorem tc{P:Program}{t e:TypeId}{b off m c z k:Nat}{q:Int}{kk:IntKind}(hu:R5 P t=some (.slice e))(hz:Wz P e=some z)(hq:q=(k:Int))(hk:k<m)(hc:m<=c)(w:World):
 (Instr.sliceAt t (.slice (some ⟨b,off,none⟩) m c) (some (.int kk q)) none none).run P w=.ok (.slice (some ⟨b,off+k*z,none⟩) (m-k) (c-k)) w:=by
 rw[Zx]at hu;subst hq;have hb:Eg m (some (.int kk (k:Int))) none=some (k,m):=by
  simp only[Eg,Ej,decide_eq_true (show(0:Int)<=(k:Int)by omega),decide_eq_true (show(k:Int)<=(m:Int)by omega),Bool.and_self,cond_true,Int.toNat_natCast]
 obtain⟨hr,_,_⟩:=o4 (P:=P) (μ:=fun _=>none) (sl:=true) (lo':=some (.int kk (k:Int))) (hi':=none) hb (show VR _ _ _ from .int _ _) trivial hc w;simp only[Instr.sliceAt,Instr.slice,Sem.run_bind,run_underlying hu,Result.andThen_ok,hr,Zp hz,Sem.run_pure,LL,Wx];rw[if_neg (by omega)]
theorem hP{sv:Value}{r k z by':Nat}{cs:Array Value}{e:TypeId}{zv:Value}(h:bq P T o=some (sv,r,k,cs,e,z,by',zv)):
 ∃c s x t i,o.op=.call c/\c.callee=.builtin .append/\c.args=#[s,x]/\c.argTypes=#[t,t]/\Zd T s=some sv/\Zd T x=some (Q2 r (QH k cs))/\YW sv=true/\P.underlying t=some (.slice e)/\P.info? e=some i/\i.zero=some zv/\i.size=z/\i.bytes=by'/\zv.cells.size=z/\0<z:=by
 unfold bq at h;split at h
 ·rename_i c Zj;split at h
  ·rename_i hc;split at h
   ·rename_i s x t t' ha ht;split at h
    ·rename_i sv' xv hs hx;split at h
     ·rename_i r' k' cs' e' htop hu;split at h
      ·rename_i i hi;split at h
       ·rename_i zv' z' hz ZW;cases hq:(Lf t t' && YW sv' && Lf zv'.cells.size (z'+1))with
        |false=>rw[hq]at h;cases h
        |true=>
         rw[hq]at h;simp only[cond_true,YO,YR]at h;obtain⟨rfl,rfl,rfl,rfl,rfl,rfl,rfl,rfl⟩:=h;simp only[YB]at hq;obtain⟨⟨q1,q2⟩,q3⟩:=hq;obtain rfl:=YE q1;rw[Zx]at hu;rw[JZ]at hi;exact⟨c,s,x,t,i,Zj,hc,by rw[<-ha],by rw[<-ht],hs,by rw[hx,Sx htop],q2,hu,hi,hz,ZW,rfl,YE q3,by omega⟩
       ·cases h
      ·cases h
     ·cases h
    ·cases h
   ·cases h
  ·cases h
 ·cases h
theorem iW{μ:Mu}{s s':Value}(h:YW s=true)(hs:VR μ s s'):∃a,s'=.slice a 0 0:=by
 unfold YW at h;split at h
 ·cases hs;exact⟨_,rfl⟩
 ·cases hs;exact⟨_,rfl⟩
 ·cases h
theorem qy{sv:Value}{r k z by':Nat}{cs cs':Array Value}{e:TypeId}{zv:Value}(h:bq P T o=some (sv,r,k,cs,e,z,by',zv))(Xp:r<n)(WJ:X2 (Qw H r)=true)
 (hp:0<k/\k<=maxLen/\k*by'<=140737488355328/\cs.size=k*z/\cs.map (ZV r)=cs'/\(cs.all fun v=>simple v || WI v)=true/\ones cs'=true):
 Tk P B o (Zd T) H n (.ret (.slice (some ⟨n,0,none⟩) k z)) ((n,.cells cs' e (0,0))::H) (n+1) [r] []:=by
 intro S μ w fr _ _ _ _ _ QE hB hS hf XP hR hm ht ho hw;obtain⟨c,s,x,t,i,Zj,hc,ea,et,hs,hx,hbn,hu,hi,hz,ZW,hby,hzs,hzp⟩:=hP h;obtain⟨p1,p2,p3,p4,p5,p6,p7⟩:=hp;obtain⟨xr,hxr,hr⟩:=ZG WJ;obtain⟨im,QK,hfm⟩:=QE.P1 r xr (hR r (by simp) Xp) hxr hr;have hvs:=XP s (by simp[Zj,Op.operands,Call.operands,hc,ea]) _ hs;have hvx:=XP x (by simp[Zj,Op.operands,Call.operands,hc,ea]) _ hx;obtain⟨a,hsa⟩:=iW hbn hvs;obtain⟨Z9,QS,htr⟩:=hvx.top_inv;rw[QK]at QS;cases QS;rcases htr.slice_inv with ⟨b,o',c',arr,ty,fl,h1,h2,h3,h4,h5,h6⟩|⟨h0,_⟩
 ·have hb:=hfm _ _ h4;obtain⟨news,hnews⟩:∃news,news=(arr.toList.drop o').take (k*z):=⟨_,rfl⟩
  have hnl:news.length=k*z:=by
   rw[hnews,List.length_take,List.length_drop,Array.length_toList];have:∀j,j<k*z->o'+j<arr.size:=fun j hj=>h5 j (by omega)
   have:=this (k*z-1) (by have:=Nat.mul_pos p1 hzp;omega);have:=Nat.mul_pos p1 hzp;omega
  have Qw:∀(j:Nat) u,news[j]? =some u->arr[o'+j]? =some u:=by
   intro j u hj;rw[hnews,List.getElem?_take]at hj;split at hj
   ·rw[List.getElem?_drop]at hj;simpa using hj
   ·cases hj
  have hcell:∀(j:Nat) u,news[j]? =some u->w.cell? ((⟨b,o',none⟩:Addr).add j)=some u:=by
   intro j u hj;rw[Wx];have:=Qw j u hj;simp[World.cell?,hb];exact this
  have hV:VRs μ cs' news.toArray:=by
   refine⟨by rw[<-p5];simp[hnl,p4],fun j v v' hv ZQ=> ?_⟩;rw[<-p5,Array.getElem?_map]at hv;cases hy:cs[j]? with
   |none=>rw[hy]at hv;cases hv
   |some y=>
    rw[hy]at hv;simp only[LL,YO]at hv;subst hv;exact az QK (Array.all_eq_true'.1 p6 y (LN hy)) (h6 j y v' hy (Qw j v' (by simpa using ZQ)))
  have VU:∃C,k<=C/\C<=maxLen/\(Builtin.append_ #[t,t] o.type #[fr.eval s,fr.eval x]).run P w=.ok (.slice (some ⟨w.heap.size,0,none⟩) k C) (w.drew.alloc (.cells (news.toArray++Builtin.zeroCells zv.cells (C-k)) e)):=by
   have hk63:(k:Int)<=9223372036854775807:=by simp only[maxLen]at p2;omega
   have hr0:=run_append_nil (P:=P) w t o.type e i zv hu hi hz ⟨b,o',none⟩ k c' news (by rw[hnl,ZW]) hcell p1 hk63 (by rw[hby];omega);refine⟨grownCap w k 0 e,grownCap_ge w k 0 e,grownCap_le_maxLen w k 0 e p2, ?_⟩;rw[hsa,h1];cases a with
   |none=>exact hr0
   |some a=>rw[iX hu hi hz w a ⟨b,o',none⟩ k c' news (by rw[hnl,ZW]) hcell p1 p2 (by rw[hby];exact p3)];exact hr0
  obtain⟨C,hC1,hC2,VU⟩:=VU;have hfn:=hf n (LI _) (by omega);have harr:(news.toArray++Builtin.zeroCells zv.cells (C-k)).size=C*z:=by
   rw[Array.size_append,size_zeroCells,hzs,List.size_toArray,hnl,<-Nat.add_mul];congr 1;omega
  refine⟨.ret (.slice (some ⟨w.heap.size,0,none⟩) k C),_,_,gA QE hS hfn none (fun _ h=>by cases h) w.heap.size (news.toArray++Builtin.zeroCells zv.cells (C-k)).size _ hB.le (by simp) (.inl (LI _)) (by simp) (fun b hb _=>Below.heap_alloc w.drew _ b hb) (.ofCells (heap_alloc_new w.drew _) ?_ rfl fun j v hv=> ?_) ⟨rfl,rfl,rfl⟩,.ret ?_,Rk hm ht ho hw (fun c h=>by rw[Zj]at h;cases h) (w':=w.drew.alloc _) ?_⟩
  ·rw[Array.size_append];have:=hV.1;simp only[List.size_toArray]at this ⊢;omega
  ·obtain⟨u,e1,e2⟩:=hV.get hv;have hj:j<news.toArray.size:=(Array.getElem?_eq_some_iff.1 e1).1;exact⟨u,by rw[Array.getElem?_append_left hj];exact e1,e2.mono (Yn hfn)⟩
  ·refine .slice ⟨_,X3,rfl,rfl⟩ hC1 hC2 (fun _ im QK _ _=> ?_);rw[X3]at QK;cases QK;exact harr.symm
  ·simp[execOp,Zj,resolve,hc,invoke,builtin,ea,et,VU]
 ·omega
theorem oD{sv:Value}{r k z by':Nat}{cs:Array Value}{e:TypeId}{zv:Value}(h:bq P T o=some (sv,r,k,cs,e,z,by',zv))(Xp:r<n)(WJ:X2 (Qw H r)=true)(hk:k=0):
 Tk P B o (Zd T) H n (.ret sv) H n [r] []:=by
 obtain⟨c,s,x,t,i,Zj,hc,ea,et,hs,hx,hbn,hu,hi,hz,ZW,hby,hzs,hzp⟩:=hP h;refine UW Xp WJ (fun c h=>by rw[Zj]at h;cases h) fun μ w ρ im QK hf XP=> ?_
 have hvs:=XP s (by simp[Zj,Op.operands,Call.operands,hc,ea]) _ hs;have hvx:=XP x (by simp[Zj,Op.operands,Call.operands,hc,ea]) _ hx;obtain⟨a,hsa⟩:=iW hbn hvs;obtain⟨Z9,QS,htr⟩:=hvx.top_inv;rw[QK]at QS;cases QS;subst hk;have hxx:∃b d,ρ x=.slice b 0 d:=by
  rcases htr.slice_inv with ⟨b,o',c',arr,ty,fl,h1,_⟩|⟨_,_,a',c',h1,_⟩
  ·exact⟨_,_,h1⟩
  ·exact⟨_,_,h1⟩
 obtain⟨b,d,hxx⟩:=hxx;refine⟨.slice a 0 0, ?_,by rw[<-hsa];exact hvs⟩;have hszp:Wz P e=some z:=by simp[Wz,JZ,hi,ZW]
 have hr:=iY (ty:=o.type) hu hszp w a b 0 0 d (LI _);simp[execOp,Zj,resolve,hc,invoke,builtin,ea,et,hsa,hxx,hr]
theorem sP{b off k r m z:Nat}{cs2:Array Value}(h:j6 P T o=some (b,off,k,r,m,cs2,z)):
 ∃c s x t t2 e s1,o.op=.call c/\c.callee=.builtin .copy/\c.args=#[s,x]/\c.argTypes=#[t,t2]/\Zd T s=some (.slice (some ⟨b,off,none⟩) k s1)/\Zd T x=some (Q2 r (QH m cs2))/\P.underlying t=some (.slice e)/\Wz P e=some z:=by
 unfold j6 at h;split at h
 ·rename_i c Zj;split at h
  ·rename_i hc;split at h
   ·rename_i s x t t2 ha ht;split at h
    ·rename_i b' off' k' s1 xv hs hx;split at h
     ·rename_i r' m' cs' e' htop hu;split at h
      ·rename_i z' hz;simp only[YO,YR]at h;obtain⟨rfl,rfl,rfl,rfl,rfl,rfl,rfl⟩:=h;rw[Zx]at hu;exact⟨c,s,x,t,t2,e',s1,Zj,hc,by rw[<-ha],by rw[<-ht],hs,by rw[hx,Sx htop],hu,hz⟩
      ·cases h
     ·cases h
    ·cases h
   ·cases h
  ·cases h
 ·cases h
theorem qx{b off k r m z:Nat}{cs cs2 cs':Array Value}{te:TypeId}(h:j6 P T o=some (b,off,k,r,m,cs2,z))(hg:Qw H b=some (.cells cs te (0,0)))(Xp:r<n)(WJ:X2 (Qw H r)=true)(hbn:b<n)
 (hp:0<m/\off+LW m k*z<=cs.size/\LW m k*z<=cs2.size/\(cs2.all fun v=>simple v || WI v)=true/\ones ((cs2.extract 0 (LW m k*z)).map (ZV r))=true/\splice cs off ((cs2.extract 0 (LW m k*z)).map (ZV r))=cs'):
 Tk P B o (Zd T) H n (.ret (.int .i64 (LW m k))) (VA H b (.cells cs' te (0,0))) n [b,r] [b]:=by
 intro S μ w fr _ _ _ _ _ QE hB hS hf XP hR hm ht ho hw;obtain⟨c,s,x,t,t2,e,s1,Zj,hc,ea,et,hs,hx,hu,hz⟩:=sP h;obtain⟨p0,h1,h2,p4,h3,rfl⟩:=hp;obtain⟨xr,hxr,hr⟩:=ZG WJ;obtain⟨imr,himr,hfm⟩:=QE.P1 r xr (hR r (by simp) Xp) hxr hr;have hb:S b:=hR b (by simp) hbn;obtain⟨im,QK,ZU⟩:=QE.rel b _ hb hg trivial;have hvs:=XP s (by simp[Zj,Op.operands,Call.operands,hc,ea]) _ hs;have hvx:=XP x (by simp[Zj,Op.operands,Call.operands,hc,ea]) _ hx;obtain⟨imr',himr',htr⟩:=hvx.top_inv;rw[himr]at himr';cases himr';generalize hsv:fr.eval s=sv at hvs;cases hvs with
 |slice har q1 q2 q3=>
  obtain⟨Z9,QS,_,rfl⟩:=har;simp only at QS;rw[QK]at QS;cases QS;rcases htr.slice_inv with ⟨b2,o',c',arr2,ty,fl,g1,g2,g3,g4,g5,g6⟩|⟨h0,_⟩
  ·have hb2:=hfm _ _ g4;have hcell:∀j,j<LW m k*z->w.cell? ((⟨b2,o',none⟩:Addr).add j)=some (arr2.getD (o'+j) undef):=by
    intro j hj;have hlt2:=g5 j (by omega);rw[Wx];simp[World.cell?,hb2,hlt2]
   have hload:=run_loadCells (P:=P) w ⟨b2,o',none⟩ (LW m k*z) (fun j=>arr2.getD (o'+j) undef) hcell;generalize hxsd:(((Array.range (LW m k*z)).map fun j=>arr2.getD (o'+j) undef):Array Value)=xs0;obtain⟨xs,hload,hxs⟩:∃xs,(loadCells ⟨b2,o',none⟩ (LW m k*z)).run P w=.ok xs w/\VRs μ ((cs2.extract 0 (LW m k*z)).map (ZV r)) xs:=by
    refine⟨_,hload,⟨by simp;omega,fun i v v' hv ZQ=> ?_⟩⟩;rw[Array.getElem?_map]at hv;cases hy:(cs2.extract 0 (LW m k*z))[i]? with
    |none=>rw[hy]at hv;cases hv
    |some y=>
     rw[hy]at hv;simp only[LL,YO]at hv;subst hv;rw[LX]at hy;split at hy
     ·rename_i hlt3;have hi:i<LW m k*z:=by omega
      have hy2:cs2[i]? =some y:=by simpa using hy
      simp[hi]at ZQ;have hlt2:=g5 i (by omega);refine az himr (Array.all_eq_true'.1 p4 y (LN hy2)) (g6 i y v' hy2 ?_);rw[<-ZQ];simp[hlt2]
     ·cases hy
   have hxsz:xs.size=LW m k*z:=by rw[<-hxs.1];simp;omega
   have hexsz:((cs2.extract 0 (LW m k*z)).map (ZV r)).size=LW m k*z:=by simp;omega
   rcases ZU with ⟨_,Ry,hoo,arr,ha,hle,hcap,hcs⟩|⟨hz0,_⟩
   ·have Zh:=run_storeCells_at (P:=P) im.Zt off te xs.toList 0 arr w ha (by simp[hxsz];omega) (hxs.ones h3);simp only[Nat.add_zero]at Zh;refine⟨.ret (.int .i64 (LW m k)),w.setRow im.Zt (CE.splice arr off xs),μ,Post.write QE hS b _ (.cells (CE.splice cs off ((cs2.extract 0 (LW m k*z)).map (ZV r))) te (0,0)) im hb hg trivial QK Ry (w':=w.setRow im.Zt (CE.splice arr off xs)) ?_ ?_ ?_ ⟨rfl,rfl,rfl⟩,.ret (.int _ _),Rk hm ht ho hw (fun c h=>by rw[Zj]at h;cases h) ?_⟩
    ·simp[World.setRow]
    ·intro y hy;exact setRow_other w im.Zt y _ hy
    ·refine .inl ⟨rfl,Ry,hoo,CE.splice arr off xs,setRow_heap w im.Zt arr _ te _ ha, ?_, ?_, ?_⟩
     ·rw[WA (by rw[hexsz];omega),WA (by rw[hxsz];omega)];exact hle
     ·rw[WA (by rw[hxsz];omega)];exact hcap
     ·exact VRs.splice (by rw[hexsz];omega) hle hcs hxs
    ·simp[execOp,Zj,resolve,hc,invoke,builtin,ea,et,hsv,g1,Builtin.copy_,Builtin.lenOf,Builtin.firstCells,Sem.run_bind,Sem.run_pure,Result.andThen_ok,run_underlying hu,Zp hz,hload,hoo,Zh,CE.splice,goInt]
   ·exact absurd rfl hz0
  ·omega
theorem pX(hF:∀g,F g=true->Q6 P g=true)(hJ:∀w,B.has w->J w)(hu:Under H n){h:Option Qh}{a:Told}(e:opT P F J B T o H n h=some a)(hp:∀p,a.p=some p->p):
 Tk P B o (Zd T) H n a.s.out a.s.H a.s.n a.s.R a.s.W/\Shape H n a.s.H a.s.n a.s.R a.s.W:=by
 unfold opT at e;split at e
 ·split at e
  ·rename_i v r htr;cases hq:(Lr r n && X2 (Qw H r))with
   |false=>rw[hq]at e;cases e
   |true=>
    rw[hq]at e;simp only[cond_true,YO]at e;subst e;simp only[YB]at hq;exact⟨qw htr (YL hq.1) hq.2,Shape.same _ _ _⟩
  ·exact pY hF hu e hp
 ·exact pY hF hu e hp
 ·rename_i k es;split at e
  ·rename_i t x i Zj;split at e
   ·rename_i u kk q hx hi;split at e
    ·rename_i r m cs el htop hue;split at e
     ·rename_i z hz;cases hq:(Lr r n && X2 (Qw H r))with
      |false=>rw[hq]at e;cases e
      |true=>
       rw[hq]at e;simp only[cond_true,YO]at e;subst e;simp only[YB]at hq;obtain⟨Xp,WJ⟩:=hq;obtain⟨hqk,hkm,hes⟩:=hp _ rfl;refine⟨UW (YL Xp) WJ (fun c h=>by rw[Zj]at h;cases h) fun μ w ρ im QK hf XP=> ?_,Shape.same _ _ _⟩;have hv:=XP x (by simp[Zj,Op.operands]) _ hx;have hiv:=nS (XP i (by simp[Zj,Op.operands]) _ hi);rw[Sx htop]at hv;obtain⟨Z9,QS,htr⟩:=hv.top_inv;rw[QK]at QS;cases QS;have Yb:=htr.slice_inv;rcases Yb with ⟨b,o',c',arr,ty,fl,h1,h2,h3,h4,h5,h6⟩|⟨rfl,_⟩
       ·have hess:k*z+es.size<=cs.size\/es.size=0:=by rw[<-hes];simp;omega
        refine⟨.pointer (some ⟨b,o'+k*z,none⟩),by simp[execOp,Zj,h1,hiv,qg hue hz hqk hkm],.top rfl QK ?_⟩;refine TRv.ptr (o:=o'+k*z) (off:=0) h4 (fun i hi=> ?_) fun i v v' hv ZQ=> ?_
        ·have:=h5 (k*z+i) (by omega);omega
        ·rw[<-hes,LX]at hv;split at hv
         ·refine h6 (k*z+i) v v' hv ?_;rw[<-ZQ,Nat.add_assoc]
         ·cases hv
       ·omega
     ·cases e
    ·cases e
   ·cases e
  ·cases e
 ·rename_i k es;split at e
  ·rename_i t x i Zj;split at e
   ·rename_i u kk q hx hi;split at e
    ·rename_i r off cs m el htop hue;split at e
     ·rename_i z hz;cases hq:(Lr r n && X2 (Qw H r))with
      |false=>rw[hq]at e;cases e
      |true=>
       rw[hq]at e;simp only[cond_true,YO]at e;subst e;simp only[YB]at hq;obtain⟨Xp,WJ⟩:=hq;obtain⟨hqk,hkm,hes⟩:=hp _ rfl;refine⟨UW (YL Xp) WJ (fun c h=>by rw[Zj]at h;cases h) fun μ w ρ im QK hf XP=> ?_,Shape.same _ _ _⟩;have hv:=XP x (by simp[Zj,Op.operands]) _ hx;have hiv:=nS (XP i (by simp[Zj,Op.operands]) _ hi);rw[k9 htop]at hv;obtain⟨Z9,QS,htr⟩:=hv.top_inv;rw[QK]at QS;cases QS;obtain⟨b,o',arr,ty,fl,h1,h2,h3,h4⟩:=htr.ptr_inv;refine⟨.pointer (some ⟨b,o'+off+k*z,none⟩),by simp[execOp,Zj,h1,hiv,fQ hue hz hqk hkm],.top rfl QK ?_⟩;rw[Nat.add_assoc o'];refine TRv.ptr (o:=o'+(off+k*z)) (off:=0) h2 (fun i hi=> ?_) fun i v v' hv ZQ=> ?_
       ·have ZW:es.size<=cs.size-(off+k*z):=by rw[<-hes];simp;omega
        have:=h3 (off+k*z+i) (by omega);omega
       ·rw[<-hes,LX]at hv;split at hv
        ·refine h4 (off+k*z+i) v v' hv ?_;rw[<-ZQ,Nat.add_assoc o']
        ·cases hv
     ·cases e
    ·cases e
   ·cases e
  ·cases e
 ·rename_i k m' cs';split at e
  ·rename_i t x lo Zj;split at e
   ·rename_i u kk q hx hi;split at e
    ·rename_i r m cs el htop hue;split at e
     ·rename_i z hz;cases hq:(Lr r n && X2 (Qw H r))with
      |false=>rw[hq]at e;cases e
      |true=>
       rw[hq]at e;simp only[cond_true,YO]at e;subst e;simp only[YB]at hq;obtain⟨Xp,WJ⟩:=hq;obtain⟨hqk,hkm,hm',hes⟩:=hp _ rfl;refine⟨UW (YL Xp) WJ (fun c h=>by rw[Zj]at h;cases h) fun μ w ρ im QK hf XP=> ?_,Shape.same _ _ _⟩;have hv:=XP x (by simp[Zj,Op.operands]) _ hx;have hiv:=nS (XP lo (by simp[Zj,Op.operands]) _ hi);rw[Sx htop]at hv;obtain⟨Z9,QS,htr⟩:=hv.top_inv;rw[QK]at QS;cases QS;have Yb:=htr.slice_inv;rcases Yb with ⟨b,o',c',arr,ty,fl,h1,h2,h3,h4,h5,h6⟩|⟨rfl,_⟩
       ·refine⟨.slice (some ⟨b,o'+k*z,none⟩) (m-k) (c'-k),by simp[execOp,Zj,h1,hiv,tc hue hz hqk hkm h2],.top rfl QK ?_⟩;rw[hm'];refine TRv.slice (o:=o'+k*z) (by omega) (by omega) h4 (fun i hi=> ?_) fun i v v' hv ZQ=> ?_
        ·rw[<-hes,Array.size_extract]at hi;have:=h5 (k*z+i) (by omega);omega
        ·rw[<-hes,LX]at hv;split at hv
         ·refine h6 (k*z+i) v v' hv ?_;rw[<-ZQ,Nat.add_assoc]
         ·cases hv
       ·omega
     ·cases e
    ·cases e
   ·cases e
  ·cases e
 ·rename_i cs';split at e
  ·rename_i u1 r k cs el z by' u2 hta
   cases hq:(Lr r n && X2 (Qw H r))with
   |false=>rw[hq]at e;cases e
   |true=>
    rw[hq]at e;simp only[cond_true,YO]at e;subst e;simp only[YB]at hq;exact⟨qy hta (YL hq.1) hq.2 (hp _ rfl),Shape.new _ _ _ _⟩
  ·cases e
 ·split at e
  ·rename_i sv r k cs el z by' u2 hta
   cases hq:(Lr r n && X2 (Qw H r))with
   |false=>rw[hq]at e;cases e
   |true=>
    rw[hq]at e;simp only[cond_true,YO]at e;subst e;simp only[YB]at hq;exact⟨oD hta (YL hq.1) hq.2 (hp _ rfl),Shape.same _ _ _⟩
  ·cases e
 ·rename_i cs';split at e
  ·rename_i b off k r m cs2 z hta;split at e
   ·rename_i cs te hg;cases hq:(Lr r n && X2 (Qw H r) && Lr b n)with
    |false=>rw[hq]at e;cases e
    |true=>
     rw[hq]at e;simp only[cond_true,YO]at e;subst e;simp only[YB]at hq;have hb:=YL hq.2;exact⟨qx hta hg (YL hq.1.1) hq.1.2 hb (hp _ rfl),(Shape.set _ hb).moreR (fun i hi=>by simp at hi ⊢;exact .inl hi)⟩
   ·cases e
  ·cases e
 ·rename_i s;simp only[YO]at e;subst e;exact YV hF P2 (QJ P B) hu (hp _ rfl)
 ·rename_i v;split at e
  ·rename_i op t x y yt Zj;split at e
   ·rename_i a b hx hy;cases hq:(af a && af b && af v)with
    |false=>rw[hq]at e;cases e
    |true=>
     rw[hq]at e;simp only[cond_true,YO]at e;subst e;simp only[YB]at hq;have hb:=hp _ rfl;refine⟨Kl (fun c h=>by rw[Zj]at h;cases h) fun μ w ρ _ XP=> ?_,Shape.same _ _ _⟩;have e1:=Tj hq.1.1 (XP x (by simp[Zj,Op.operands]) _ hx);have e2:=Tj hq.1.2 (XP y (by simp[Zj,Op.operands]) _ hy);refine⟨v, ?_,PC hq.2⟩;simp only[execOp,Zj,e1,e2];rw[Sem.run_bind,hb x y w];rfl
   ·cases e
  ·cases e
 ·rename_i keys out Yl n' W;split at e
  ·rename_i c Zj;split at e
   ·rename_i g args H1 n1 R W1 hcr;cases hn:(Lf n1 n && W1.isEmpty)with
    |false=>rw[hn]at e;cases e
    |true=>
     rw[hn]at e;simp only[cond_true]at e;simp only[YB,List.isEmpty_iff]at hn;obtain⟨JV,rfl⟩:=hn;have JV:=YE JV;subst JV;split at e
     ·rename_i c1 hc1;simp only[YO]at e;subst e;exact Jb hF Zj hu hcr ((hp _ rfl).callJ hc1)
     ·cases e
   ·rename_i l fn tm cda cdb H1 n1 R W1 hcr;cases hn:(Lf n1 n && W1.isEmpty && LR tm.size 16000)with
    |false=>rw[hn]at e;cases e
    |true=>
     rw[hn]at e;simp only[cond_true,YO]at e;subst e;simp only[YB,List.isEmpty_iff]at hn;obtain⟨⟨JV,rfl⟩,ZW⟩:=hn;have JV:=YE JV;subst JV;have Vs:=FJ.recS (hp _ rfl);have:=YV hF Vs (QJ P B) hu (T:=T) (o:=o) (s:=⟨out,Yl++H1,n',R++keys,W⟩) (by
      simp[dn,Zj,hcr,ZW,S0])
     exact this
   ·cases e
  ·cases e
 ·rename_i out fz;split at e
  ·rename_i c Zj;split at e
   ·rename_i g args H1 n1 R W1 hcr;cases hn:(Lf n1 n && W1.isEmpty)with
    |false=>rw[hn]at e;cases e
    |true=>
     rw[hn]at e;simp only[cond_true]at e;simp only[YB,List.isEmpty_iff]at hn;obtain⟨JV,rfl⟩:=hn;have JV:=YE JV;subst JV;split at e
     ·rename_i ts R2 L Zh;cases Xp:(R2.all fun i=>Lr i n1)with
      |false=>rw[Xp]at e;cases e
      |true=>
       rw[Xp]at e;simp only[cond_true]at e;cases Vv:a8 2 out with
       |true=>
        rw[Vv]at e;simp only[cond_true,YO]at e;subst e;obtain⟨hL,hpc⟩:=hp _ rfl;exact Jb hF Zj hu hcr (yP hJ Zh hL hpc Vv Xp)
       |false=>
        rw[Vv]at e;simp only[cond_false]at e;cases hq:((R2.all fun i=>X2 (Qw H1 i)) && rF 4 out)with
        |false=>rw[hq]at e;cases e
        |true=>
         rw[hq]at e;simp only[cond_true,YO]at e;subst e;simp only[YB]at hq;obtain⟨hL,hpc⟩:=hp _ rfl;exact Jb hF Zj hu hcr (uv hJ Zh hL hpc Xp hq.1 hq.2)
     ·cases e
   ·cases e
  ·cases e
 ·rename_i out fz;split at e
  ·rename_i c Zj;split at e
   ·rename_i g args H1 n1 R W1 hcr;cases hn:(Lf n1 n && W1.isEmpty)with
    |false=>rw[hn]at e;cases e
    |true=>
     rw[hn]at e;simp only[cond_true]at e;simp only[YB,List.isEmpty_iff]at hn;obtain⟨JV,rfl⟩:=hn;have JV:=YE JV;subst JV;split at e
     ·rename_i ts R2 L Zh;cases hq:((R2.all fun i=>Lr i n1) && (R2.all fun i=>X2 (Qw H1 i) || aY (Qw H1 i)) && rF 4 out)with
      |false=>rw[hq]at e;cases e
      |true=>
       rw[hq]at e;simp only[cond_true,YO]at e;subst e;simp only[YB]at hq;obtain⟨hL,hpc⟩:=hp _ rfl;exact Jb hF Zj hu hcr (qP hJ Zh hL hpc hq.1.1 hq.1.2 hq.2)
     ·cases e
   ·cases e
  ·cases e
 ·rename_i κ R ps qs out outs news;split at e
  ·rename_i c Zj;split at e
   ·rename_i g args H1 n1 R0 W1 hcr;cases hn:(Lf n1 n && W1.isEmpty)with
    |false=>rw[hn]at e;cases e
    |true=>
     rw[hn]at e;simp only[cond_true]at e;simp only[YB,List.isEmpty_iff]at hn;obtain⟨JV,rfl⟩:=hn;have JV:=YE JV;subst JV;split at e
     ·rename_i as bs o1 Yl L hw;simp only[YO]at e;subst e;obtain⟨hL,hwr⟩:=hp _ rfl;exact Jb hF Zj hu hcr (hwr.callJ hJ κ R ps qs hw hL rfl rfl)
     ·cases e
   ·cases e
  ·cases e
 ·-- a tree Sy is not nil
  split at e
  ·rename_i op t x y yt Zj;split at e
   ·rename_i v hx hy;split at e
    ·rename_i r m cs el htop hue;cases hq:(Lr r n && X2 (Qw H r))with
     |false=>rw[hq]at e;cases e
     |true=>
      rw[hq]at e;simp only[cond_true]at e;simp only[YB]at hq;obtain⟨Xp,WJ⟩:=hq;have key:0<m->∀(μ:Mu) (w:World) (ρ:Operand->Value) (im:c7),μ r=some im->(∀x'∈o.op.operands,∀v',Zd T x'=some v'->VR μ v' (ρ x'))->ρ y=.slice none 0 0/\∃p c,ρ x=.slice (some p) m c:=fun hm μ w ρ im QK XP=>by
       have hv:=XP x (by simp[Zj,Op.operands]) _ hx;have h2:=XP y (by simp[Zj,Op.operands]) _ hy;rw[Sx htop]at hv;obtain⟨Z9,QS,htr⟩:=hv.top_inv;have e2:ρ y=.slice none 0 0:=by generalize ρ y=z at h2;cases h2;rfl
       refine⟨e2, ?_⟩;rcases htr.slice_inv with ⟨b,o',c',arr,ty,fl,h1,_,_,_,_,_⟩|⟨h0,_⟩
       ·exact⟨_,_,h1⟩
       ·omega
      have heq:∀(p:Addr) (c:Nat) (w:World),(Op.equal t (.slice (some p) m c) (.slice none 0 0)).run P w=.ok false w:=fun p c w=>by
       show(Op.equalIn (9999+1) t (.slice (some p) m c) (.slice none 0 0)).run P w=.ok false w;unfold Op.equalIn;rw[Zx]at hue;simp[Sem.run_bind,run_underlying hue,Sem.run_pure]
      split at e
      ·rename_i hop2;simp only[YO]at e;subst e;have hm:=hp _ rfl;refine⟨UW (YL Xp) WJ (fun c h=>by rw[Zj]at h;cases h) fun μ w ρ im QK hf XP=> ?_,Shape.same _ _ _⟩;obtain⟨e2,p,c,e1⟩:=key hm μ w ρ im QK XP;exact⟨.bool false,by simp[execOp,Zj,e1,e2,eqGuard,binOp,Sem.run_bind,Sem.run_pure,heq],.bool _⟩
      ·rename_i hop2;simp only[YO]at e;subst e;have hm:=hp _ rfl;refine⟨UW (YL Xp) WJ (fun c h=>by rw[Zj]at h;cases h) fun μ w ρ im QK hf XP=> ?_,Shape.same _ _ _⟩;obtain⟨e2,p,c,e1⟩:=key hm μ w ρ im QK XP;exact⟨.bool true,by simp[execOp,Zj,e1,e2,eqGuard,binOp,Sem.run_bind,Sem.run_pure,heq],.bool _⟩
      ·cases e
    ·cases e
   ·cases e
  ·cases e
 ·rename_i κ R ps qs out outs news o2;split at e
  ·rename_i c Zj;split at e
   ·rename_i g args H1 n1 R0 W1 hcr;cases hn:(Lf n1 n && W1.isEmpty)with
    |false=>rw[hn]at e;cases e
    |true=>
     rw[hn]at e;simp only[cond_true]at e;simp only[YB,List.isEmpty_iff]at hn;obtain⟨JV,rfl⟩:=hn;have JV:=YE JV;subst JV;split at e
     ·rename_i as bs o1 Yl L hw;simp only[YO]at e;subst e;obtain⟨⟨hL,hwr⟩,ho⟩:=hp _ rfl;subst ho;exact Jb hF Zj hu hcr (hwr.callJ hJ κ R ps qs hw hL rfl rfl)
     ·cases e
   ·cases e
  ·cases e
end
abbrev Vr(k:Int)(n:Nat)(xs:Array Value)(t:Nat)(v:Array Value):Prop:=k=(↑k.toNat:Int)/\k.toNat<n/\xs.extract (k.toNat*t) (k.toNat*t+t)=v
abbrev Pz(a v r:Array Value)(n f z:Nat):Prop:=a.size=n*f/\n+1<=maxLen/\(n+1)*z<=140737488355328/\a++v=r
end Go.CE

namespace Go.CE
open Go Go.RowKit

abbrev QI:=List (Nat×Qh)
def MJ(sc:QI)(q:Nat):Option Qh×QI:=match sc with
 |(k,h)::l=>bif Lf k q then(some h,l)else(none,sc)
 |[]=>(none,[])
structure ON where
 Qz:List Rec
 T:Tm
 H:Qt
 n:Nat
 sc:QI
 q:Nat
 L:List Prop
 We:Option (Value×List Nat×List Nat)
def dN(P:Program)(F:FuncId->Bool)(J:World->Prop)(B:Lo)(ops:Array Oper):List Oper->Tm->Qt->Nat->QI->Nat->List Prop->Option ON
 |[],T,H,n,sc,q,L=>some ⟨[],T,H,n,sc,q,L,none⟩
 |o::l,T,H,n,sc,q,L=>
  bif Rq T o.dst then
   bif Region.wanted o (XO ops T)then
    match MJ sc q with
    |(h,sc')=>match opT P F J B T o H n h with
     |some ⟨⟨.ret v,H1,n1,R,W⟩,p⟩=>match dN P F J B ops l (VB T o.dst v) H1 n1 sc' (q+1) (more p L)with
      |some r=>some {r with Qz:=⟨o,true,v,T,H,H1,n,n1,R,W⟩::r.Qz}
      |none=>none
     |some ⟨⟨.We v,H1,n1,R,W⟩,p⟩=>some ⟨[],T,H1,n1,sc',q+1,more p L,some (v,R,W)⟩
     |none=>none
   else match dN P F J B ops l (VB T o.dst undef) H n sc (q+1) L with
    |some r=>some {r with Qz:=⟨o,false,undef,T,H,H,n,n,[],[]⟩::r.Qz}
    |none=>none
  else none
def Hj(P:Program)(F:FuncId->Bool)(B:Lo)(c:CF)(H:Qt)(n:Nat)(f:Operand)(params:Array Tmp)(assign body:Code)(k:List Item)(keys:List Nat)(out:OO)(Yl:Qt)(n':Nat)(W:List Nat):Option (CF×Qt×Prop):=
 match Zd c.tmps f with
 |some fv=>match Kh c H n params assign body with
  |some (H1,l,ds,_)=>match Sa F H1 fv #[.func (.yield l) #[] #[]]with
   |some (.enter g args,_)=>match ZY P g args with
    |some c1=>match out with
     | .ret _=>some ({c with todo:=.endRangeFunc l::k,defers:=ds++c.defers},Yl++H1,FJ P B c1 H1 (l+1) out (Yl++H1) n' keys W)
     | .We v=>some ({c with mode:=.We v,defers:=ds++c.defers},Yl++H1,FJ P B c1 H1 (l+1) out (Yl++H1) n' keys W)
    |none=>none
   |_=>none
  |none=>none
 |none=>none
def Qq(P:Program)(F:FuncId->Bool)(J:World->Prop)(B:Lo):Nat->Nat->CF->Qt->Nat->QI->Nat->List Nat->List Prop->Option ST
 |0,_,c,H,n,_,_,W,L=>some ⟨.at c H n,W,L⟩
 |k+1,b,c,H,n,sc,q,W,L=>
  match c.mode,c.todo with
  | .run,.code (.region _ ops draw)::todo=>match dN P F J B ops ops.toList c.tmps H n sc q L with
    |some r=>match r.We with
     |none=>bif !draw || (WV 0 ops.toList && indep ops 0 r.Qz (Py ops.toList []))then Qq P F J B k b {c with tmps:=r.T,todo:=todo} r.H r.n r.sc r.q (ZT b (Ub r.Qz) W) r.L else none
     |some (v,_,W1)=>bif !draw || TI ops r.Qz r.T then Qq P F J B k b {c with tmps:=r.T,mode:=.We v} r.H r.n r.sc r.q (ZT b (Ub r.Qz++W1) W) r.L else none
    |none=>none
  | .run,.code (.rangeFunc f params assign body)::todo=>match MJ sc q with
    |(some (.Xs (.call keys out Yl n1 W1)),sc')=>match Hk P F B c H n f params assign body todo keys out Yl n1 W1 with
     |some (c',H',p)=>Qq P F J B k b c' H' n1 sc' q (ZT b W1 W) (p::L)
     |none=>none
    |(some (.call keys out Yl n1 W1),sc')=>match Hj P F B c H n f params assign body todo keys out Yl n1 W1 with
     |some (c',H',p)=>Qq P F J B k b c' H' n1 sc' q (ZT b W1 W) (p::L)
     |none=>none
    |_=>none
  |_,_=>match RV P F X1 (fun _ _ _=>none) c H n with
   |some (.go c' H' n' _ W')=>Qq P F J B k b c' H' n' sc q (ZT b W' W) L
   |some (.done out H' n' _ W')=>some ⟨.fin out H' n',ZT b W' W,L⟩
   |none=>none
section
variable {P:Program} {F:FuncId->Bool} {J:World->Prop} {B:Lo}
theorem PF{ops:Array Oper}:∀(l:List Oper) (T:Tm) (H:Qt) (n:Nat) (sc:QI) (q:Nat) (L:List Prop) (r:ON),dN P F J B ops l T H n sc q L=some r->Q3 r.L->Q3 L
 |[],T,H,n,sc,q,L,r,h,ha=>by
  simp only[dN,YO]at h;subst h;exact ha
 |o::l,T,H,n,sc,q,L,r,h,ha=>by
  simp only[dN]at h;cases hd:Rq T o.dst with
  |false=>rw[hd]at h;cases h
  |true=>
   rw[hd]at h;simp only[cond_true]at h;cases hw:Region.wanted o (XO ops T)with
   |true=>
    rw[hw]at h;simp only[cond_true]at h;split at h
    ·rename_i v H1 n1 R W p Zj;split at h
     ·rename_i r' hr;simp only[YO]at h;subst h;exact(fO (PF l _ _ _ _ _ _ r' hr ha)).2
     ·cases h
    ·simp only[YO]at h;subst h;exact(fO ha).2
    ·cases h
   |false=>
    rw[hw]at h;simp only[cond_false]at h;split at h
    ·rename_i r' hr;simp only[YO]at h;subst h;exact PF l _ _ _ _ _ _ r' hr ha
    ·cases h
def RegOk(P:Program)(B:Lo)(ops:Array Oper)(l:List Oper)(T:Tm)(H:Qt)(n:Nat)(r:ON):Prop:=match r.We with
 |none=>Yf r.Qz T H n r.T r.H r.n/\r.Qz.map (·.o)=l/\Under r.H r.n
 |some (v,R,W)=> ∃H1 n1 o l2,Yf r.Qz T H n r.T H1 n1/\r.Qz.map (·.o)++o::l2=l/\Region.wanted o (XO ops r.T)=true/\Tk P B o (Zd r.T) H1 n1 (.We v) r.H r.n R W/\Shape H1 n1 r.H r.n R W/\Under r.H r.n
theorem RegOk.cons{ops:Array Oper}{l:List Oper}{T:Tm}{H:Qt}{n:Nat}{r:ON}{x:Rec}(h:RegOk P B ops l (VB T x.o.dst x.v) x.H' x.n' r)(hT:x.T=T)(hH:x.H=H)(hn:x.n=n):RegOk P B ops (x.o::l) T H n {r with Qz:=x::r.Qz}:=by
 unfold RegOk at h ⊢;cases hp:r.We with
 |none=>
  rw[hp]at h;obtain⟨h3,h4,h5⟩:=h;exact⟨⟨hT,hH,hn,h3⟩,by simp[h4],h5⟩
 |some p=>
  obtain⟨v,R,W⟩:=p;rw[hp]at h;obtain⟨H1,n1,o,l2,h1,h2,h3⟩:=h;exact⟨H1,n1,o,l2,⟨hT,hH,hn,h1⟩,by simp[h2],h3⟩
theorem R6(hF:∀g,F g=true->Q6 P g=true)(hJ:∀w,B.has w->J w){ops:Array Oper}{len:Nat}:∀(l:List Oper) (T:Tm) (H:Qt) (n:Nat) (sc:QI) (q:Nat) (L:List Prop) (r:ON),T.len=len->Under H n->dN P F J B ops l T H n sc q L=some r->Q3 r.L->
 (∀x∈r.Qz,cn len x)/\(∀x∈r.Qz,Se P B ops x)/\RegOk P B ops l T H n r
 |[],T,H,n,sc,q,L,r,hl,hu,h,ha=>by
  simp only[dN,YO]at h;subst h;exact⟨fun r hr=>by simp at hr,fun r hr=>by simp at hr,⟨rfl,rfl,rfl⟩,rfl,hu⟩
 |o::l,T,H,n,sc,q,L,r,hl,hu,h,ha=>by
  simp only[dN]at h;cases hd:Rq T o.dst with
  |false=>rw[hd]at h;cases h
  |true=>
   have hdst:=Rp hd;rw[hl]at hdst;rw[hd]at h;simp only[cond_true]at h;cases hw:Region.wanted o (XO ops T)with
   |true=>
    rw[hw]at h;simp only[cond_true]at h;split at h
    ·rename_i v H1 n1 R W p Zj;split at h
     ·rename_i r' hr;simp only[YO]at h;subst h;have hpL:=fO (PF l _ _ _ _ _ _ r' hr ha);obtain⟨hdo,RU⟩:=pX hF hJ hu Zj hpL.1;obtain⟨h1,h2,h3⟩:=R6 hF hJ (ops:=ops) (len:=len) l (VB T o.dst v) H1 n1 _ _ _ r' (by rw[Ka];exact hl) (hu.shape RU) hr ha;refine⟨fun x hx=> ?_,fun x hx=> ?_,RegOk.cons (x:=⟨o,true,v,T,H,H1,n,n1,R,W⟩) h3 rfl rfl rfl⟩
      ·rcases List.mem_cons.1 hx with rfl|hx
       ·exact⟨RU.le,RU.keep,RU.top,RU.sub,RU.wlt,hdst⟩
       ·exact h1 x hx
      ·rcases List.mem_cons.1 hx with rfl|hx
       ·exact⟨hw.symm,(fun _=>hdo),(fun e=>by cases e)⟩
       ·exact h2 x hx
     ·cases h
    ·rename_i v H1 n1 R W p Zj;simp only[YO]at h;subst h;obtain⟨hdo,RU⟩:=pX hF hJ hu Zj (fO ha).1;exact⟨fun r hr=>by simp at hr,fun r hr=>by simp at hr,H,n,o,l,⟨rfl,rfl,rfl⟩,rfl,hw,hdo,RU,hu.shape RU⟩
    ·cases h
   |false=>
    rw[hw]at h;simp only[cond_false]at h;split at h
    ·rename_i r' hr;simp only[YO]at h;subst h;obtain⟨h1,h2,h3⟩:=R6 hF hJ (ops:=ops) (len:=len) l (VB T o.dst undef) H n _ _ _ r' (by rw[Ka];exact hl) hu hr ha;refine⟨fun x hx=> ?_,fun x hx=> ?_,RegOk.cons (x:=⟨o,false,undef,T,H,H,n,n,[],[]⟩) h3 rfl rfl rfl⟩
     ·rcases List.mem_cons.1 hx with rfl|hx
      ·exact⟨LI _,fun _ _ _=>rfl,fun _ _=>rfl,fun i hi=>by simp at hi,fun i hi=>by simp at hi,hdst⟩
      ·exact h1 x hx
     ·rcases List.mem_cons.1 hx with rfl|hx
      ·exact⟨hw.symm,(fun e=>by cases e),fun _=>⟨rfl,rfl,rfl,rfl⟩⟩
      ·exact h2 x hx
    ·cases h
theorem nU{c:CF}{H:Qt}{n:Nat}{id:Nat}{ops:Array Oper}{k:List Item}{Qz:List Rec}{v:Value}{H':Qt}{n':Nat}{R W:List Nat}{T':Tm}(hm:c.mode=.run)
 (ht:c.todo=.code (.region id ops false)::k) (hs:∀x∈Qz,cn c.tmps.len x) (hk:∀x∈Qz,Se P B ops x)
 (h:∃H1 n1 o l2,Yf Qz c.tmps H n T' H1 n1/\Qz.map (·.o)++o::l2=ops.toList/\Region.wanted o (XO ops T')=true/\Tk P B o (Zd T') H1 n1 (.We v) H' n' R W/\Shape H1 n1 H' n' R W/\Under H' n'):
 GoJ P B c H n {c with tmps:=T',mode:=.We v} H' n' (Y5 Qz++R) (Ub Qz++W):=by
 obtain⟨H1,n1,o,l2,Sq,hmap,Ya,hdo,RU,_⟩:=h;have hown:=K8 (l2:=o::l2) hmap rfl;have hlen:ops.size=Qz.length+(l2.length+1):=by have:=congrArg Ld hmap;simp at this;omega
 have hat:ops[Qz.length]? =some o:=by
  rw[<-Lq,<-hmap,Lm (by simp)];simp
 have hsh1:=ZZ Qz _ _ _ _ _ _ Sq hs;have l1:=hsh1.le;have l3:=RU.le;refine⟨hsh1.trans RU,fun S μ w fr cs Z QE hB hS hf XF hR=> ?_⟩;obtain⟨a,b,d⟩:=XF.running hm;rw[ht]at d;obtain⟨L',e,hL⟩:=d.code;have hf1:P0 μ n n1:=fun q x y=>hf q x (by omega)
 obtain⟨μ1,A1,w1,hp,hT,Zh⟩:=b5 (fr:=fr) (cs:=cs) (k:=L') a Qz 0 c.tmps H n T' H1 n1 (LM Qz.length (l2.length+1)) Sq hs hk (fun j r hj=>by rw[LD];exact hown j r hj) rfl S μ w fr.tmps QE hB hS hf1
  (fun q hq Xp=>hR q (Ln _ hq) Xp) b
 have hr:LM 0 Qz.length++LM Qz.length (l2.length+1)=LM 0 ops.size:=by
  rw[hlen];have:=List.range'_append_1 (s:=0) (m:=Qz.length) (n:=l2.length+1);simpa using this
 rw[hr,List.range'_succ]at Zh;obtain⟨Zg,w2,μ2,Sm,ho,hst2⟩:=hdo _ μ1 w1 (Xw fr A1 ops (Qz.length::LM (Qz.length+1) l2.length) L') cs L' ops Qz.length _ hp.ok (hB.post QE hp) (fun q hq=>hq.elim (fun e=>by have:=hS q e;omega) (fun e=>e.2))
  (fun q x y=>by rw[hp.ext q (by omega)];exact hf q (by omega) y) (fun x _ v hv=>qi (fr:=Xw fr A1 ops (Qz.length::LM (Qz.length+1) l2.length) L') hT x v hv) (fun q hq Xp=>by
   rcases LK q n with h1|h1
   ·exact .inl (hR q (Lw _ hq) h1)
   ·exact .inr ⟨h1,Xp⟩) a rfl hat (by rw[show(Xw fr A1 ops (Qz.length::LM (Qz.length+1) l2.length) L').tmps=A1 from rfl,Y8 hT];exact Ya)
 have hpp:=hp.trans Sm;cases ho with
 |We hv=>
  rename_i v';refine⟨{Xw fr A1 ops (Qz.length::LM (Qz.length+1) l2.length) L' with mode:=.panicking [{v:=v',recovered:=false}]},w2,μ2,hpp,⟨XF.fn,hT.mono (Sm.mu fun q x y=>by rw[hp.ext q (by omega)];exact hf q (by omega) y),(fun h=>by cases h),XF.defers.mono (hpp.mu hf),.We hv,XF.kind,XF.round.mono (hpp.mu hf)⟩,rfl,rfl,
   .head (Wp a e) (Zh.trans (hst2.trans ?_))⟩
  simp only[OO.on,Frame.raise,Xw,a];exact Steps.refl _ _
theorem xD(hF:∀g,F g=true->Q6 P g=true)(Zm:P.follows .mixedOrders=true){c c':CF}{H H':Qt}{n n':Nat}{f:Operand}{params:Array Tmp}{assign body:Code}{k:List Item}{keys W:List Nat}{out:OO}{Yl:Qt}{p:Prop}(hu:Under H n)(hm:c.mode=.run)(ht:c.todo=.code (.rangeFunc f params assign body)::k)
 (h:Hj P F B c H n f params assign body k keys out Yl n' W=some (c',H',p)) (hp:p):∃R,GoJ P B c H n c' H' n' R W:=by
 unfold Hj at h;split at h
 ·rename_i fv hfv;split at h
  ·rename_i H1 l ds R1 ho;split at h
   ·rename_i g args R2 hc;split at h
    ·rename_i c1 he;refine⟨R1++R2++keys, ?_⟩;split at h
     ·rename_i v;simp only[YO,YR]at h;obtain⟨rfl,rfl,rfl⟩:=h;have:RV P F X1 (Tt c1 H1 (l+1) ⟨.ret v,Yl++H1,n',keys,W⟩) c H n=some (.go {c with todo:=.endRangeFunc l::k,defers:=ds++c.defers} (Yl++H1) n' (R1++R2++keys) W):=by
       unfold RV;simp only[hm,ht,hfv,ho,hc,he,S0]
      exact Vw hF Zm (QJ P B) (FJ.recS hp) hu this
     ·rename_i v;simp only[YO,YR]at h;obtain⟨rfl,rfl,rfl⟩:=h;have:RV P F X1 (Tt c1 H1 (l+1) ⟨.We v,Yl++H1,n',keys,W⟩) c H n=some (.go {c with mode:=.We v,defers:=ds++c.defers} (Yl++H1) n' (R1++R2++keys) W):=by
       unfold RV;simp only[hm,ht,hfv,ho,hc,he,S0]
      exact Vw hF Zm (QJ P B) (FJ.recS hp) hu this
    ·cases h
   ·cases h
  ·cases h
 ·cases h
theorem Tr(b:Nat):∀(fuel:Nat) (c:CF) (H:Qt) (n:Nat) (sc:QI) (q:Nat) (W0:List Nat) (L:List Prop) (s:ST),Qq P F J B fuel b c H n sc q W0 L=some s->Q3 s.L->Q3 L:=by
 intro fuel;induction fuel with
 |zero=>intro c H n sc q W0 L s h ha;simp only[Qq,YO]at h;subst h;exact ha
 |succ k ih=>
  intro c H n sc q W0 L s h ha;simp only[Qq]at h;split at h
  ·split at h
   ·rename_i r' hr';split at h
    ·have h:=Je h;exact PF _ _ _ _ _ _ _ _ hr' (ih _ _ _ _ _ _ _ _ h ha)
    ·exact PF _ _ _ _ _ _ _ _ hr' (ih _ _ _ _ _ _ _ _ (Je h) ha)
   ·cases h
  ·split at h
   ·split at h
    ·exact(ih _ _ _ _ _ _ _ _ h ha).2
    ·cases h
   ·split at h
    ·exact(ih _ _ _ _ _ _ _ _ h ha).2
    ·cases h
   ·cases h
  ·split at h
   ·exact ih _ _ _ _ _ _ _ _ h ha
   ·simp only[YO]at h;subst h;exact ha
   ·cases h
theorem W9(hF:∀g,F g=true->Q6 P g=true)(hJ:∀w,B.has w->J w)(Zm:P.follows .mixedOrders=true):∀(fuel b:Nat) (c:CF) (H:Qt) (n:Nat) (sc:QI) (q:Nat) (W0:List Nat) (L:List Prop) (s:ST),Under H n->Qq P F J B fuel b c H n sc q W0 L=some s->Q3 s.L->
 ∃R W,OX P B c H n R W s.r/\∀i,i<b->(i∈s.W<->i∈W0\/i∈W)
 |0,b,c,H,n,sc,q,W0,L,s,hu,h,ha=>by
  simp only[Qq,YO]at h;subst h;exact⟨[],[],GoJ.refl c H n,fun i _=>by simp⟩
 |k+1,b,c,H,n,sc,q,W0,L,s,hu,h,ha=>by
  have plain:(match RV P F X1 (fun _ _ _=>none) c H n with
   |some (.go c' H' n' _ W')=>Qq P F J B k b c' H' n' sc q (ZT b W' W0) L
   |some (.done out H' n' _ W')=>some ⟨.fin out H' n',ZT b W' W0,L⟩
   |none=>none)=some s->∃R W,OX P B c H n R W s.r/\∀i,i<b->(i∈s.W<->i∈W0\/i∈W):=by
   intro h;split at h
   ·rename_i c' H' n' R' W' hs;have SZ:GoJ P B c H n c' H' n' R' W':=Vw hF Zm (QJ P B) P2 hu hs;obtain⟨R,W,h1,h2⟩:=W9 hF hJ Zm k b c' H' n' sc q _ L s (hu.shape SZ.shape) h ha;refine⟨_,_,SZ.srj h1,fun i hi=> ?_⟩;rw[h2 i hi,Z5 hi,List.mem_append,or_assoc]
   ·rename_i out H' n' R' W' hs;have hdone:FJ P B c H n out H' n' R' W':=Vw hF Zm (QJ P B) P2 hu hs;simp only[YO]at h;subst h;exact⟨R',W',hdone,fun i hi=>Z5 hi⟩
   ·cases h
  simp only[Qq]at h;split at h
  ·rename_i id ops draw todo hm ht;split at h
   ·rename_i r hr;cases hpan:r.We with
    |none=>
     rw[hpan]at h;simp only at h;cases hd:(!draw || (WV 0 ops.toList && indep ops 0 r.Qz (Py ops.toList [])))with
     |false=>rw[hd]at h;cases h
     |true=>
      rw[hd]at h;simp only[cond_true]at h;have hL:Q3 r.L:=by
       exact Tr b k _ _ _ _ _ _ _ s h ha
      obtain⟨h1,h2,WJ⟩:=R6 hF hJ (len:=c.tmps.len) ops.toList c.tmps H n sc q L r rfl hu hr hL;unfold RegOk at WJ;rw[hpan]at WJ;obtain⟨h3,h4,h5⟩:=WJ;have SZ:=sd Zm hm ht h1 h2 h3 h4 hd;obtain⟨R,W,k1,k2⟩:=W9 hF hJ Zm k b _ _ _ _ _ _ _ s h5 h ha;refine⟨_,_,SZ.srj k1,fun i hi=> ?_⟩;rw[k2 i hi,Z5 hi,List.mem_append,or_assoc]
    |some p=>
     obtain⟨v,R1,W1⟩:=p;rw[hpan]at h;simp only at h;cases hd:(!draw || TI ops r.Qz r.T)with
     |false=>rw[hd]at h;cases h
     |true=>
      rw[hd]at h;simp only[cond_true]at h;have hL:Q3 r.L:=by
       exact Tr b k _ _ _ _ _ _ _ s h ha
      obtain⟨h1,h2,WJ⟩:=R6 hF hJ (len:=c.tmps.len) ops.toList c.tmps H n sc q L r rfl hu hr hL;unfold RegOk at WJ;rw[hpan]at WJ;have SZ:GoJ P B c H n {c with tmps:=r.T,mode:=.We v} r.H r.n (Y5 r.Qz++R1) (Ub r.Qz++W1):=by
       cases draw with
       |true=>
        obtain⟨H1,n1,o,l2,x1,x2,x3,x4,x5,_⟩:=WJ;exact iN Zm hm ht h1 h2 ⟨H1,n1,o,l2,x1,x2,x3,x4,x5⟩ (by simpa using hd)
       |false=>exact nU hm ht h1 h2 WJ
      obtain⟨_,_,_,_,_,_,_,_,_,h5⟩:=WJ;obtain⟨R,W,k1,k2⟩:=W9 hF hJ Zm k b _ _ _ _ _ _ _ s h5 h ha;refine⟨_,_,SZ.srj k1,fun i hi=> ?_⟩;rw[k2 i hi,Z5 hi,List.mem_append (s:=Ub r.Qz++W1),or_assoc]
   ·cases h
  ·rename_i f params assign body todo hm ht;split at h
   ·rename_i keys out Yl n1 W1 sc' htold;split at h
    ·rename_i c' H' p hi;have hL:=Tr b k _ _ _ _ _ _ _ s h ha;obtain⟨R0,SZ⟩:=xE hF Zm hu hm ht hi hL.1;obtain⟨R,W,h1,h2⟩:=W9 hF hJ Zm k b _ _ _ _ _ _ _ s (hu.shape SZ.shape) h ha;refine⟨_,_,SZ.srj h1,fun i hi=> ?_⟩;rw[h2 i hi,Z5 hi,List.mem_append,or_assoc]
    ·cases h
   ·rename_i keys out Yl n1 W1 sc' htold;split at h
    ·rename_i c' H' p hi;have hL:=Tr b k _ _ _ _ _ _ _ s h ha;obtain⟨R0,SZ⟩:=xD hF Zm hu hm ht hi hL.1;obtain⟨R,W,h1,h2⟩:=W9 hF hJ Zm k b _ _ _ _ _ _ _ s (hu.shape SZ.shape) h ha;refine⟨_,_,SZ.srj h1,fun i hi=> ?_⟩;rw[h2 i hi,Z5 hi,List.mem_append,or_assoc]
    ·cases h
   ·cases h
  ·exact plain h
end
end Go.CE

namespace Go.CE
open Go Go.RowKit

def Pb(H:Qt)(n:Nat):List Nat:=(Ll n).filter fun r=>X2 (Qw H r)
theorem oT{H:Qt}{n r:Nat}:r∈Pb H n<->r<n/\X2 (Qw H r)=true:=by simp[Pb]
noncomputable def j4(n n1:Nat)(ρ:Nat->Nat)(μ μ':Mu)(fm:Nat->Option Obj):Mu:=fun i=>if i=n then some ⟨0,0,0,false,fm⟩else if n<i/\i<n1 then μ' (ρ i)else μ i
structure AY (n n' n1:Nat) (W:List Nat) (μ μ':Mu) (H H' H1:Qt) (w':World) (ρ:Nat->Nat) (fk:List Nat):Prop where
 le:n<n1
 id:∀i,i<n->ρ i=i
 rng:∀i,n<i->i<n1->n<=ρ i/\ρ i<n'
 inj:∀i j,n<i->i<n1->n<j->j<n1->ρ i=ρ j->i=j
 under:Under H1 n1
 Xs:∀i,i<n->i ∉ W->Qw H1 i=Qw H i
 P1:Qw H1 n=some X8
 obj:∀i o1,i<n1->(n<i\/i∈W/\i<n)->Qw H1 i=some o1->¬Wa o1/\(live o1->∃o,Qw H' (ρ i)=some o/\live o/\∀im,μ' (ρ i)=some im->OR μ' w' im o->OR (j4 n n1 ρ μ μ' (Y7 μ' H' w' (Pb H' n'++fk))) w' im o1)
 fz:∀k∈fk,n<=k/\k<n'/\(∃o,Qw H' k=some o/\live o)/\∀i,n<i->i<n1->ρ i≠k
theorem Post.merge{B n n' n1:Nat}{W:List Nat}{μ μ':Mu}{H H' H1:Qt}{w w':World}{ρ:Nat->Nat}{fk:List Nat}(QE:Ok B (fun i=>i<n) μ (Qw H) w)(hf:∀i,n<=i->μ i=none)(hp:Post B (fun i=>i<n) n n' W μ μ' H H' w w')(k:AY n n' n1 W μ μ' H H' H1 w' ρ fk):
 Post B (fun i=>i<n) n n1 W μ (j4 n n1 ρ μ μ' (Y7 μ' H' w' (Pb H' n'++fk))) H H1 w w':=by
 have le1:=k.le;have hlow:∀i,i<n->j4 n n1 ρ μ μ' (Y7 μ' H' w' (Pb H' n'++fk)) i=μ i:=fun i hi=>by unfold j4;rw[if_neg (by omega),if_neg (by omega)]
 have hhigh:∀i,n<i->i<n1->j4 n n1 ρ μ μ' (Y7 μ' H' w' (Pb H' n'++fk)) i=μ' (ρ i):=fun i h1 h2=>by unfold j4;rw[if_neg (by omega),if_pos ⟨h1,h2⟩]
 have hmid:j4 n n1 ρ μ μ' (Y7 μ' H' w' (Pb H' n'++fk)) n=some ⟨0,0,0,false,Y7 μ' H' w' (Pb H' n'++fk)⟩:=by unfold j4;rw[if_pos rfl]
 have hext:Ext μ (j4 n n1 ρ μ μ' (Y7 μ' H' w' (Pb H' n'++fk))):=by
  intro i im QK;rcases LK i n with h|h
  ·rw[hlow i h];exact QK
  ·rw[hf i h]at QK;cases QK
 generalize hM:j4 n n1 ρ μ μ' (Y7 μ' H' w' (Pb H' n'++fk))=μ1 at *;have obj:=k.obj;rw[hM]at obj
 -- an object of the new heap: an Xs one Sy was left, the region, or one of the run
 have other:∀i o im,i<n->i ∉ W->Qw H i=some o->live o->μ i=some im->w'.heap[im.Zt]? =w.heap[im.Zt]? :=by
  intro i o im hi hw ho hl QK;refine hp.frame _ (QE.low i o im hi ho hl QK).1 fun q hq hqn Z9 QS hb=> ?_
  obtain⟨_,⟨oq,hoq,hlq⟩,im2,WS,hr⟩:=hp.wr q hq hqn;rw[QS]at WS;cases WS;by_cases hra:im.rw=true
  ·exact QE.inj q i oq o Z9 im hqn hi (fun e=>hw (e ▸ hq)) hoq ho hlq hl QS QK hr hra hb
  ·have a:=(QE.low i o im hi ho hl QK).2.2 (by simpa using hra);have b:=(QE.low q oq Z9 hqn hoq hlq QS).2.1 hr;omega
 have hS':∀i,i<n1->i≠n->(ρ i<n\/n<=ρ i/\ρ i<n'):=by
  intro i hi JU;rcases LK i n with h|h
  ·exact .inl (by rw[k.id i h];exact h)
  ·exact .inr (k.rng i (by omega) hi)
 have hmuR:∀i,i<n1->i≠n->μ1 i=μ' (ρ i):=by
  intro i hi JU;rcases LK i n with h|h
  ·rw[hlow i h,k.id i h,hp.ext i (by omega)]
  ·exact hhigh i (by omega) hi
 have Y6:∀i,(i<n\/n<=i/\i<n1)->i<n1:=fun i hi=>hi.elim (fun e=>by omega) (fun e=>e.2)
 have liveH':∀i o1,i<n1->Qw H1 i=some o1->live o1->i≠n/\∃o,Qw H' (ρ i)=some o/\live o:=by
  intro i o1 hi ho hl;have JU:i≠n:=fun e=>by rw[e,k.P1]at ho;cases ho;exact hl.elim
  refine⟨JU, ?_⟩;by_cases h:n<i\/i∈W/\i<n
  ·obtain⟨o,h1,h2,_⟩:=(obj i o1 hi h ho).2 hl;exact⟨o,h1,h2⟩
  ·have h1:i<n:=by omega
   have h2:i ∉ W:=fun e=>h (.inr ⟨e,h1⟩)
   rw[k.Xs i h1 h2]at ho;exact⟨o1,by rw[k.id i h1,hp.keep i h1 h2];exact ho,hl⟩
 have hinj:∀i j,i<n1->j<n1->i≠n->j≠n->ρ i=ρ j->i=j:=by
  intro i j hi hj Rw hjn e;rcases LK i n with h|h <;> rcases LK j n with h'|h'
  ·rw[k.id i h,k.id j h']at e;exact e
  ·have:=k.rng j (by omega) hj;rw[k.id i h]at e;omega
  ·have:=k.rng i (by omega) hi;rw[k.id j h']at e;omega
  ·exact k.inj i j (by omega) hi (by omega) hj e
 have regH1:∀i o,i<n1->Qw H1 i=some o->Wa o->i=n\/(i<n/\i ∉ W/\Qw H i=some o/\Qw H' i=some o):=by
  intro i o hi ho hr;by_cases JU:i=n
  ·exact .inl JU
  ·by_cases h:n<i\/i∈W/\i<n
   ·exact absurd hr (obj i o hi h ho).1
   ·have h1:i<n:=by omega
    have h2:i ∉ W:=fun e=>h (.inr ⟨e,h1⟩)
    rw[k.Xs i h1 h2]at ho;exact .inr ⟨h1,h2,ho,by rw[hp.keep i h1 h2];exact ho⟩
 have deadW:∀q,q∈W->q<n->(∀o,Qw H' q=some o->¬live o)->∀o,Qw H1 q=some o->¬live o:=by
  intro q hq hqn hd o ho hl;obtain⟨_,o',h5,h6⟩:=liveH' q o (by omega) ho hl;rw[k.id q hqn]at h5;exact hd o' h5 h6
 -- what stands in the region
 have fmCase:∀b x,Y7 μ' H' w' (Pb H' n'++fk) b=some x->w'.heap[b]? =some x/\((∃r o im,r<n'/\Qw H' r=some o/\Wa o/\μ' r=some im/\im.fm b=some x)\/∃q o im,q∈fk/\Qw H' q=some o/\live o/\μ' q=some im/\im.Zt=b):=by
  intro b x h;have hw:=Vo h;refine⟨hw, ?_⟩;unfold Y7 at h;split at h
  ·rename_i hc;obtain⟨i,hi,o,im,ho,QK,Yb⟩:=hc;rcases List.mem_append.1 hi with hi|hi
   ·obtain⟨Xp,Ym⟩:=oT.1 hi;obtain⟨o',Kt,hr'⟩:=ZG Ym;rw[ho]at Kt;cases Kt;rcases Yb with ⟨_,JU⟩|⟨hl,_⟩
    ·cases hx:im.fm b with
     |none=>exact absurd hx JU
     |some y=>
      obtain⟨Z9,QS,hf'⟩:=hp.ok.P1 i o (by rcases LK i n with h|h;exact .inl h;exact .inr ⟨h,Xp⟩) ho hr'
      rw[QK]at QS;cases QS;have:=hf' b y hx;rw[hw]at this;cases this;exact .inl ⟨i,o,im,Xp,ho,hr',QK,hx⟩
    ·exact absurd hl (by cases o <;> first|exact id|exact hr'.elim)
   ·obtain⟨h1,h2,⟨o',Kt,hl'⟩,_⟩:=k.fz i hi;rw[ho]at Kt;cases Kt;rcases Yb with ⟨hr,_⟩|⟨hl,hb⟩
    ·exact absurd hl' (by cases o <;> first|exact id|exact hr.elim)
    ·exact .inr ⟨i,o,im,hi,ho,hl,QK,hb⟩
  ·cases h
 have hin':∀r,r<n'->(r<n\/n<=r/\r<n'):=fun r h=>by omega
 refine⟨⟨fun i o hi ho hl=> ?_,fun i o im hi ho hl QK=> ?_,fun i j oi oj a b hi hj TS Wc Wb hli Ud ha hb hra Ym=> ?_,fun i o hi ho hr=> ?_,fun i j oi oj a b x hi hj Wc Wb Pa Ud ha hb Ym hx=> ?_⟩,by omega,fun i hi=> ?_,fun i hi hw=>k.Xs i hi hw,hp.grow,hp.frame,hp.wr,fun i im o h1 h2 ho hl QK=> ?_,fun i im o hi ho hr QK b x hx=> ?_,hp.os,hp.tape,hp.output⟩
 ·have hi1:=Y6 i hi;have JU:=(liveH' i o hi1 ho hl).1;by_cases h:n<i\/i∈W/\i<n
  ·obtain⟨o',h1,h2,h4⟩:=(obj i o hi1 h ho).2 hl;obtain⟨im,QK,ZU⟩:=hp.ok.rel (ρ i) o' (hS' i hi1 JU) h1 h2;exact⟨im,by rw[hmuR i hi1 JU];exact QK,h4 im QK ZU⟩
  ·have h1:i<n:=by omega
   have h2:i ∉ W:=fun e=>h (.inr ⟨e,h1⟩)
   rw[k.Xs i h1 h2]at ho;obtain⟨im,QK,ZU⟩:=QE.rel i o h1 ho hl;exact⟨im,hext _ _ QK,ZU.keep hext (other i o im h1 h2 ho hl QK)⟩
 ·have hi1:=Y6 i hi;obtain⟨JU,o',h1,h2⟩:=liveH' i o hi1 ho hl;rw[hmuR i hi1 JU]at QK;exact hp.ok.low (ρ i) o' im (hS' i hi1 JU) h1 h2 QK
 ·have hi1:=Y6 i hi;have hj1:=Y6 j hj;obtain⟨hni,o1,h1,h2⟩:=liveH' i oi hi1 Wc hli;obtain⟨hnj,o2,h3,h4⟩:=liveH' j oj hj1 Wb Ud;rw[hmuR i hi1 hni]at ha;rw[hmuR j hj1 hnj]at hb;exact hp.ok.inj (ρ i) (ρ j) o1 o2 a b (hS' i hi1 hni) (hS' j hj1 hnj) (fun e=>TS (hinj i j hi1 hj1 hni hnj e)) h1 h3 h2 h4 ha hb hra Ym
 ·rcases regH1 i o (Y6 i hi) ho hr with Rw|⟨h1,h2,h3,h4⟩
  ·rw[Rw];exact⟨_,hmid,fun b x h=>Vo h⟩
  ·obtain⟨im,QK,hf'⟩:=hp.ok.P1 i o (.inl h1) h4 hr;rw[hp.ext i (by omega)]at QK;exact⟨im,hext _ _ QK,hf'⟩
 ·have hj1:=Y6 j hj;obtain⟨hnj,o2,h3,h4⟩:=liveH' j oj hj1 Wb Ud;rw[hmuR j hj1 hnj]at hb;rcases regH1 i oi (Y6 i hi) Wc Pa with Rw|⟨h1,h2,h5,h6⟩
  ·rw[Rw,hmid]at ha;cases ha;obtain⟨_,Yb⟩:=fmCase _ _ hx;rcases Yb with ⟨r,o,im,Xp,ho,hr,QK,hfx⟩|⟨q,o,im,hq,ho,hl,QK,hbb⟩
   ·exact hp.ok.sep r (ρ j) o o2 im b x (hin' r Xp) (hS' j hj1 hnj) ho h3 hr h4 QK hb Ym hfx
   ·obtain⟨q1,q2,_,q3⟩:=k.fz q hq;have JU:q≠ρ j:=by
     intro e;rcases LK j n with h|h
     ·rw[k.id j h]at e;omega
     ·exact q3 j (by omega) hj1 e.symm
    have Ry:=(hp.fresh q im o q1 q2 ho hl QK).1;exact hp.ok.inj q (ρ j) o o2 im b (hin' q q2) (hS' j hj1 hnj) JU ho h3 hl h4 QK hb Ry Ym hbb
  ·rw[hlow i h1]at ha;exact hp.ok.sep i (ρ j) oi o2 a b x (.inl h1) (hS' j hj1 hnj) h6 h3 Pa h4 (by rw[hp.ext i (by omega)];exact ha) hb Ym hx
 ·rw[<-hM];unfold j4;rw[if_neg (by omega),if_neg (by omega)]
 ·obtain⟨JU,o',h3,h4⟩:=liveH' i o h2 ho hl;rw[hmuR i h2 JU]at QK;obtain⟨a,b⟩:=k.rng i (by omega) h2;obtain⟨hr,XF⟩:=hp.fresh (ρ i) im o' a b h3 h4 QK;exact⟨hr,XF.imp id fun⟨q,hq,hqn,hb,hd⟩=>⟨q,hq,hqn,hb,deadW q hq hqn hd⟩⟩
 ·have hi1:i<n1:=by omega
  rcases regH1 i o hi1 ho hr with Rw|⟨h1,h2,_⟩
  ·rw[Rw,hmid]at QK;cases QK;obtain⟨_,Yb⟩:=fmCase _ _ hx;rcases Yb with ⟨r,o,im,Xp,ho,hr,QK,hfx⟩|⟨q,o,im,hq,ho,hl,QK,hbb⟩
   ·by_cases hx:n<=r/\r<n'\/r∈W/\r<n
    ·rcases hp.rf r im o hx ho hr QK b x hfx with c|c|⟨q,hq,hqn,hb,hd⟩
     ·exact .inl c
     ·exact .inr (.inl c)
     ·exact .inr (.inr ⟨q,hq,hqn,hb,deadW q hq hqn hd⟩)
    ·have h:r<n:=by omega
     rw[hp.keep r h fun e=>hx (.inr ⟨e,h⟩)]at ho;rw[hp.ext r (by omega)]at QK;exact .inr (.inl ⟨r,im,o,h,h,ho,hr,QK,hfx⟩)
   ·obtain⟨q1,q2,_,_⟩:=k.fz q hq;rcases(hp.fresh q im o q1 q2 ho hl QK).2 with c|⟨q',hq',hqn,⟨Z9,QS,hb'⟩,hd⟩
    ·exact .inl (by omega)
    ·exact .inr (.inr ⟨q',hq',hqn,⟨Z9,QS,by omega⟩,deadW q' hq' hqn hd⟩)
  ·rcases hi with hi|hi
   ·omega
   ·exact absurd hi.1 h2
end Go.CE

namespace Go.CE
open Go Go.RowKit

section
variable (H:Qt) (m:Nat) (pos:Nat->Option Nat) (fz:List Fz)
def Na(v:Value):Option (Value×List Prop):=bif simple v then some (v,[])else match v with
 | .func (.via r ⟨[]⟩ 0 true) ⟨[t]⟩ ⟨[]⟩=>bif X2 (Qw H r) && WI t then some (Q2 ((pos r).getD m) t,[])else none
 | .pointer (some ⟨k,o,none⟩)=>match pos k with
   |some j=>some (.pointer (some ⟨j,o,none⟩),[])
   |none=>match iP fz k,Qw H k with
    |some x,some (.cells cs _ (0,0))=>bif x.rs.all fun r=>X2 (Qw H r)then some (Q2 m (SK o x.cs),[X4 x.rs cs x.cs])else none
    |_,_=>some (.chan none,[])
 | .slice (some ⟨k,o,none⟩) n z=>match pos k with
   |some j=>some (.slice (some ⟨j,o,none⟩) n z,[])
   |none=>match o,iP fz k,Qw H k with
    |0,some x,some (.cells cs _ (0,0))=>bif x.rs.all fun r=>X2 (Qw H r)then some (Q2 m (QH n x.cs),[X4 x.rs cs x.cs])else none
    |_,_,_=>some (.chan none,[])
 | .map (some r)=>match pos r with
   |some j=>some (.map (some j),[])
   |none=>some (.chan none,[])
 | .func (.yield l) ⟨[]⟩ ⟨[]⟩=>match pos l with
   |some j=>some (.func (.yield j) #[] #[],[])
   |none=>some (.chan none,[])
 | .chan none=>some (.chan none,[])
 |_=>none
def sm(f:Value->Option (Value×List Prop)):List Value->Option (List Value×List Prop)
 |[]=>some ([],[])
 |v::l=>match f v with
  |some (t,L)=>match sm f l with
   |some (ts,L2)=>some (t::ts,L++L2)
   |none=>none
  |none=>none
def xQ:Nat->Value->Option (Value×List Prop)
 |0,v=>Na H m pos fz v
 |f+1,v=>match v with
  | .agg xs=>match sm (xQ f) xs.toList with
    |some (l,L)=>some (.agg l.toArray,L)
    |none=>none
  | .tuple xs=>match sm (xQ f) xs.toList with
    |some (l,L)=>some (.tuple l.toArray,L)
    |none=>none
  | .iface t x=>match xQ f x with
    |some (x,L)=>some (.iface t x,L)
    |none=>none
  | .func (.func g) xs ys=>match sm (xQ f) xs.toList with
    |some (l,L)=>match sm (xQ f) ys.toList with
     |some (k,L2)=>some (.func (.func g) l.toArray k.toArray,L++L2)
     |none=>none
    |none=>none
  |v=>Na H m pos fz v
def OS(rs:List Nat)(v v1:Value):Prop:=(simple v=true/\v1=v)\/∃r∈rs,∃t,v=Q2 r t/\v1=Q2 m t/\WI t=true
def Qv(rs:List Nat)(cs cs1:Array Value):Prop:=cs.size=cs1.size/\∀(i:Nat) v v1,cs[i]? =some v->cs1[i]? =some v1->OS m rs v v1
end
theorem c6{m:Nat}{rs:List Nat}{cs:Array Value}(h:∀v∈cs,simple v=true):Qv m rs cs cs:=⟨rfl,fun i v v1 h1 h2=>by
 rw[h1]at h2;cases h2;exact .inl ⟨h v (LN h1),rfl⟩⟩
inductive ja (m:Nat) (rs:List (Nat×Nat)) (Y1:List (Nat×Array Value)) (ow:List (Nat×Nat)):Value->Value->Prop
 |simple {v}:CE.simple v=true->ja m rs Y1 ow v v
 |P1 {r j t}:(r,j)∈rs->WI t=true->ja m rs Y1 ow (Q2 r t) (Q2 j t)
 |own {k cs n c}:(k,cs)∈Y1->ja m rs Y1 ow (.slice (some ⟨k,0,none⟩) n c) (Q2 m (QH n cs))
 |nil:ja m rs Y1 ow (.slice none 0 0) (Q2 m (QH 0 #[]))
 |keep {k j n c}:(k,j)∈ow->ja m rs Y1 ow (.slice (some ⟨k,0,none⟩) n c) (.slice (some ⟨j,0,none⟩) n c)
def AllX(m:Nat)(rs:List (Nat×Nat))(Y1:List (Nat×Array Value))(ow:List (Nat×Nat)):List Value->List Value->Prop
 |[],[]=>True
 |v::l,u::k=>ja m rs Y1 ow v u/\AllX m rs Y1 ow l k
 |_,_=>False
def QX(m:Nat)(rs:List (Nat×Nat))(Y1:List (Nat×Array Value))(ow:List (Nat×Nat))(cs cs1:Array Value):Prop:=AllX m rs Y1 ow cs.toList cs1.toList
theorem AllX.get{m:Nat}{rs:List (Nat×Nat)}{Y1:List (Nat×Array Value)}{ow:List (Nat×Nat)}:∀{l k:List Value},AllX m rs Y1 ow l k->k.length=l.length/\∀(i:Nat) v u,l[i]? =some v->k[i]? =some u->ja m rs Y1 ow v u
 |[],[],_=>⟨rfl,fun i v u h=>by simp at h⟩
 |v::l,u::k,h=>by
  obtain⟨a,b⟩:=AllX.get h.2;refine⟨by simp[a],fun i x y hx hy=> ?_⟩;cases i with
  |zero=>
   simp only[Lu,YO]at hx hy;subst hx hy;exact h.1
  |succ i=>exact b i x y (by simpa using hx) (by simpa using hy)
 |[],_::_,h=>h.elim
 |_::_,[],h=>h.elim
theorem AllX.append{m:Nat}{rs:List (Nat×Nat)}{Y1:List (Nat×Array Value)}{ow:List (Nat×Nat)}:∀{l k l2 k2:List Value},AllX m rs Y1 ow l k->AllX m rs Y1 ow l2 k2->AllX m rs Y1 ow (l++l2) (k++k2)
 |[],[],_,_,_,h2=>h2
 |_::_,_::_,_,_,h,h2=>⟨h.1,AllX.append h.2 h2⟩
 |[],_::_,_,_,h,_=>h.elim
 |_::_,[],_,_,h,_=>h.elim
section
variable {B:Nat} {S:Nat->Prop} {H:Qt} {m:Nat} {pos:Nat->Option Nat} {fz:List Fz} {μ μ1:Mu} {w:World} {n':Nat} {fk:List Nat} {im1:c7}
structure yb (H:Qt) (m:Nat) (pos:Nat->Option Nat) (fz:List Fz) (μ μ1:Mu) (w:World) (n':Nat) (fk:List Nat) (im1:c7):Prop where
 ok:∃B S,Ok B S μ (Qw H) w/\∀i,i<n'->S i
 under:Under H n'
 here:∀k j,pos k=some j->μ1 j=μ k
 P1:μ1 m=some im1
 fm:im1.fm=Y7 μ H w (Pb H n'++fk)
 sub:∀x∈fz,x.k∈fk
theorem gO:∀(l:List Fz) (k:Nat) (x:Fz),iP l k=some x->x∈l/\x.k=k
 |[],k,x,h=>by cases h
 |y::l,k,x,h=>by
  simp only[iP]at h;cases e:Lf y.k k with
  |true=>
   rw[e]at h;simp only[cond_true,YO]at h;subst h;exact⟨by simp,YE e⟩
  |false=>
   rw[e]at h;obtain⟨h1,h2⟩:=gO l k x h;exact⟨Lt _ h1,h2⟩
theorem DP(hu:Under H n'){r:Nat}(h:X2 (Qw H r)=true):r<n':=by
 obtain⟨o,ho,_⟩:=ZG h;exact hu.lt ho
theorem gh(c:yb H m pos fz μ μ1 w n' fk im1){r:Nat}(hr:X2 (Qw H r)=true){im:c7}(QK:μ r=some im){b:Nat}{x:Obj}(hx:im.fm b=some x):im1.fm b=some x:=by
 obtain⟨B,S,QE,hS⟩:=c.ok;rw[c.fm];have Xp:=DP c.under hr;exact jQ QE (Ln _ (oT.2 ⟨Xp,hr⟩)) (hS r Xp) hr QK hx
theorem iS(c:yb H m pos fz μ μ1 w n' fk im1){rs:List Nat}(WJ:(rs.all fun r=>X2 (Qw H r))=true){v v1 v':Value}(h:o9 rs v v1)(hv:VR μ v v'):TRv im1.fm v1 v':=by
 rcases h with ⟨h1,rfl⟩|⟨r,hr,rfl,_⟩
 ·rw[simple_eq h1 hv];exact .simple h1
 ·obtain⟨im,QK,ht⟩:=hv.top_inv;exact ht.mono fun b x hx=>gh c (List.all_eq_true.1 WJ r hr) QK hx
theorem Td(c:yb H m pos fz μ μ1 w n' fk im1){v v' t:Value}{L:List Prop}(h:Na H m pos fz v=some (t,L))(hL:Q3 L)(hv:VR μ v v'):VR μ1 t v':=by
 obtain⟨B,S,QE,hS⟩:=c.ok;have addr:∀{k j o:Nat} {a':Addr},pos k=some j->AR μ ⟨k,o,none⟩ a'->AR μ1 ⟨j,o,none⟩ a':=by
  rintro k j o a' hp ⟨im,h1,h2,h3⟩;exact⟨im,by rw[c.here k j hp];exact h1,rfl,h3⟩
 unfold Na at h;cases hs:simple v with
 |true=>
  rw[hs]at h;simp only[cond_true,YO,YR]at h;obtain⟨rfl,rfl⟩:=h;rw[simple_eq hs hv];exact ZO hs
 |false=>
  rw[hs]at h;simp only[cond_false]at h;split at h
  ·rename_i r t0;cases hg:(X2 (Qw H r) && WI t0)with
   |false=>rw[hg]at h;cases h
   |true=>
    rw[hg]at h;simp only[cond_true,YO,YR]at h;obtain⟨rfl,rfl⟩:=h;simp only[YB]at hg;obtain⟨im,QK,ht⟩:=VR.top_inv (r:=r) (t:=t0) hv;cases hp:pos r with
    |none=>exact .top hg.2 c.P1 (ht.mono fun b x hx=>gh c hg.1 QK hx)
    |some j=>exact .top hg.2 (by rw[Option.getD_some,c.here r j hp];exact QK) ht
  ·rename_i k o;split at h
   ·rename_i j hj;simp only[YO,YR]at h;obtain⟨rfl,rfl⟩:=h;cases hv with
    |ptr har=>exact .ptr (addr hj har)
   ·split at h
    ·rename_i x cs ty hx hg;cases hr:(x.rs.all fun r=>X2 (Qw H r))with
     |false=>rw[hr]at h;cases h
     |true=>
      rw[hr]at h;simp only[cond_true,YO,YR]at h;obtain⟨rfl,rfl⟩:=h;obtain⟨⟨h2,h3⟩,_⟩:=hL;obtain⟨hxm,hxk⟩:=gO _ _ _ hx;have hkf:k∈fk:=hxk ▸ c.sub x hxm;obtain⟨im,arr,QK,_,hoff,harr,hle,_,hcells⟩:=bX QE (hS k (c.under.lt hg)) hg;cases hv with
      |ptr har=>
       obtain⟨im2,WS,_,rfl⟩:=har;rw[QK]at WS;cases WS;rw[hoff];refine .top rfl c.P1 (TRv.ptr (o:=0) (by rw[c.fm];exact(jR (Lw _ hkf) hg trivial QK).trans harr) (fun i hi=>by omega) fun i v v' hv ZQ=> ?_);simp only[LD]at ZQ;have hi:i<cs.size:=by rw[h2];exact(Array.getElem?_eq_some_iff.1 hv).1
       obtain⟨u,hu1,hu2⟩:=hcells i cs[i] (by simp[hi]);rw[ZQ]at hu1;cases hu1;exact iS c hr (h3 i _ _ (by simp[hi]) hv) hu2
    ·simp only[YO,YR]at h;obtain⟨rfl,rfl⟩:=h;cases hv;exact .Yz (fun b e=>by cases e) rfl rfl
  ·rename_i k o n z;split at h
   ·rename_i j hj;simp only[YO,YR]at h;obtain⟨rfl,rfl⟩:=h;cases hv with
    |slice har a b d=>
     refine .slice (addr hj har) a b fun hz im QK Ry hoff=>d hz im ?_ Ry hoff
     rw[<-c.here k j hj];exact QK
   ·split at h
    ·rename_i x cs ty hx hg;cases hr:(x.rs.all fun r=>X2 (Qw H r))with
     |false=>rw[hr]at h;cases h
     |true=>
      rw[hr]at h;simp only[cond_true,YO,YR]at h;obtain⟨rfl,rfl⟩:=h;obtain⟨⟨h2,h3⟩,_⟩:=hL;obtain⟨hxm,hxk⟩:=gO _ _ _ hx;have hkf:k∈fk:=hxk ▸ c.sub x hxm;obtain⟨im,arr,QK,_,hoff,harr,hle,_,hcells⟩:=bX QE (hS k (c.under.lt hg)) hg;cases hv with
      |slice har a b _=>
       obtain⟨im2,WS,_,rfl⟩:=har;rw[QK]at WS;cases WS;rw[hoff];refine .top rfl c.P1 (TRv.slice (o:=0) a b (by rw[c.fm];exact(jR (Lw _ hkf) hg trivial QK).trans harr) (fun i hi=>by omega) fun i v v' hv ZQ=> ?_);simp only[LD]at ZQ;have hi:i<cs.size:=by rw[h2];exact(Array.getElem?_eq_some_iff.1 hv).1
       obtain⟨u,hu1,hu2⟩:=hcells i cs[i] (by simp[hi]);rw[ZQ]at hu1;cases hu1;exact iS c hr (h3 i _ _ (by simp[hi]) hv) hu2
    ·simp only[YO,YR]at h;obtain⟨rfl,rfl⟩:=h;cases hv;exact .Yz (fun b e=>by cases e) rfl rfl
  ·rename_i r;split at h
   ·rename_i j hj;simp only[YO,YR]at h;obtain⟨rfl,rfl⟩:=h;cases hv with
    |map hr=>exact .map (by rw[c.here r j hj];exact hr)
   ·simp only[YO,YR]at h;obtain⟨rfl,rfl⟩:=h;cases hv;exact .Yz (fun b e=>by cases e) rfl rfl
  ·rename_i l;split at h
   ·rename_i j hj;simp only[YO,YR]at h;obtain⟨rfl,rfl⟩:=h;cases hv with
    |yield hl=>exact .yield (by rw[c.here l j hj];exact hl)
   ·simp only[YO,YR]at h;obtain⟨rfl,rfl⟩:=h;cases hv;exact .Yz (fun b e=>by cases e) rfl rfl
  ·simp only[YO,YR]at h;obtain⟨rfl,rfl⟩:=h;cases hv with
   |Yz a b c=>exact .Yz a b c
  ·cases h
theorem gT{f:Value->Option (Value×List Prop)}(hf:∀v v' t L,f v=some (t,L)->Q3 L->VR μ v v'->VR μ1 t v'):∀(l ts:List Value) (L:List Prop) (l':List Value),sm f l=some (ts,L)->Q3 L->l.length=l'.length->(∀(i:Nat) v v',l[i]? =some v->l'[i]? =some v'->VR μ v v')->
 ts.length=l'.length/\∀(i:Nat) v v',ts[i]? =some v->l'[i]? =some v'->VR μ1 v v'
 |[],ts,L,l',h,hL,hl,hv=>by
  simp only[sm,YO,YR]at h;obtain⟨rfl,rfl⟩:=h;exact⟨hl,fun i v v' h=>by simp at h⟩
 |v::l,ts,L,[],h,hL,hl,hv=>by simp at hl
 |v::l,ts,L,v'::l',h,hL,hl,hv=>by
  simp only[sm]at h;split at h
  ·rename_i t L1 h1;split at h
   ·rename_i ts2 L2 h2;simp only[YO,YR]at h;obtain⟨rfl,rfl⟩:=h;obtain⟨a,b⟩:=X5 hL;have k1:=hf v v' t L1 h1 a (hv 0 v v' rfl rfl);obtain⟨k2,k3⟩:=gT hf l ts2 L2 l' h2 b (by simpa using hl) fun i u u' x y=>hv (i+1) u u' (by simpa using x) (by simpa using y)
    refine⟨by simp[k2],fun i u u' x y=> ?_⟩;cases i with
    |zero=>
     simp only[Lu,YO]at x y;subst x y;exact k1
    |succ i=>exact k3 i u u' (by simpa using x) (by simpa using y)
   ·cases h
  ·cases h
theorem Yd(c:yb H m pos fz μ μ1 w n' fk im1):∀(f:Nat) (v v' t:Value) (L:List Prop),xQ H m pos fz f v=some (t,L)->Q3 L->VR μ v v'->VR μ1 t v'
 |0,v,v',t,L,h,hL,hv=>Td c h hL hv
 |f+1,v,v',t,L,h,hL,hv=>by
  have arr:∀{xs xs':Array Value} {l:List Value} {L:List Prop},sm (xQ H m pos fz f) xs.toList=some (l,L)->Q3 L->xs.size=xs'.size->(∀(i:Nat) v v',xs[i]? =some v->xs'[i]? =some v'->VR μ v v')->l.toArray.size=xs'.size/\∀(i:Nat) v v',l.toArray[i]? =some v->xs'[i]? =some v'->VR μ1 v v':=by
   intro xs xs' l L h hL hs hx;obtain⟨a,b⟩:=gT (fun v v' t L=>Yd c f v v' t L) xs.toList l L xs'.toList h hL (by simpa using hs) fun i v v' x y=>hx i v v' (by simpa using x) (by simpa using y)
   exact⟨by simpa using a,fun i v v' x y=>b i v v' (by simpa using x) (by simpa using y)⟩
  cases v with
  |agg xs=>
   simp only[xQ]at h;split at h
   ·rename_i l L1 hl;simp only[YO,YR]at h;obtain⟨rfl,rfl⟩:=h;cases hv with
    |agg h1 h2=>exact .agg (arr hl hL h1 h2).1 (arr hl hL h1 h2).2
   ·cases h
  |tuple xs=>
   simp only[xQ]at h;split at h
   ·rename_i l L1 hl;simp only[YO,YR]at h;obtain⟨rfl,rfl⟩:=h;cases hv with
    |tuple h1 h2=>exact .tuple (arr hl hL h1 h2).1 (arr hl hL h1 h2).2
   ·cases h
  |iface ty x=>
   simp only[xQ]at h;split at h
   ·rename_i l L1 hl;simp only[YO,YR]at h;obtain⟨rfl,rfl⟩:=h;cases hv with
    |iface hv=>exact .iface (Yd c f _ _ _ _ hl hL hv)
   ·cases h
  |func fn xs ys=>
   cases fn with
   |func g=>
    simp only[xQ]at h;split at h
    ·rename_i l L1 hl;split at h
     ·rename_i k L2 hk;simp only[YO,YR]at h;obtain⟨rfl,rfl⟩:=h;obtain⟨a,b⟩:=X5 hL;cases hv with
      |func h1 h2 h3 h4=>
       have k1:=arr hl a h1 h3;have k2:=arr hk b h2 h4;exact .func k1.1 k2.1 k1.2 k2.2
     ·cases h
    ·cases h
   |_=>exact Td (fz:=fz) c (by exact h) hL hv
  |_=>exact Td (fz:=fz) c (by exact h) hL hv
end
inductive KS where
 |auto
 |cells (rs:List Nat) (cs:Array Value)
 |same
 |dead
 |rows (rs:List (Nat×Nat)) (ks:List Nat) (ow:List (Nat×Nat)) (cs:Array Value)
def Hi(pos:Nat->Option Nat)(p:Nat×Nat):Bool:=match pos p.1 with
 |some j=>Lf j p.2
 |none=>false
def HH(H:Qt)(pos:Nat->Option Nat)(fz:List Fz):List Nat->Option (List (Nat×Array Value)×List Prop)
 |[]=>some ([],[])
 |k::l=>match pos k,iP fz k,Qw H k with
  |none,some x,some (.cells cs _ (0,0))=>bif x.rs.all fun r=>X2 (Qw H r)then match HH H pos fz l with
   |some (Y1,L)=>some ((k,x.cs)::Y1,X4 x.rs cs x.cs::L)
   |none=>none
    else none
  |_,_,_=>none
theorem xR{H:Qt}{m:Nat}{pos:Nat->Option Nat}{fz:List Fz}:∀(ks:List Nat) (Y1:List (Nat×Array Value)) (L:List Prop),HH H pos fz ks=some (Y1,L)->Q3 L->∀k cs n c,(k,cs)∈Y1->∃L',Na H m pos fz (.slice (some ⟨k,0,none⟩) n c)=some (Q2 m (QH n cs),L')/\Q3 L'
 |[],Y1,L,h,hL,k,cs,n,c,hm=>by
  simp only[HH,YO,YR]at h;obtain⟨rfl,rfl⟩:=h;simp at hm
 |k0::l,Y1,L,h,hL,k,cs,n,c,hm=>by
  simp only[HH]at h;split at h
  ·rename_i x cs0 t0 h1 h2 h3;cases hr:(x.rs.all fun r=>X2 (Qw H r))with
   |false=>rw[hr]at h;cases h
   |true=>
    rw[hr]at h;simp only[cond_true]at h;split at h
    ·rename_i frs2 L2 h4;simp only[YO,YR]at h;obtain⟨rfl,rfl⟩:=h;rcases List.mem_cons.1 hm with e|e
     ·simp only[YR]at e;obtain⟨rfl,rfl⟩:=e;refine⟨[X4 x.rs cs0 x.cs], ?_,hL.1,trivial⟩;unfold Na;have hs:simple (.slice (some ⟨k,0,none⟩) n c)=false:=rfl;rw[hs];simp only[cond_false,h1,h2,h3,hr,cond_true]
     ·exact xR l frs2 L2 h4 hL.2 k cs n c e
    ·cases h
  ·cases h
def Ol(H:Qt)(m:Nat)(pos:Nat->Option Nat)(fz:List Fz):Option Obj->KS->Option (Obj×List Prop)
 |some (.cells cs t fl),.auto=>match sm (xQ H m pos fz 3) cs.toList with
  |some (l,L)=>some (.cells l.toArray t fl,L)
  |none=>none
 |some (.cells cs t fl),.cells rs cs1=>bif rs.all fun r=>X2 (Qw H r)then some (.cells cs1 t fl,[Qv m rs cs cs1])else none
 |some (.cells cs t fl),.rows rs ks ow cs1=>bif (rs.all fun p=>X2 (Qw H p.1) && Lf ((pos p.1).getD m) p.2) && ow.all (Hi pos)then match HH H pos fz ks with
  |some (Y1,L)=>some (.cells cs1 t fl,QX m rs Y1 ow cs cs1::L)
  |none=>none
   else none
 |some (.map es RZ),.same=>some (.map es RZ,[u9 es])
 |some (.loop r),.auto=>match sm (xQ H m pos fz 3) r.tmps.toList with
  |some (l,L)=>some (.loop {r with tmps:=l.toArray},L)
  |none=>none
 |some (.deferred ds),.same=>some (.deferred ds,[])
 |some (.pending _ _),.dead=>some (.pending #[] 0,[])
 |_,_=>none
theorem Te{H:Qt}{m:Nat}{pos:Nat->Option Nat}{fz:List Fz}{μ μ1:Mu}{w:World}{n':Nat}{fk:List Nat}{im1:c7}(c:yb H m pos fz μ μ1 w n' fk im1){o:Option Obj}{s:KS}{o1:Obj}{L:List Prop}(h:Ol H m pos fz o s=some (o1,L))(hL:Q3 L):
 (∃x,o=some x)/\¬Wa o1/\(live o1->∃x,o=some x/\live x/\∀im,OR μ w im x->OR μ1 w im o1):=by
 have cells:∀{cs cs1:Array Value} {t:TypeId} {fl:Nat×Nat},cs1.size=cs.size->(∀(i:Nat) v v1 v',cs[i]? =some v->cs1[i]? =some v1->VR μ v v'->VR μ1 v1 v')->∀im,OR μ w im (.cells cs t fl)->OR μ1 w im (.cells cs1 t fl):=by
  intro cs cs1 t fl hs hc im ZU;have get:∀(i:Nat) v1,cs1[i]? =some v1->∃v,cs[i]? =some v:=fun i v1 h=>by
   have:=(Array.getElem?_eq_some_iff.1 h).1;exact⟨cs[i],by simp[show i<cs.size by omega]⟩
  rcases ZU with ⟨h1,h2,h3,arr,h4,h5,h6,h7⟩|⟨h1,h2⟩
  ·refine .inl ⟨h1,h2,h3,arr,h4,by omega,h6,fun i v1 hv1=> ?_⟩;obtain⟨v,hv⟩:=get i v1 hv1;obtain⟨v',a,b⟩:=h7 i v hv;exact⟨v',a,hc i v v1 v' hv hv1 b⟩
  ·refine .inr ⟨h1,fun i v1 hv1=> ?_⟩;obtain⟨v,hv⟩:=get i v1 hv1;obtain⟨v',a,b⟩:=h2 i v hv;exact⟨v',a,hc i v v1 v' hv hv1 b⟩
 unfold Ol at h;split at h
 ·rename_i cs t fl;split at h
  ·rename_i l L1 hl;simp only[YO,YR]at h;obtain⟨rfl,rfl⟩:=h;have key:∀(l ts:List Value) (L:List Prop),sm (xQ H m pos fz 3) l=some (ts,L)->Q3 L->ts.length=l.length/\∀(i:Nat) v v1 v',l[i]? =some v->ts[i]? =some v1->VR μ v v'->VR μ1 v1 v':=by
    intro l;induction l with
    |nil=>
     intro ts L h hL;simp only[sm,YO,YR]at h;obtain⟨rfl,rfl⟩:=h;exact⟨rfl,fun i v v1 v' h=>by simp at h⟩
    |cons v l ih=>
     intro ts L h hL;simp only[sm]at h;split at h
     ·rename_i t L1 h1;split at h
      ·rename_i ts2 L2 h2;simp only[YO,YR]at h;obtain⟨rfl,rfl⟩:=h;obtain⟨a,b⟩:=X5 hL;obtain⟨k1,k2⟩:=ih ts2 L2 h2 b;refine⟨by simp[k1],fun i u u1 u' x y hr=> ?_⟩;cases i with
       |zero=>
        simp only[Lu,YO]at x y;subst x y;exact Yd c 3 _ _ _ _ h1 a hr
       |succ i=>exact k2 i u u1 u' (by simpa using x) (by simpa using y) hr
      ·cases h
     ·cases h
   obtain⟨k1,k2⟩:=key _ _ _ hl hL;refine⟨⟨_,rfl⟩,id,fun _=> ?_⟩;exact⟨_,rfl,trivial,cells (by simpa using k1) fun i v v1 v' x y=>k2 i v v1 v' (by simpa using x) (by simpa using y)⟩
  ·cases h
 ·rename_i cs t fl rs cs1;cases hr:(rs.all fun r=>X2 (Qw H r))with
  |false=>rw[hr]at h;cases h
  |true=>
   rw[hr]at h;simp only[cond_true,YO,YR]at h;obtain⟨rfl,rfl⟩:=h;obtain⟨⟨h1,h2⟩,_⟩:=hL;refine⟨⟨_,rfl⟩,id,fun _=> ?_⟩;refine⟨_,rfl,trivial,cells h1.symm fun i v v1 v' x y hv=> ?_⟩;rcases h2 i v v1 x y with ⟨hs,rfl⟩|⟨r,hrm,t,rfl,rfl,ht⟩
   ·rw[simple_eq hs hv];exact ZO hs
   ·obtain⟨im,QK,htr⟩:=hv.top_inv;exact .top ht c.P1 (htr.mono fun b x hx=>gh c (List.all_eq_true.1 hr r hrm) QK hx)
 ·rename_i cs t fl rs ks ow cs1;cases hr0:((rs.all fun p=>X2 (Qw H p.1) && Lf ((pos p.1).getD m) p.2) && ow.all (Hi pos))with
  |false=>rw[hr0]at h;cases h
  |true=>
   rw[hr0]at h;simp only[cond_true]at h;simp only[YB]at hr0;obtain⟨hr,how⟩:=hr0;split at h
   ·rename_i Y1 L2 hks;simp only[YO,YR]at h;obtain⟨rfl,rfl⟩:=h;obtain⟨hx,hL2⟩:=hL;obtain⟨h1,h2⟩:=AllX.get hx;refine⟨⟨_,rfl⟩,id,fun _=> ?_⟩;refine⟨_,rfl,trivial,cells (by simpa using h1) fun i v v1 v' x y hv=> ?_⟩;have hc:=h2 i v v1 (by simpa using x) (by simpa using y);cases hc with
    |simple hs=>rw[simple_eq hs hv];exact ZO hs
    |P1 hm ht=>
     rename_i r j t0;have:=List.all_eq_true.1 hr _ hm;simp only[YB]at this;have e:Na H m pos fz (Q2 r t0)=some (Q2 j t0,[]):=by
      have hs:simple (Q2 r t0)=false:=rfl;unfold Na;rw[hs];simp only[cond_false,Q2,this.1,ht,Bool.and_self,cond_true,YE this.2]
     exact Td c e trivial hv
    |own hm=>
     obtain⟨L',e,hL'⟩:=xR ks Y1 L2 hks hL2 _ _ _ _ hm;exact Td c e hL' hv
    |nil=>
     cases hv;exact .top rfl c.P1 .nil
    |keep hm=>
     have hk:=List.all_eq_true.1 how _ hm;unfold Hi at hk;split at hk
     ·rename_i j0 hj0;have hk:=YE hk;have e:=c.here _ _ hj0;rw[hk]at e;cases hv with
      |slice har h1 h2 h3=>
       obtain⟨im,hi,_,rfl⟩:=har;refine .slice ⟨im,e.trans hi,rfl,rfl⟩ h1 h2 fun hs Z9 QS=> ?_
       rw[e]at QS;exact h3 hs Z9 QS
     ·cases hk
   ·cases h
 ·rename_i es RZ;simp only[YO,YR]at h;obtain⟨rfl,rfl⟩:=h;obtain⟨hp,_⟩:=hL;refine⟨⟨_,rfl⟩,id,fun _=> ?_⟩;refine⟨_,rfl,trivial,fun im ZU=> ?_⟩;obtain⟨h1,KA,h2,h3,h4⟩:=ZU;refine⟨h1,KA,h2,h3,fun i e e' x y=> ?_⟩;obtain⟨p,q,r,s⟩:=h4 i e e' x y;have hs:=hp i e x;exact⟨p,q,r,by rw[Tj hs s];exact PC hs⟩
 ·rename_i r;split at h
  ·rename_i l L1 hl;simp only[YO,YR]at h;obtain⟨rfl,rfl⟩:=h;refine⟨⟨_,rfl⟩,id,fun _=> ?_⟩;refine⟨_,rfl,trivial,fun im ZU=> ?_⟩;obtain⟨h1,tm,df,h2,h3⟩:=ZU;obtain⟨a,b⟩:=gT (fun v v' t L=>Yd c 3 v v' t L) r.tmps.toList l L1 tm.toList hl hL (by simpa using h3.1) fun i v v' x y=>h3.2 i v v' (by simpa using x) (by simpa using y)
   exact⟨h1,tm,df,h2,by simpa using a,fun i v v' x y=>b i v v' (by simpa using x) (by simpa using y)⟩
  ·cases h
 ·rename_i ds;simp only[YO,YR]at h;obtain⟨rfl,rfl⟩:=h;exact⟨⟨_,rfl⟩,id,fun _=>⟨_,rfl,trivial,fun im ZU=>ZU⟩⟩
 ·simp only[YO,YR]at h;obtain⟨rfl,rfl⟩:=h;exact⟨⟨_,rfl⟩,id,fun hl=>hl.elim⟩
 ·cases h
end Go.CE
