import Derived.Test.YtncjjangllkokaaZRV08
set_option linter.all false
open Nat renaming beq->Of,blt->On,min->OU,ble->ON,le_refl->OE,zero_add->Oz,lt_or_ge->OG
open Array renaming getElem?_extract->OY,mem_of_getElem? ->OK,getElem?_toList->Om
open Option renaming map_some->OF
open List renaming length->Oc,getElem?_append_right->Og,range'->OH,mem_append_left->Oh,mem_append_right->Ov,range->Oe,getElem?_cons_zero->Oq,mem_cons_of_mem->Ot
namespace Go.CE
open Go Go.RowKit

inductive Qk where
 |Za (h:Hint)
 |tidx (k:Nat) (es:Array Value)
 |tarr (k:Nat) (es:Array Value)
 |tslc (k m':Nat) (cs':Array Value)
 |tapp (cs':Array Value)
 |tapp0
 |tcpy (cs':Array Value)
 |pure (out:Value) (fz:List Fz)
 |pureK (out:Value) (fz:List Fz)
 |bin (v:Value)
 |call (keys:List Nat) (out:OO) (Ys:Qy) (n':Nat) (W:List Nat)
 |eval (s:Rs)
 |wri (κ R:List Nat) (ps qs:List Bool) (out:OO) (outs news:List Obj)
 |tnil
 |wriC (κ R:List Nat) (ps qs:List Bool) (out:OO) (outs news:List Obj) (o2:OO)
def killL(H:Qy):List Nat->Qy
 |[]=>H
 |k::K=>TA (killL H K) (some k)
def aN:Option Obj->Bool
 |some (.cells _ _ (0,0))=>true
 |_=>false
def y8(P:Program)(T:Tm)(o:Oper):Option (Value×Nat):=match o.op with
 | .call c=>match c.callee with
   | .builtin .len=>match c.args.toList,c.argTypes.toList with
     |[x],[t]=>match Zl T x with
      |some v=>match gQ v,Rg P t with
       |some (r,k,_),some (.slice _)=>some (.int .i64 k,r)
       |_,_=>none
      |none=>none
     |_,_=>none
   |_=>none
 | .fieldAddr s x f=>match Zl T x with
   |some v=>match tj v with
    |some (r,off,cs)=>match Wl P s f (.pointer (some ⟨0,off,none⟩))with
     |some (.pointer (some ⟨0,off',none⟩))=>some (Q2 r (Ss off' cs),r)
     |_=>none
    |none=>none
   |none=>none
 | .load t x=>match Zl T x with
   |some v=>match tj v with
    |some (r,off,cs)=>match Y8 P t cs off with
     |some v=>bif rL 4 v then some (Q8 r 4 v,r)else none
     |none=>none
    |none=>none
   |none=>none
 |_=>none
def YW:Value->Bool
 | .slice none 0 0| .chan (some 0)=>true
 |_=>false
def bk(P:Program)(T:Tm)(o:Oper):Option (Value×Nat×Nat×Array Value×TypeId×Nat×Nat×Value):=match o.op with
 | .call c=>match c.callee with
   | .builtin .append=>match c.args.toList,c.argTypes.toList with
     |[s,x],[t,t']=>match Zl T s,Zl T x with
      |some sv,some xv=>match gQ xv,Rg P t with
       |some (r,k,cs),some (.slice e)=>match inf P e with
        |some i=>match i.zero,i.size with
         |some zv,z+1=>bif Of t t' && YW sv && Of zv.cells.size (z+1)then some (sv,r,k,cs,e,z+1,i.bytes,zv)else none
         |_,_=>none
        |none=>none
       |_,_=>none
      |_,_=>none
     |_,_=>none
   |_=>none
 |_=>none
def jA(P:Program)(T:Tm)(o:Oper):Option (Nat×Nat×Nat×Nat×Nat×Array Value×Nat):=match o.op with
 | .call c=>match c.callee with
   | .builtin .copy=>match c.args.toList,c.argTypes.toList with
     |[s,x],[t,_]=>match Zl T s,Zl T x with
      |some (.slice (some ⟨b,off,none⟩) k _),some xv=>match gQ xv,Rg P t with
       |some (r,m,cs2),some (.slice e)=>match W8 P e with
        |some z=>some (b,off,k,r,m,cs2,z)
        |none=>none
       |_,_=>none
      |_,_=>none
     |_,_=>none
   |_=>none
 |_=>none
def oG(P:Program)(op:BinOp)(t:TypeId)(a b v:Value):Prop:=∀(x y:Operand) (w:World),(do eqGuard op t x y a b;binOp op t a b:Sem Value).run P w=.ok v w
def ND(P:Program)(F:FuncId->Bool)(J:World->Prop)(B:Lo)(T:Tm)(o:Oper)(H:Qy)(n:Nat):Option Qk->Option Told
 |none=>match y8 P T o with
  |some (v,r)=>bif On r n && X7 (Q1 H r)then some ⟨⟨.ret v,H,n,[r],[]⟩,none⟩else none
  |none=>Nj P F B T o H n none
 |some (.Za h)=>Nj P F B T o H n (some h)
 |some (.tidx k es)=>match o.op with
  | .indexAddr t x i=>match Zl T x,Zl T i with
    |some v,some (.int _ q)=>match gQ v,Rg P t with
     |some (r,m,cs),some (.slice e)=>match W8 P e with
      |some z=>bif On r n && X7 (Q1 H r)then some ⟨⟨.ret (Q2 r (Ss 0 es)),H,n,[r],[]⟩,some (q=(k:Int)/\k<m/\cs.extract (k*z) (k*z+z)=es)⟩else none
      |none=>none
     |_,_=>none
    |_,_=>none
  |_=>none
 |some (.tarr k es)=>match o.op with
  | .indexAddr t x i=>match Zl T x,Zl T i with
    |some v,some (.int _ q)=>match tj v,Rg P t with
     |some (r,off,cs),some (.array m e)=>match W8 P e with
      |some z=>bif On r n && X7 (Q1 H r)then some ⟨⟨.ret (Q2 r (Ss 0 es)),H,n,[r],[]⟩,some (q=(k:Int)/\k<m/\cs.extract (off+k*z) (off+k*z+z)=es)⟩else none
      |none=>none
     |_,_=>none
    |_,_=>none
  |_=>none
 |some (.tslc k m' cs')=>match o.op with
  | .slice t x (some lo) none none=>match Zl T x,Zl T lo with
    |some v,some (.int _ q)=>match gQ v,Rg P t with
     |some (r,m,cs),some (.slice e)=>match W8 P e with
      |some z=>bif On r n && X7 (Q1 H r)then some ⟨⟨.ret (Q2 r (QI m' cs')),H,n,[r],[]⟩,some (q=(k:Int)/\k<m/\m'=m-k/\cs.extract (k*z) cs.size=cs')⟩else none
      |none=>none
     |_,_=>none
    |_,_=>none
  |_=>none
 |some (.tapp cs')=>match bk P T o with
  |some (_,r,k,cs,e,z,by',_)=>bif On r n && X7 (Q1 H r)then
   some ⟨⟨.ret (.slice (some ⟨n,0,none⟩) k z),(n,.cells cs' e (0,0))::H,n+1,[r],[]⟩,some (0<k/\k<=maxLen/\k*by'<=140737488355328/\cs.size=k*z/\cs.map (ZY r)=cs'/\(cs.all fun v=>simple v || Va v)=true/\ones cs'=true)⟩else none
  |none=>none
 |some .tapp0=>match bk P T o with
  |some (sv,r,k,_,_,_,_,_)=>bif On r n && X7 (Q1 H r)then some ⟨⟨.ret sv,H,n,[r],[]⟩,some (k=0)⟩else none
  |none=>none
 |some (.tcpy cs')=>match jA P T o with
  |some (b,off,k,r,m,cs2,z)=>match Q1 H b with
   |some (.cells cs te (0,0))=>bif On r n && X7 (Q1 H r) && On b n then
    some ⟨⟨.ret (.int .i64 (OU m k)),VK H b (.cells cs' te (0,0)),n,[b,r],[b]⟩,some (0<m/\off+OU m k*z<=cs.size/\OU m k*z<=cs2.size/\(cs2.all fun v=>simple v || Va v)=true/\ones ((cs2.extract 0 (OU m k*z)).map (ZY r))=true/\splice cs off ((cs2.extract 0 (OU m k*z)).map (ZY r))=cs')⟩else none
   |_=>none
  |none=>none
 |some (.eval s)=>some ⟨s,some (bY P F X6 (fun _ _ _=>none) T o H n=some s)⟩
 |some (.bin v)=>match o.op with
  | .binOp op t x y _=>match Zl T x,Zl T y with
    |some a,some b=>bif af a && af b && af v then some ⟨⟨.ret v,H,n,[],[]⟩,some (oG P op t a b v)⟩else none
    |_,_=>none
  |_=>none
 |some (.call keys out Ys n' W)=>match o.op with
  | .call _=>match Rd P F (Zl T) o H n with
    |some ⟨.enter g args,H1,n1,R,W1⟩=>bif Of n1 n && W1.isEmpty then
     match ZW P g args with
     |some c1=>some ⟨⟨out,Ys++H1,n',R++keys,W⟩,some (FJ P B c1 H1 n out (Ys++H1) n' keys W)⟩
     |none=>none
      else none
    |some ⟨.round l fn tm a b,H1,n1,R,W1⟩=>bif Of n1 n && W1.isEmpty && ON tm.size 16000 then some ⟨⟨out,Ys++H1,n',R++keys,W⟩,some (FJ P B ⟨fn,ofList tm.size tm.toList,[.code a,.beginRound,.code b],[],.run,some l⟩ H1 n out (Ys++H1) n' keys W)⟩else none
    |_=>none
  |_=>none
 |some (.pure out fz)=>match o.op with
  | .call _=>match Rd P F (Zl T) o H n with
    |some ⟨.enter g args,H1,n1,R,W1⟩=>bif Of n1 n && W1.isEmpty then
     match KC (Uh H1 fz 3) args.toList with
     |some (ts,R2,L)=>bif R2.all fun i=>On i n then
      bif aa 2 out then some ⟨⟨.ret out,H1,n,R++R2,[]⟩,some (Q6 L/\Q0 P J g ts.toArray out)⟩
      else bif (R2.all fun i=>X7 (Q1 H1 i)) && rL 4 out then some ⟨⟨.ret (Q8 n 4 out),(n,Xk)::H1,n+1,R++R2,[]⟩,some (Q6 L/\Q0 P J g ts.toArray out)⟩else none
       else none
     |none=>none
      else none
    |_=>none
  |_=>none
 |some (.pureK out fz)=>match o.op with
  | .call _=>match Rd P F (Zl T) o H n with
    |some ⟨.enter g args,H1,n1,R,W1⟩=>bif Of n1 n && W1.isEmpty then
     match KC (Uh H1 fz 3) args.toList with
     |some (ts,R2,L)=>bif (R2.all fun i=>On i n) && (R2.all fun i=>X7 (Q1 H1 i) || aN (Q1 H1 i)) && rL 4 out then
      some ⟨⟨.ret (Q8 n 4 out),(n,Xk)::killL H1 (R2.filter fun i=>aN (Q1 H1 i)),n+1,R++R2,R2.filter fun i=>aN (Q1 H1 i)⟩,some (Q6 L/\Q0 P J g ts.toArray out)⟩else none
     |none=>none
      else none
    |_=>none
  |_=>none
 |some (.wri κ R ps qs out outs news)=>match o.op with
  | .call _=>match Rd P F (Zl T) o H n with
    |some ⟨.enter g args,H1,n1,R0,W1⟩=>bif Of n1 n && W1.isEmpty then
     match HX H1 n κ R ps qs args out outs news with
     |some (as,bs,o1,Ys,L)=>some ⟨⟨o1,Ys++H1,n+1+news.length,R0++(κ++R),κ⟩,some (Q6 L/\WriC P J g as.toArray bs out outs news)⟩
     |none=>none
      else none
    |_=>none
  |_=>none
 |some .tnil=>match o.op with
  | .binOp op t x y _=>match Zl T x,Zl T y with
    |some v,some (.slice none 0 0)=>match gQ v,Rg P t with
     |some (r,m,_),some (.slice _)=>bif On r n && X7 (Q1 H r)then match op with
      | .eql=>some ⟨⟨.ret (.bool false),H,n,[r],[]⟩,some (0<m)⟩
      | .neq=>some ⟨⟨.ret (.bool true),H,n,[r],[]⟩,some (0<m)⟩
      |_=>none
       else none
     |_,_=>none
    |_,_=>none
  |_=>none
 |some (.wriC κ R ps qs out outs news o2)=>match o.op with
  | .call _=>match Rd P F (Zl T) o H n with
    |some ⟨.enter g args,H1,n1,R0,W1⟩=>bif Of n1 n && W1.isEmpty then
     match HX H1 n κ R ps qs args out outs news with
     |some (as,bs,o1,Ys,L)=>some ⟨⟨o2,Ys++H1,n+1+news.length,R0++(κ++R),κ⟩,some ((Q6 L/\WriC P J g as.toArray bs out outs news)/\o1=o2)⟩
     |none=>none
      else none
    |_=>none
  |_=>none
section
variable {P:Program} {F:FuncId->Bool} {J:World->Prop} {B:Lo} {T:Tm} {o:Oper} {H:Qy} {n:Nat}
theorem Jb(hF:∀g,F g=true->Q9 P g=true){c:Call}(Zr:o.op=.call c)(hu:Under H n){g:FuncId}{args:Array Value}{H1 H2:Qy}{R keys W:List Nat}{n':Nat}{out:OO}(hcr:Rd P F (Zl T) o H n=some ⟨.enter g args,H1,n,R,[]⟩)(hcj:oF P B g args H1 n out H2 n' keys W):
 SV P B o (Zl T) H n out H2 n' (R++keys) W/\Shape H n H2 n' (R++keys) W:=by
 have ZU:W5 P B (fun g' a' H' m'=>open Classical in if g'=g/\a'=args/\H'=H1/\m'=n then some ⟨out,H2,n',keys,W⟩else none):=by
  intro g' a' H' m' s _ h;simp only at h;split at h
  ·rename_i q;obtain⟨rfl,rfl,rfl,rfl⟩:=q;simp only[YO]at h;subst h;exact hcj
  ·cases h
 have:=YV hF Ps ZU hu (T:=T) (o:=o) (s:=⟨out,H2,n',R++keys,W⟩) (by simp[bY,Zr,hcr]);exact this
theorem FJ.callJ{g:FuncId}{args:Array Value}{c0:CF}{H':Qy}{n':Nat}{R W:List Nat}{out:OO}(hc:ZW P g args=some c0)(h:FJ P B c0 H n out H' n' R W):oF P B g args H n out H' n' R W:=
 ⟨h.shape,fun S μ w args' cs QF hB hS hf ha hR=>h.sem S μ w (Frame.enter P g args' .normal) cs QF hB hS hf (Kc hc ha) hR⟩
theorem FJ.recS{c:CF}{H1:Qy}{n n':Nat}{out:OO}{Ys:Qy}{W keys:List Nat}(h:FJ P B c H1 n out (Ys++H1) n' keys W):gL P B (Tg c H1 n ⟨out,Ys++H1,n',keys,W⟩):=by
 intro c' H' m' s _ hs;unfold Tg at hs;split at hs
 ·rename_i q;obtain⟨rfl,rfl,rfl⟩:=q;simp only[YO]at hs;subst hs;exact h
 ·cases hs
theorem cA(hJ:∀w,B.has w->J w){g:FuncId}{args:Array Value}{fz:List Fz}{H1:Qy}{ts:List Value}{R2:List Nat}{L:List Prop}{out:Value}(Wh:KC (Uh H1 fz 3) args.toList=some (ts,R2,L))(hL:Q6 L)(hp:Q0 P J g ts.toArray out)
 {S:Nat->Prop} {μ:Mu} {w:World} {args':Array Value} (QF:Ok B.B S μ (Q1 H1) w) (hB:B.has w) (hv:VRs μ args args') (hS:∀r∈R2,S r):Calls P g args' w fun e w'=> ∃v',e=.returned v'/\Below w.heap.size w w'/\TRv (bZ (YD μ H1 w R2) w w') out v':=by
 obtain⟨a,b⟩:=Tb (fun v v' t R L h1 h2 h3 h4=>Pb QF 3 v v' t R L h1 h2 h3 h4) args.toList ts R2 L args'.toList Wh hL hS (by simpa using hv.1) fun i v v' x y=>hv.2 i v v' (by simpa using x) (by simpa using y)
 exact hp (YD μ H1 w R2) w args' (hJ w hB) (fun b x h=>Vy h) ⟨by simpa using a,fun i v v' x y=>b i v v' (by simpa using x) (by simpa using y)⟩
theorem yP(hJ:∀w,B.has w->J w){g:FuncId}{args:Array Value}{fz:List Fz}{H1:Qy}{ts:List Value}{R2:List Nat}{L:List Prop}{out:Value}(Wh:KC (Uh H1 fz 3) args.toList=some (ts,R2,L))(hL:Q6 L)(hp:Q0 P J g ts.toArray out)(hpl:aa 2 out=true)(Xw:(R2.all fun i=>On i n)=true):
 oF P B g args H1 n (.ret out) H1 n R2 []:=by
 refine⟨Shape.same _ _ _,fun S μ w args' cs QF hB hS _ ha hR=> ?_⟩;obtain⟨e,w1,fr,⟨v',rfl,hb,ht⟩,hc,hf,hl⟩:=cA hJ Wh hL hp QF hB ha (fun r hr=>hR r hr (YL (List.all_eq_true.1 Xw r hr))) cs;refine⟨.ret v',w1,μ,Post.ofBelow QF hb,.ret (gj 2 out v' hpl ht),fun _=>⟨fr,hc,by rw[hf];rfl,hl⟩,fun c cs' e=> ?_⟩;subst e;exact Steps.trans hc (.one (step_leave_returned hl))
theorem uh(hJ:∀w,B.has w->J w){g:FuncId}{args:Array Value}{fz:List Fz}{H1:Qy}{ts:List Value}{R2:List Nat}{L:List Prop}{out:Value}(Wh:KC (Uh H1 fz 3) args.toList=some (ts,R2,L))(hL:Q6 L)(hp:Q0 P J g ts.toArray out)(Xw:(R2.all fun i=>On i n)=true)
 (WT:(R2.all fun i=>X7 (Q1 H1 i))=true) (ho:rL 4 out=true):oF P B g args H1 n (.ret (Q8 n 4 out)) ((n,Xk)::H1) (n+1) R2 []:=by
 refine⟨Shape.new _ _ _ _,fun S μ w args' cs QF hB hS hf ha hR=> ?_⟩;have hSR:∀r∈R2,S r:=fun r hr=>hR r hr (YL (List.all_eq_true.1 Xw r hr))
 obtain⟨e,w1,fr,⟨v',rfl,hb,ht⟩,hc,hfn,hl⟩:=cA hJ Wh hL hp QF hB ha hSR cs;have hfm:∀b x,bZ (YD μ H1 w R2) w w1 b=some x->w1.heap[b]? =some x:=by
  intro b x h;unfold bZ at h;split at h
  ·rename_i Xw;rw[hb.block b Xw];exact Vy h
  ·exact h
 have Z0:=Post.region (n:=n) QF hS (hf n (OE _) (by omega)) hb (bZ (YD μ H1 w R2) w w1) hfm fun b x h=>by
  unfold bZ at h;split at h
  ·refine .inr ?_;have hw:=Vy h;unfold YD at h;split at h
   ·rename_i hc;obtain⟨i,hi,o,im,ho,QN,Ym⟩:=hc;obtain⟨o',K6,hr'⟩:=ZI (List.all_eq_true.1 WT i hi);rw[ho]at K6;cases K6;rcases Ym with ⟨_,JN⟩|⟨hl,_⟩
    ·cases hx:im.fm b with
     |none=>exact absurd hx JN
     |some y=>
      obtain⟨ZB,QT,hf'⟩:=QF.JX i o (hSR i hi) ho hr';rw[QN]at QT;cases QT;have:=hf' b y hx;rw[hw]at this;cases this;exact⟨i,im,o,hSR i hi,ho,hr',QN,hx⟩
    ·exact absurd hl (by cases o <;> first|exact id|exact hr'.elim)
   ·cases h
  ·rename_i hge;exact .inl (Nat.le_of_not_lt hge)
 refine⟨.ret v',w1,_,Z0,.ret (Sn X9 4 out v' ho ht),fun _=>⟨fr,hc,by rw[hfn];rfl,hl⟩,fun c cs' e=> ?_⟩;subst e;exact Steps.trans hc (.one (step_leave_returned hl))
theorem YX(H:Qy)(K:List Nat)(i:Nat):Q1 (killL H K) i=if i∈K/\(Q1 H i).isSome then some (.pending #[] 0)else Q1 H i:=by
 induction K with
 |nil=>simp[killL]
 |cons k K ih=>
  simp only[killL];rw[Ka,ih];by_cases e:i=k
  ·subst e;cases hs:Q1 H i with
   |none=>simp
   |some o=>by_cases hm:i∈K <;> simp[hm]
  ·simp[e]
theorem Post.regionK{B n:Nat}{S:Nat->Prop}{μ:Mu}{H:Qy}{w w':World}(K:List Nat)(QF:Ok B S μ (Q1 H) w)(hS:∀i,S i->i<n)(hf:μ n=none)(hbel:Below w.heap.size w w')(hK:∀k∈K,S k/\(∃o,Q1 H k=some o/\live o)/\∃im,μ k=some im/\im.rw=true)
 (fm:Nat->Option Obj) (hfm:∀b x,fm b=some x->w'.heap[b]? =some x)
 (XP:∀b x,fm b=some x->w.heap.size<=b\/(∃k Ki ko,S k/\Q1 H k=some ko/\Wa ko/\μ k=some Ki/\Ki.fm b=some x)\/∃k∈K,∃im,μ k=some im/\im.Zz=b):Post B S n (n+1) K μ (upd μ n ⟨0,0,0,false,fm⟩) H ((n,Xk)::killL H K) w w':=by
 have hp:=Post.ofBelow (n:=n) QF hbel;have JN:∀i,S i->i≠n:=fun i hi=>by have:=hS i hi;omega
 have SX:∀i,S i->upd μ n ⟨0,0,0,false,fm⟩ i=μ i:=fun i hi=>by simp[upd,JN i hi]
 have XF:∀i,S i->Q1 ((n,Xk)::killL H K) i=Q1 (killL H K) i:=fun i hi=>by rw[QZ,if_neg (JN i hi)]
 have hgl:∀i o,S i->Q1 ((n,Xk)::killL H K) i=some o->live o\/Wa o->Q1 H i=some o/\(live o->i ∉ K):=fun i o hi ho hl=>by
  rw[XF i hi,YX]at ho;split at ho
  ·cases ho;exact(hl.elim id id).elim
  ·rename_i hn;exact⟨ho,fun _ hm=>hn ⟨hm,by rw[ho];rfl⟩⟩
 have PD:Q1 ((n,Xk)::killL H K) n=some Xk:=by rw[QZ,if_pos rfl]
 have isn:∀i,(n<=i/\i<n+1)->i=n:=fun i hi=>by omega
 refine⟨⟨fun i o hi ho hl=> ?_,fun i o im hi ho hl QN=> ?_,fun i j oi oj a b hi hj T4 Wk Wj Sd Uq ha hb hra Yu=> ?_,fun i o hi ho hr=> ?_,fun i j oi oj a b x hi hj Wk Wj JT Uq ha hb Yu hx=> ?_⟩,by omega,fun i hi=> ?_,fun i hi hw=> ?_,hbel.size,fun b hb _=>hbel.block b hb,fun i hi _=>hK i hi,
  fun i im o h1 h2 ho hl QN=> ?_,fun i im o hi ho hr QN b x hx=> ?_,hbel.os,hbel.tape,hbel.output⟩
 ·rcases hi with hi|hi
  ·have ho:=(hgl i o hi ho (.inl hl)).1;obtain⟨im,QN,hr⟩:=hp.ok.rel i o (.inl hi) ho hl;exact⟨im,by rw[SX i hi];exact QN,hr.keep (Yv hf) rfl⟩
  ·rw[isn i hi,PD]at ho;cases ho;exact hl.elim
 ·rcases hi with hi|hi
  ·have ho:=(hgl i o hi ho (.inl hl)).1;rw[SX i hi]at QN;exact hp.ok.low i o im (.inl hi) ho hl QN
  ·rw[isn i hi,PD]at ho;cases ho;exact hl.elim
 ·rcases hi with hi|hi
  ·rcases hj with hj|hj
   ·have Wk:=(hgl i oi hi Wk (.inl Sd)).1;have Wj:=(hgl j oj hj Wj (.inl Uq)).1;rw[SX i hi]at ha;rw[SX j hj]at hb;exact QF.inj i j oi oj a b hi hj T4 Wk Wj Sd Uq ha hb hra Yu
   ·rw[isn j hj,PD]at Wj;cases Wj;exact Uq.elim
  ·rw[isn i hi,PD]at Wk;cases Wk;exact Sd.elim
 ·rcases hi with hi|hi
  ·have ho:=(hgl i o hi ho (.inr hr)).1;obtain⟨im,QN,h⟩:=hp.ok.JX i o (.inl hi) ho hr;exact⟨im,by rw[SX i hi];exact QN,h⟩
  ·rw[isn i hi];exact⟨_,X9,hfm⟩
 ·have hjS:S j:=hj.elim id fun h=>by rw[isn j h,PD]at Wj;cases Wj;exact Uq.elim
  obtain⟨Wj,hjK⟩:=hgl j oj hjS Wj (.inl Uq);rw[SX j hjS]at hb;rcases hi with hi|hi
  ·have Wk:=(hgl i oi hi Wk (.inr JT)).1;rw[SX i hi]at ha;exact QF.sep i j oi oj a b x hi hjS Wk Wj JT Uq ha hb Yu hx
  ·rw[isn i hi,X9]at ha;cases ha;rcases XP _ _ hx with h|⟨k,Ki,ko,h1,h2,h3,h4,h5⟩|⟨k,hk,Ki,h1,h2⟩
   ·have:=(QF.low j oj b hjS Wj Uq hb).1;omega
   ·exact QF.sep k j ko oj Ki b x h1 hjS h2 Wj h3 Uq h4 hb Yu h5
   ·obtain⟨k1,⟨ko,k2,k3⟩,kim',k4,k5⟩:=hK k hk;rw[h1]at k4;cases k4;have hkj:k≠j:=fun e=>hjK Uq (e ▸ hk)
    exact QF.inj k j ko oj Ki b k1 hjS hkj k2 Wj k3 Uq h1 hb k5 Yu h2
 ·simp only[upd];rw[if_neg (by omega)]
 ·rw[QZ,if_neg (by omega),YX,if_neg (fun h=>hw h.1)]
 ·rw[isn i ⟨h1,h2⟩,PD]at ho;cases ho;exact hl.elim
 ·rcases hi with hi|hi
  ·have Pj:=isn i hi;subst Pj;rw[X9]at QN;cases QN;rcases XP b x hx with h|⟨k,Ki,ko,h1,h2⟩|⟨k,hk,Ki,h1,h2⟩
   ·exact .inl h
   ·exact .inr (.inl ⟨k,Ki,ko,h1,hS k h1,h2⟩)
   ·refine .inr (.inr ⟨k,hk,hS k (hK k hk).1,⟨Ki,h1,h2⟩,fun o' K6=> ?_⟩);have hks:=(hK k hk).1;obtain⟨ko,k2,_⟩:=(hK k hk).2.1;rw[XF k hks,YX,if_pos ⟨hk,by rw[k2];rfl⟩]at K6;cases K6;exact id
  ·obtain⟨hiK,Pj⟩:=hi;have hks:=(hK i hiK).1;obtain⟨ko,k2,_⟩:=(hK i hiK).2.1;rw[XF i hks,YX,if_pos ⟨hiK,by rw[k2];rfl⟩]at ho;cases ho;exact hr.elim
theorem Shape.killL{H:Qy}{n:Nat}{K R:List Nat}(o:Obj)(hK:∀k∈K,k<n)(hs:∀k∈K,k∈R):Shape H n ((n,o)::killL H K) (n+1) R K:=by
 refine⟨by omega,fun i hi hw=> ?_,fun i hi=> ?_,hs,fun i hi=>by have:=hK i hi;omega⟩
 ·rw[QZ,if_neg (by omega),YX,if_neg (fun h=>hw h.1)]
 ·rw[QZ,if_neg (by omega),YX,if_neg (fun h=>by have:=hK i h.1;omega)]
theorem zX{o:Option Obj}(h:aN o=true):∃cs t,o=some (.cells cs t (0,0)):=by
 unfold aN at h;split at h
 ·exact⟨_,_,rfl⟩
 ·cases h
theorem qX(hJ:∀w,B.has w->J w){g:FuncId}{args:Array Value}{fz:List Fz}{H1:Qy}{ts:List Value}{R2:List Nat}{L:List Prop}{out:Value}(Wh:KC (Uh H1 fz 3) args.toList=some (ts,R2,L))(hL:Q6 L)(hp:Q0 P J g ts.toArray out)(Xw:(R2.all fun i=>On i n)=true)
 (WT:(R2.all fun i=>X7 (Q1 H1 i) || aN (Q1 H1 i))=true) (ho:rL 4 out=true):oF P B g args H1 n (.ret (Q8 n 4 out)) ((n,Xk)::killL H1 (R2.filter fun i=>aN (Q1 H1 i))) (n+1) R2 (R2.filter fun i=>aN (Q1 H1 i)):=by
 have hltn:∀r∈R2,r<n:=fun r hr=>YL (List.all_eq_true.1 Xw r hr)
 refine⟨Shape.killL _ (fun k hk=>hltn k ((List.mem_filter.1 hk).1)) (fun k hk=>(List.mem_filter.1 hk).1),fun S μ w args' cs QF hB hS hf ha hR=> ?_⟩;have hSR:∀r∈R2,S r:=fun r hr=>hR r hr (hltn r hr)
 obtain⟨e,w1,fr,⟨v',rfl,hb,ht⟩,hc,hfn,hl⟩:=cA hJ Wh hL hp QF hB ha hSR cs;have hfm:∀b x,bZ (YD μ H1 w R2) w w1 b=some x->w1.heap[b]? =some x:=by
  intro b x h;unfold bZ at h;split at h
  ·rename_i Xw;rw[hb.block b Xw];exact Vy h
  ·exact h
 have hK:∀k∈R2.filter fun i=>aN (Q1 H1 i),S k/\(∃o,Q1 H1 k=some o/\live o)/\∃im,μ k=some im/\im.rw=true:=fun k hk=>by
  obtain⟨h1,h2⟩:=List.mem_filter.1 hk;obtain⟨cs0,t0,h3⟩:=zX h2;obtain⟨im,QN,ZS⟩:=QF.rel k _ (hSR k h1) h3 trivial;refine⟨hSR k h1,⟨_,h3,trivial⟩,im,QN, ?_⟩;rcases ZS with ⟨_,h,_⟩|⟨h,_⟩
  ·exact h
  ·exact absurd rfl h
 have Z0:=Post.regionK (n:=n) (R2.filter fun i=>aN (Q1 H1 i)) QF hS (hf n (OE _) (by omega)) hb hK (bZ (YD μ H1 w R2) w w1) hfm fun b x h=>by
  unfold bZ at h;split at h
  ·refine .inr ?_;have hw:=Vy h;unfold YD at h;split at h
   ·rename_i hc;obtain⟨i,hi,o,im,ho,QN,Ym⟩:=hc;have ZS:=List.all_eq_true.1 WT i hi;rw[Bool.or_eq_true]at ZS;rcases Ym with ⟨hr',JN⟩|⟨hl,hblk⟩
    ·left;cases hx:im.fm b with
     |none=>exact absurd hx JN
     |some y=>
      obtain⟨ZB,QT,hf'⟩:=QF.JX i o (hSR i hi) ho hr';rw[QN]at QT;cases QT;have:=hf' b y hx;rw[hw]at this;cases this;exact⟨i,im,o,hSR i hi,ho,hr',QN,hx⟩
    ·right;rcases ZS with ZS|ZS
     ·obtain⟨o',K6,hr'⟩:=ZI ZS;rw[ho]at K6;cases K6;exact absurd hl (by cases o <;> first|exact id|exact hr'.elim)
     ·exact⟨i,List.mem_filter.2 ⟨hi,ZS⟩,im,QN,hblk⟩
   ·cases h
  ·rename_i hge;exact .inl (Nat.le_of_not_lt hge)
 refine⟨.ret v',w1,_,Z0,.ret (Sn X9 4 out v' ho ht),fun _=>⟨fr,hc,by rw[hfn];rfl,hl⟩,fun c cs' e=> ?_⟩;subst e;exact Steps.trans hc (.one (step_leave_returned hl))
theorem Km{r:Nat}{v:Value}(Xw:r<n)(WT:X7 (Q1 H r)=true)(hd:∀c,o.op≠.defer c)
 (h:∀(μ:Mu) (w:World) (ρ:Operand->Value) (im:cm),μ r=some im->(∀b x,im.fm b=some x->w.heap[b]? =some x)->(∀x∈o.op.operands,∀v,Zl T x=some v->VR μ v (ρ x))->∃v',(execOp ρ o).run P w=.ok (.value v') w/\VR μ v v'):
 SV P B o (Zl T) H n (.ret v) H n [r] []:=fun S μ w fr _ _ _ _ _ QF hB _ _ Zb hR hm ht ho hw=>by
 obtain⟨x,hx,hr⟩:=ZI WT;obtain⟨im,QN,hf⟩:=QF.JX r x (hR r (by simp) Xw) hx hr;obtain⟨v',h1,h2⟩:=h μ w fr.eval im QN hf Zb;exact⟨.ret v',w,μ,Post.refl QF,.ret h2,PY hm ht ho hw hd h1⟩
theorem AL{fm:Nat->Option Obj}{w:World}(hw:∀b x,fm b=some x->w.heap[b]? =some x){off:Nat}{cs:Array Value}{u v:Value}{t:TypeId}(hu:TRv fm (Ss off cs) u)(h:Y8 P t cs off=some v):∃v',(Instr.loadAt t u).run P w=.ok v' w/\TRv fm v v':=by
 obtain⟨b,o,arr,ty,fl,rfl,h1,h2,h3⟩:=hu.ptr_inv;have hb:=hw _ _ h1;have hcell:∀i,i<cs.size->∃v',w.cell? ⟨b,o+i,none⟩=some v'/\∀v,cs[i]? =some v->TRv fm v v':=by
  intro i hi;have Xw:=h2 i hi;exact⟨arr[o+i],by simp[World.cell?,hb,Xw],fun v hv=>h3 i v _ hv (by simp[Xw])⟩
 unfold Y8 at h;cases hag:oB P t with
 |none=>rw[hag]at h;cases h
 |some g=>
  rw[hag]at h;cases g with
  |true=>
   cases hz:W8 P t with
   |none=>rw[hz]at h;cases h
   |some z=>
    rw[hz]at h;dsimp only at h;cases Se:ON (off+z) cs.size with
    |false=>rw[Se]at h;cases h
    |true=>
     rw[Se]at h;simp only[cond_true,YO]at h;subst h;have hle:=YL Se;have hr:=run_loadCells (P:=P) w ⟨b,o+off,none⟩ z (fun j=>(w.cell? ⟨b,o+(off+j),none⟩).getD undef) (fun j hj=>by
      obtain⟨v',ZT,_⟩:=hcell (off+j) (by omega);rw[WE,show o+off+j=o+(off+j)by omega,ZT];rfl)
     refine⟨.agg _,by simp[Instr.loadAt,Instr.sureAddr,loadVar,K3 hag,Zx hz,hr];rfl,.agg (by simp;omega) fun i v v' hv ZT=> ?_⟩;have hi:i<z:=by
      have:=(Array.getElem?_eq_some_iff.1 hv).1;simp at this;omega
     obtain⟨u,h4,h5⟩:=hcell (off+i) (by omega);simp[hi,h4]at ZT;subst ZT;refine h5 v ?_;rw[OY]at hv;split at hv
     ·exact hv
     ·cases hv
  |false=>
   simp only at h;have hi:=(Array.getElem?_eq_some_iff.1 h).1;obtain⟨v',ZT,ht⟩:=hcell off hi;exact⟨v',by simp[Instr.loadAt,Instr.sureAddr,loadVar,K3 hag,run_load,ZT],ht v h⟩
theorem qG{v:Value}{r:Nat}(e:y8 P T o=some (v,r))(Xw:r<n)(WT:X7 (Q1 H r)=true):SV P B o (Zl T) H n (.ret v) H n [r] []:=by
 unfold y8 at e;split at e
 ·rename_i c Zr;split at e
  ·rename_i hc;split at e
   ·rename_i x t ha ht;split at e
    ·rename_i u hx;split at e
     ·rename_i r0 k cs el htop hue;rw[Z1]at hue;simp only[YO,YR]at e;obtain⟨rfl,rfl⟩:=e;refine Km Xw WT (fun c h=>by rw[Zr]at h;cases h) fun μ w ρ im QN hf Zb=> ?_
      have ea:c.args=#[x]:=by rw[<-ha]
      have et:c.argTypes=#[t]:=by rw[<-ht]
      have hv:=Zb x (by simp[Zr,Op.operands,Call.operands,hc,ea]) _ hx;rw[Si htop]at hv;obtain⟨ZB,_,SI⟩:=hv.top_inv;have hlen:∃a c,ρ x=.slice a k c:=by
       rcases SI.slice_inv with ⟨b,o',c',arr,t',fl,h1,_⟩|⟨rfl,_,a',c',h1,_⟩
       ·exact⟨_,_,h1⟩
       ·exact⟨_,_,h1⟩
      obtain⟨a,cp,hv⟩:=hlen;refine⟨.int .i64 k, ?_,.int _ _⟩;simp[execOp,Zr,resolve,hc,invoke,builtin,ea,et,hv,Builtin.len_,run_underlying hue,goInt]
     ·cases e
    ·cases e
   ·cases e
  ·cases e
 ·rename_i s x f Zr;split at e
  ·rename_i u hx;split at e
   ·rename_i r0 off cs htop;split at e
    ·rename_i off' hc;simp only[YO,YR]at e;obtain⟨rfl,rfl⟩:=e;refine Km Xw WT (fun c h=>by rw[Zr]at h;cases h) fun μ w ρ im QN hf Zb=> ?_
     have hv:=Zb x (by simp[Zr,Op.operands]) _ hx;rw[kE htop]at hv;obtain⟨ZB,QT,SI⟩:=hv.top_inv;rw[QN]at QT;cases QT;obtain⟨b,o',arr,ty,fl,h1,h2,h3,h4⟩:=SI.ptr_inv;have hc2:∃d,off'=off+d/\Wl P s f (.pointer (some ⟨b,o'+off,none⟩))=some (.pointer (some ⟨b,o'+off+d,none⟩)):=by
      unfold Wl at hc ⊢;simp only at hc ⊢;split at hc
      ·split at hc
       ·split at hc
        ·simp only[YO,Value.pointer.injEq,Addr.mk.injEq,true_and,and_true]at hc;rename_i fd hfd _ _ hz;refine⟨fd.offset,hc.symm, ?_⟩;simp_all
        ·cases hc
       ·cases hc
      ·cases hc
     obtain⟨d,rfl,hc2⟩:=hc2;obtain⟨_,hr⟩:=bf (P:=P) hc2 w;refine⟨.pointer (some ⟨b,o'+off+d,none⟩),by simp[execOp,Zr,h1,hr],.top rfl QN ?_⟩;rw[Nat.add_assoc];exact .ptr h2 h3 h4
    ·cases e
   ·cases e
  ·cases e
 ·rename_i t x Zr;split at e
  ·rename_i u hx;split at e
   ·rename_i r0 off cs htop;split at e
    ·rename_i v0 hc;cases QF:rL 4 v0 with
     |false=>rw[QF]at e;cases e
     |true=>
      rw[QF]at e;simp only[cond_true,YO,YR]at e;obtain⟨rfl,rfl⟩:=e;refine Km Xw WT (fun c h=>by rw[Zr]at h;cases h) fun μ w ρ im QN hf Zb=> ?_
      have hv:=Zb x (by simp[Zr,Op.operands]) _ hx;rw[kE htop]at hv;obtain⟨ZB,QT,SI⟩:=hv.top_inv;rw[QN]at QT;cases QT;obtain⟨v',h1,h2⟩:=AL hf SI hc;exact⟨v',by simp[execOp,Zr,h1],Sn QN 4 v0 v' QF h2⟩
    ·cases e
   ·cases e
  ·cases e
 ·cases e
theorem tt{P:Program}{t e:TypeId}{b off m c z k:Nat}{q:Int}{kk:IntKind}(hu:Rg P t=some (.slice e))(hz:W8 P e=some z)(hq:q=(k:Int))(hk:k<m)(hc:m<=c)(w:World):
 (Instr.sliceAt t (.slice (some ⟨b,off,none⟩) m c) (some (.int kk q)) none none).run P w=.ok (.slice (some ⟨b,off+k*z,none⟩) (m-k) (c-k)) w:=by
 rw[Z1]at hu;subst hq;have hb:ym m (some (.int kk (k:Int))) none=some (k,m):=by
  simp only[ym,E5,decide_eq_true (show(0:Int)<=(k:Int)by omega),decide_eq_true (show(k:Int)<=(m:Int)by omega),Bool.and_self,cond_true,Int.toNat_natCast]
 obtain⟨hr,_,_⟩:=o9 (P:=P) (μ:=fun _=>none) (sl:=true) (lo':=some (.int kk (k:Int))) (hi':=none) hb (show VR _ _ _ from .int _ _) trivial hc w;simp only[Instr.sliceAt,Instr.slice,Sem.run_bind,run_underlying hu,Result.andThen_ok,hr,Zx hz,Sem.run_pure,OF,WE];rw[if_neg (by omega)]
theorem gP{sv:Value}{r k z by':Nat}{cs:Array Value}{e:TypeId}{zv:Value}(h:bk P T o=some (sv,r,k,cs,e,z,by',zv)):
 ∃c s x t i,o.op=.call c/\c.callee=.builtin .append/\c.args=#[s,x]/\c.argTypes=#[t,t]/\Zl T s=some sv/\Zl T x=some (Q2 r (QI k cs))/\YW sv=true/\P.underlying t=some (.slice e)/\P.info? e=some i/\i.zero=some zv/\i.size=z/\i.bytes=by'/\zv.cells.size=z/\0<z:=by
 unfold bk at h;split at h
 ·rename_i c Zr;split at h
  ·rename_i hc;split at h
   ·rename_i s x t t' ha ht;split at h
    ·rename_i sv' xv hs hx;split at h
     ·rename_i r' k' cs' e' htop hu;split at h
      ·rename_i i hi;split at h
       ·rename_i zv' z' hz Z8;cases hq:(Of t t' && YW sv' && Of zv'.cells.size (z'+1))with
        |false=>rw[hq]at h;cases h
        |true=>
         rw[hq]at h;simp only[cond_true,YO,YR]at h;obtain⟨rfl,rfl,rfl,rfl,rfl,rfl,rfl,rfl⟩:=h;simp only[YB]at hq;obtain⟨⟨q1,q2⟩,q3⟩:=hq;obtain rfl:=YE q1;rw[Z1]at hu;rw[JS]at hi;exact⟨c,s,x,t,i,Zr,hc,by rw[<-ha],by rw[<-ht],hs,by rw[hx,Si htop],q2,hu,hi,hz,Z8,rfl,YE q3,by omega⟩
       ·cases h
      ·cases h
     ·cases h
    ·cases h
   ·cases h
  ·cases h
 ·cases h
theorem iX{μ:Mu}{s s':Value}(h:YW s=true)(hs:VR μ s s'):∃a,s'=.slice a 0 0:=by
 unfold YW at h;split at h
 ·cases hs;exact⟨_,rfl⟩
 ·cases hs;exact⟨_,rfl⟩
 ·cases h
theorem qI{sv:Value}{r k z by':Nat}{cs cs':Array Value}{e:TypeId}{zv:Value}(h:bk P T o=some (sv,r,k,cs,e,z,by',zv))(Xw:r<n)(WT:X7 (Q1 H r)=true)
 (hp:0<k/\k<=maxLen/\k*by'<=140737488355328/\cs.size=k*z/\cs.map (ZY r)=cs'/\(cs.all fun v=>simple v || Va v)=true/\ones cs'=true):
 SV P B o (Zl T) H n (.ret (.slice (some ⟨n,0,none⟩) k z)) ((n,.cells cs' e (0,0))::H) (n+1) [r] []:=by
 intro S μ w fr _ _ _ _ _ QF hB hS hf Zb hR hm ht ho hw;obtain⟨c,s,x,t,i,Zr,hc,ea,et,hs,hx,hbn,hu,hi,hz,Z8,hby,hzs,hzp⟩:=gP h;obtain⟨p1,p2,p3,p4,p5,p6,p7⟩:=hp;obtain⟨xr,hxr,hr⟩:=ZI WT;obtain⟨im,QN,hfm⟩:=QF.JX r xr (hR r (by simp) Xw) hxr hr;have hvs:=Zb s (by simp[Zr,Op.operands,Call.operands,hc,ea]) _ hs;have hvx:=Zb x (by simp[Zr,Op.operands,Call.operands,hc,ea]) _ hx;obtain⟨a,hsa⟩:=iX hbn hvs;obtain⟨ZB,QT,SI⟩:=hvx.top_inv;rw[QN]at QT;cases QT;rcases SI.slice_inv with ⟨b,o',c',arr,ty,fl,h1,h2,h3,h4,h5,h6⟩|⟨h0,_⟩
 ·have hb:=hfm _ _ h4;obtain⟨news,hnews⟩:∃news,news=(arr.toList.drop o').take (k*z):=⟨_,rfl⟩
  have hnl:news.length=k*z:=by
   rw[hnews,List.length_take,List.length_drop,Array.length_toList];have:∀j,j<k*z->o'+j<arr.size:=fun j hj=>h5 j (by omega)
   have:=this (k*z-1) (by have:=Nat.mul_pos p1 hzp;omega);have:=Nat.mul_pos p1 hzp;omega
  have Q1:∀(j:Nat) u,news[j]? =some u->arr[o'+j]? =some u:=by
   intro j u hj;rw[hnews,List.getElem?_take]at hj;split at hj
   ·rw[List.getElem?_drop]at hj;simpa using hj
   ·cases hj
  have hcell:∀(j:Nat) u,news[j]? =some u->w.cell? ((⟨b,o',none⟩:Addr).add j)=some u:=by
   intro j u hj;rw[WE];have:=Q1 j u hj;simp[World.cell?,hb];exact this
  have hV:VRs μ cs' news.toArray:=by
   refine⟨by rw[<-p5];simp[hnl,p4],fun j v v' hv ZT=> ?_⟩;rw[<-p5,Array.getElem?_map]at hv;cases hy:cs[j]? with
   |none=>rw[hy]at hv;cases hv
   |some y=>
    rw[hy]at hv;simp only[OF,YO]at hv;subst hv;exact TN QN (Array.all_eq_true'.1 p6 y (OK hy)) (h6 j y v' hy (Q1 j v' (by simpa using ZT)))
  have Uj:∃C,k<=C/\C<=maxLen/\(Builtin.append_ #[t,t] o.type #[fr.eval s,fr.eval x]).run P w=.ok (.slice (some ⟨w.heap.size,0,none⟩) k C) (w.drew.alloc (.cells (news.toArray++Builtin.zeroCells zv.cells (C-k)) e)):=by
   have hk63:(k:Int)<=9223372036854775807:=by simp only[maxLen]at p2;omega
   have hr0:=run_append_nil (P:=P) w t o.type e i zv hu hi hz ⟨b,o',none⟩ k c' news (by rw[hnl,Z8]) hcell p1 hk63 (by rw[hby];omega);refine⟨grownCap w k 0 e,grownCap_ge w k 0 e,grownCap_le_maxLen w k 0 e p2, ?_⟩;rw[hsa,h1];cases a with
   |none=>exact hr0
   |some a=>rw[iY hu hi hz w a ⟨b,o',none⟩ k c' news (by rw[hnl,Z8]) hcell p1 p2 (by rw[hby];exact p3)];exact hr0
  obtain⟨C,hC1,hC2,Uj⟩:=Uj;have hfn:=hf n (OE _) (by omega);have harr:(news.toArray++Builtin.zeroCells zv.cells (C-k)).size=C*z:=by
   rw[Array.size_append,size_zeroCells,hzs,List.size_toArray,hnl,<-Nat.add_mul];congr 1;omega
  refine⟨.ret (.slice (some ⟨w.heap.size,0,none⟩) k C),_,_,fY QF hS hfn none (fun _ h=>by cases h) w.heap.size (news.toArray++Builtin.zeroCells zv.cells (C-k)).size _ hB.le (by simp) (.inl (OE _)) (by simp) (fun b hb _=>Below.heap_alloc w.drew _ b hb) (.ofCells (heap_alloc_new w.drew _) ?_ rfl fun j v hv=> ?_) ⟨rfl,rfl,rfl⟩,.ret ?_,PY hm ht ho hw (fun c h=>by rw[Zr]at h;cases h) (w':=w.drew.alloc _) ?_⟩
  ·rw[Array.size_append];have:=hV.1;simp only[List.size_toArray]at this ⊢;omega
  ·obtain⟨u,e1,e2⟩:=hV.get hv;have hj:j<news.toArray.size:=(Array.getElem?_eq_some_iff.1 e1).1;exact⟨u,by rw[Array.getElem?_append_left hj];exact e1,e2.mono (Yv hfn)⟩
  ·refine .slice ⟨_,X9,rfl,rfl⟩ hC1 hC2 (fun _ im QN _ _=> ?_);rw[X9]at QN;cases QN;exact harr.symm
  ·simp[execOp,Zr,resolve,hc,invoke,builtin,ea,et,Uj]
 ·omega
theorem oI{sv:Value}{r k z by':Nat}{cs:Array Value}{e:TypeId}{zv:Value}(h:bk P T o=some (sv,r,k,cs,e,z,by',zv))(Xw:r<n)(WT:X7 (Q1 H r)=true)(hk:k=0):
 SV P B o (Zl T) H n (.ret sv) H n [r] []:=by
 obtain⟨c,s,x,t,i,Zr,hc,ea,et,hs,hx,hbn,hu,hi,hz,Z8,hby,hzs,hzp⟩:=gP h;refine Km Xw WT (fun c h=>by rw[Zr]at h;cases h) fun μ w ρ im QN hf Zb=> ?_
 have hvs:=Zb s (by simp[Zr,Op.operands,Call.operands,hc,ea]) _ hs;have hvx:=Zb x (by simp[Zr,Op.operands,Call.operands,hc,ea]) _ hx;obtain⟨a,hsa⟩:=iX hbn hvs;obtain⟨ZB,QT,SI⟩:=hvx.top_inv;rw[QN]at QT;cases QT;subst hk;have hxx:∃b d,ρ x=.slice b 0 d:=by
  rcases SI.slice_inv with ⟨b,o',c',arr,ty,fl,h1,_⟩|⟨_,_,a',c',h1,_⟩
  ·exact⟨_,_,h1⟩
  ·exact⟨_,_,h1⟩
 obtain⟨b,d,hxx⟩:=hxx;refine⟨.slice a 0 0, ?_,by rw[<-hsa];exact hvs⟩;have hszp:W8 P e=some z:=by simp[W8,JS,hi,Z8]
 have hr:=iZ (ty:=o.type) hu hszp w a b 0 0 d (OE _);simp[execOp,Zr,resolve,hc,invoke,builtin,ea,et,hsa,hxx,hr]
theorem th{b off k r m z:Nat}{cs2:Array Value}(h:jA P T o=some (b,off,k,r,m,cs2,z)):
 ∃c s x t t2 e s1,o.op=.call c/\c.callee=.builtin .copy/\c.args=#[s,x]/\c.argTypes=#[t,t2]/\Zl T s=some (.slice (some ⟨b,off,none⟩) k s1)/\Zl T x=some (Q2 r (QI m cs2))/\P.underlying t=some (.slice e)/\W8 P e=some z:=by
 unfold jA at h;split at h
 ·rename_i c Zr;split at h
  ·rename_i hc;split at h
   ·rename_i s x t t2 ha ht;split at h
    ·rename_i b' off' k' s1 xv hs hx;split at h
     ·rename_i r' m' cs' e' htop hu;split at h
      ·rename_i z' hz;simp only[YO,YR]at h;obtain⟨rfl,rfl,rfl,rfl,rfl,rfl,rfl⟩:=h;rw[Z1]at hu;exact⟨c,s,x,t,t2,e',s1,Zr,hc,by rw[<-ha],by rw[<-ht],hs,by rw[hx,Si htop],hu,hz⟩
      ·cases h
     ·cases h
    ·cases h
   ·cases h
  ·cases h
 ·cases h
theorem qH{b off k r m z:Nat}{cs cs2 cs':Array Value}{te:TypeId}(h:jA P T o=some (b,off,k,r,m,cs2,z))(hg:Q1 H b=some (.cells cs te (0,0)))(Xw:r<n)(WT:X7 (Q1 H r)=true)(hbn:b<n)
 (hp:0<m/\off+OU m k*z<=cs.size/\OU m k*z<=cs2.size/\(cs2.all fun v=>simple v || Va v)=true/\ones ((cs2.extract 0 (OU m k*z)).map (ZY r))=true/\splice cs off ((cs2.extract 0 (OU m k*z)).map (ZY r))=cs'):
 SV P B o (Zl T) H n (.ret (.int .i64 (OU m k))) (VK H b (.cells cs' te (0,0))) n [b,r] [b]:=by
 intro S μ w fr _ _ _ _ _ QF hB hS hf Zb hR hm ht ho hw;obtain⟨c,s,x,t,t2,e,s1,Zr,hc,ea,et,hs,hx,hu,hz⟩:=th h;obtain⟨p0,h1,h2,p4,h3,rfl⟩:=hp;obtain⟨xr,hxr,hr⟩:=ZI WT;obtain⟨imr,himr,hfm⟩:=QF.JX r xr (hR r (by simp) Xw) hxr hr;have hb:S b:=hR b (by simp) hbn;obtain⟨im,QN,ZS⟩:=QF.rel b _ hb hg trivial;have hvs:=Zb s (by simp[Zr,Op.operands,Call.operands,hc,ea]) _ hs;have hvx:=Zb x (by simp[Zr,Op.operands,Call.operands,hc,ea]) _ hx;obtain⟨imr',himr',SI⟩:=hvx.top_inv;rw[himr]at himr';cases himr';generalize hsv:fr.eval s=sv at hvs;cases hvs with
 |slice har q1 q2 q3=>
  obtain⟨ZB,QT,_,rfl⟩:=har;simp only at QT;rw[QN]at QT;cases QT;rcases SI.slice_inv with ⟨b2,o',c',arr2,ty,fl,g1,g2,g3,g4,g5,g6⟩|⟨h0,_⟩
  ·have Se:=hfm _ _ g4;have hcell:∀j,j<OU m k*z->w.cell? ((⟨b2,o',none⟩:Addr).add j)=some (arr2.getD (o'+j) undef):=by
    intro j hj;have hlt2:=g5 j (by omega);rw[WE];simp[World.cell?,Se,hlt2]
   have hload:=run_loadCells (P:=P) w ⟨b2,o',none⟩ (OU m k*z) (fun j=>arr2.getD (o'+j) undef) hcell;generalize hxsd:(((Array.range (OU m k*z)).map fun j=>arr2.getD (o'+j) undef):Array Value)=xs0;obtain⟨xs,hload,hxs⟩:∃xs,(loadCells ⟨b2,o',none⟩ (OU m k*z)).run P w=.ok xs w/\VRs μ ((cs2.extract 0 (OU m k*z)).map (ZY r)) xs:=by
    refine⟨_,hload,⟨by simp;omega,fun i v v' hv ZT=> ?_⟩⟩;rw[Array.getElem?_map]at hv;cases hy:(cs2.extract 0 (OU m k*z))[i]? with
    |none=>rw[hy]at hv;cases hv
    |some y=>
     rw[hy]at hv;simp only[OF,YO]at hv;subst hv;rw[OY]at hy;split at hy
     ·rename_i hlt3;have hi:i<OU m k*z:=by omega
      have hy2:cs2[i]? =some y:=by simpa using hy
      simp[hi]at ZT;have hlt2:=g5 i (by omega);refine TN himr (Array.all_eq_true'.1 p4 y (OK hy2)) (g6 i y v' hy2 ?_);rw[<-ZT];simp[hlt2]
     ·cases hy
   have hxsz:xs.size=OU m k*z:=by rw[<-hxs.1];simp;omega
   have hexsz:((cs2.extract 0 (OU m k*z)).map (ZY r)).size=OU m k*z:=by simp;omega
   rcases ZS with ⟨_,Ui,hoo,arr,ha,hle,hcap,hcs⟩|⟨hz0,_⟩
   ·have Wh:=run_storeCells_at (P:=P) im.Zz off te xs.toList 0 arr w ha (by simp[hxsz];omega) (hxs.ones h3);simp only[Nat.add_zero]at Wh;refine⟨.ret (.int .i64 (OU m k)),w.setRow im.Zz (CE.splice arr off xs),μ,Post.write QF hS b _ (.cells (CE.splice cs off ((cs2.extract 0 (OU m k*z)).map (ZY r))) te (0,0)) im hb hg trivial QN Ui (w':=w.setRow im.Zz (CE.splice arr off xs)) ?_ ?_ ?_ ⟨rfl,rfl,rfl⟩,.ret (.int _ _),PY hm ht ho hw (fun c h=>by rw[Zr]at h;cases h) ?_⟩
    ·simp[World.setRow]
    ·intro y hy;exact setRow_other w im.Zz y _ hy
    ·refine .inl ⟨rfl,Ui,hoo,CE.splice arr off xs,setRow_heap w im.Zz arr _ te _ ha, ?_, ?_, ?_⟩
     ·rw[WN (by rw[hexsz];omega),WN (by rw[hxsz];omega)];exact hle
     ·rw[WN (by rw[hxsz];omega)];exact hcap
     ·exact VRs.splice (by rw[hexsz];omega) hle hcs hxs
    ·simp[execOp,Zr,resolve,hc,invoke,builtin,ea,et,hsv,g1,Builtin.copy_,Builtin.lenOf,Builtin.firstCells,Sem.run_bind,Sem.run_pure,Result.andThen_ok,run_underlying hu,Zx hz,hload,hoo,Wh,CE.splice,goInt]
   ·exact absurd rfl hz0
  ·omega
theorem qe(hF:∀g,F g=true->Q9 P g=true)(hJ:∀w,B.has w->J w)(hu:Under H n){h:Option Qk}{a:Told}(e:ND P F J B T o H n h=some a)(hp:∀p,a.p=some p->p):
 SV P B o (Zl T) H n a.s.out a.s.H a.s.n a.s.R a.s.W/\Shape H n a.s.H a.s.n a.s.R a.s.W:=by
 unfold ND at e;split at e
 ·split at e
  ·rename_i v r SI;cases hq:(On r n && X7 (Q1 H r))with
   |false=>rw[hq]at e;cases e
   |true=>
    rw[hq]at e;simp only[cond_true,YO]at e;subst e;simp only[YB]at hq;exact⟨qG SI (YL hq.1) hq.2,Shape.same _ _ _⟩
  ·exact qf hF hu e hp
 ·exact qf hF hu e hp
 ·rename_i k es;split at e
  ·rename_i t x i Zr;split at e
   ·rename_i u kk q hx hi;split at e
    ·rename_i r m cs el htop hue;split at e
     ·rename_i z hz;cases hq:(On r n && X7 (Q1 H r))with
      |false=>rw[hq]at e;cases e
      |true=>
       rw[hq]at e;simp only[cond_true,YO]at e;subst e;simp only[YB]at hq;obtain⟨Xw,WT⟩:=hq;obtain⟨hqk,hkm,hes⟩:=hp _ rfl;refine⟨Km (YL Xw) WT (fun c h=>by rw[Zr]at h;cases h) fun μ w ρ im QN hf Zb=> ?_,Shape.same _ _ _⟩;have hv:=Zb x (by simp[Zr,Op.operands]) _ hx;have hiv:=nX (Zb i (by simp[Zr,Op.operands]) _ hi);rw[Si htop]at hv;obtain⟨ZB,QT,SI⟩:=hv.top_inv;rw[QN]at QT;cases QT;have Ym:=SI.slice_inv;rcases Ym with ⟨b,o',c',arr,ty,fl,h1,h2,h3,h4,h5,h6⟩|⟨rfl,_⟩
       ·have hess:k*z+es.size<=cs.size\/es.size=0:=by rw[<-hes];simp;omega
        refine⟨.pointer (some ⟨b,o'+k*z,none⟩),by simp[execOp,Zr,h1,hiv,qt hue hz hqk hkm],.top rfl QN ?_⟩;refine TRv.ptr (o:=o'+k*z) (off:=0) h4 (fun i hi=> ?_) fun i v v' hv ZT=> ?_
        ·have:=h5 (k*z+i) (by omega);omega
        ·rw[<-hes,OY]at hv;split at hv
         ·refine h6 (k*z+i) v v' hv ?_;rw[<-ZT,Nat.add_assoc]
         ·cases hv
       ·omega
     ·cases e
    ·cases e
   ·cases e
  ·cases e
 ·rename_i k es;split at e
  ·rename_i t x i Zr;split at e
   ·rename_i u kk q hx hi;split at e
    ·rename_i r off cs m el htop hue;split at e
     ·rename_i z hz;cases hq:(On r n && X7 (Q1 H r))with
      |false=>rw[hq]at e;cases e
      |true=>
       rw[hq]at e;simp only[cond_true,YO]at e;subst e;simp only[YB]at hq;obtain⟨Xw,WT⟩:=hq;obtain⟨hqk,hkm,hes⟩:=hp _ rfl;refine⟨Km (YL Xw) WT (fun c h=>by rw[Zr]at h;cases h) fun μ w ρ im QN hf Zb=> ?_,Shape.same _ _ _⟩;have hv:=Zb x (by simp[Zr,Op.operands]) _ hx;have hiv:=nX (Zb i (by simp[Zr,Op.operands]) _ hi);rw[kE htop]at hv;obtain⟨ZB,QT,SI⟩:=hv.top_inv;rw[QN]at QT;cases QT;obtain⟨b,o',arr,ty,fl,h1,h2,h3,h4⟩:=SI.ptr_inv;refine⟨.pointer (some ⟨b,o'+off+k*z,none⟩),by simp[execOp,Zr,h1,hiv,eY hue hz hqk hkm],.top rfl QN ?_⟩;rw[Nat.add_assoc o'];refine TRv.ptr (o:=o'+(off+k*z)) (off:=0) h2 (fun i hi=> ?_) fun i v v' hv ZT=> ?_
       ·have Z8:es.size<=cs.size-(off+k*z):=by rw[<-hes];simp;omega
        have:=h3 (off+k*z+i) (by omega);omega
       ·rw[<-hes,OY]at hv;split at hv
        ·refine h4 (off+k*z+i) v v' hv ?_;rw[<-ZT,Nat.add_assoc o']
        ·cases hv
     ·cases e
    ·cases e
   ·cases e
  ·cases e
 ·rename_i k m' cs';split at e
  ·rename_i t x lo Zr;split at e
   ·rename_i u kk q hx hi;split at e
    ·rename_i r m cs el htop hue;split at e
     ·rename_i z hz;cases hq:(On r n && X7 (Q1 H r))with
      |false=>rw[hq]at e;cases e
      |true=>
       rw[hq]at e;simp only[cond_true,YO]at e;subst e;simp only[YB]at hq;obtain⟨Xw,WT⟩:=hq;obtain⟨hqk,hkm,hm',hes⟩:=hp _ rfl;refine⟨Km (YL Xw) WT (fun c h=>by rw[Zr]at h;cases h) fun μ w ρ im QN hf Zb=> ?_,Shape.same _ _ _⟩;have hv:=Zb x (by simp[Zr,Op.operands]) _ hx;have hiv:=nX (Zb lo (by simp[Zr,Op.operands]) _ hi);rw[Si htop]at hv;obtain⟨ZB,QT,SI⟩:=hv.top_inv;rw[QN]at QT;cases QT;have Ym:=SI.slice_inv;rcases Ym with ⟨b,o',c',arr,ty,fl,h1,h2,h3,h4,h5,h6⟩|⟨rfl,_⟩
       ·refine⟨.slice (some ⟨b,o'+k*z,none⟩) (m-k) (c'-k),by simp[execOp,Zr,h1,hiv,tt hue hz hqk hkm h2],.top rfl QN ?_⟩;rw[hm'];refine TRv.slice (o:=o'+k*z) (by omega) (by omega) h4 (fun i hi=> ?_) fun i v v' hv ZT=> ?_
        ·rw[<-hes,Array.size_extract]at hi;have:=h5 (k*z+i) (by omega);omega
        ·rw[<-hes,OY]at hv;split at hv
         ·refine h6 (k*z+i) v v' hv ?_;rw[<-ZT,Nat.add_assoc]
         ·cases hv
       ·omega
     ·cases e
    ·cases e
   ·cases e
  ·cases e
 ·rename_i cs';split at e
  ·rename_i u1 r k cs el z by' u2 hta
   cases hq:(On r n && X7 (Q1 H r))with
   |false=>rw[hq]at e;cases e
   |true=>
    rw[hq]at e;simp only[cond_true,YO]at e;subst e;simp only[YB]at hq;exact⟨qI hta (YL hq.1) hq.2 (hp _ rfl),Shape.new _ _ _ _⟩
  ·cases e
 ·split at e
  ·rename_i sv r k cs el z by' u2 hta
   cases hq:(On r n && X7 (Q1 H r))with
   |false=>rw[hq]at e;cases e
   |true=>
    rw[hq]at e;simp only[cond_true,YO]at e;subst e;simp only[YB]at hq;exact⟨oI hta (YL hq.1) hq.2 (hp _ rfl),Shape.same _ _ _⟩
  ·cases e
 ·rename_i cs';split at e
  ·rename_i b off k r m cs2 z hta;split at e
   ·rename_i cs te hg;cases hq:(On r n && X7 (Q1 H r) && On b n)with
    |false=>rw[hq]at e;cases e
    |true=>
     rw[hq]at e;simp only[cond_true,YO]at e;subst e;simp only[YB]at hq;have hb:=YL hq.2;exact⟨qH hta hg (YL hq.1.1) hq.1.2 hb (hp _ rfl),(Shape.set _ hb).moreR (fun i hi=>by simp at hi ⊢;exact .inl hi)⟩
   ·cases e
  ·cases e
 ·rename_i s;simp only[YO]at e;subst e;exact YV hF Ps (QM P B) hu (hp _ rfl)
 ·rename_i v;split at e
  ·rename_i op t x y yt Zr;split at e
   ·rename_i a b hx hy;cases hq:(af a && af b && af v)with
    |false=>rw[hq]at e;cases e
    |true=>
     rw[hq]at e;simp only[cond_true,YO]at e;subst e;simp only[YB]at hq;have hb:=hp _ rfl;refine⟨K0 (fun c h=>by rw[Zr]at h;cases h) fun μ w ρ _ Zb=> ?_,Shape.same _ _ _⟩;have e1:=SU hq.1.1 (Zb x (by simp[Zr,Op.operands]) _ hx);have e2:=SU hq.1.2 (Zb y (by simp[Zr,Op.operands]) _ hy);refine⟨v, ?_,PJ hq.2⟩;simp only[execOp,Zr,e1,e2];rw[Sem.run_bind,hb x y w];rfl
   ·cases e
  ·cases e
 ·rename_i keys out Ys n' W;split at e
  ·rename_i c Zr;split at e
   ·rename_i g args H1 n1 R W1 hcr;cases hn:(Of n1 n && W1.isEmpty)with
    |false=>rw[hn]at e;cases e
    |true=>
     rw[hn]at e;simp only[cond_true]at e;simp only[YB,List.isEmpty_iff]at hn;obtain⟨JO,rfl⟩:=hn;have JO:=YE JO;subst JO;split at e
     ·rename_i c1 hc1;simp only[YO]at e;subst e;exact Jb hF Zr hu hcr ((hp _ rfl).callJ hc1)
     ·cases e
   ·rename_i l fn tm cda cdb H1 n1 R W1 hcr;cases hn:(Of n1 n && W1.isEmpty && ON tm.size 16000)with
    |false=>rw[hn]at e;cases e
    |true=>
     rw[hn]at e;simp only[cond_true,YO]at e;subst e;simp only[YB,List.isEmpty_iff]at hn;obtain⟨⟨JO,rfl⟩,Z8⟩:=hn;have JO:=YE JO;subst JO;have V1:=FJ.recS (hp _ rfl);have:=YV hF V1 (QM P B) hu (T:=T) (o:=o) (s:=⟨out,Ys++H1,n',R++keys,W⟩) (by
      simp[bY,Zr,hcr,Z8,Sm])
     exact this
   ·cases e
  ·cases e
 ·rename_i out fz;split at e
  ·rename_i c Zr;split at e
   ·rename_i g args H1 n1 R W1 hcr;cases hn:(Of n1 n && W1.isEmpty)with
    |false=>rw[hn]at e;cases e
    |true=>
     rw[hn]at e;simp only[cond_true]at e;simp only[YB,List.isEmpty_iff]at hn;obtain⟨JO,rfl⟩:=hn;have JO:=YE JO;subst JO;split at e
     ·rename_i ts R2 L Wh;cases Xw:(R2.all fun i=>On i n1)with
      |false=>rw[Xw]at e;cases e
      |true=>
       rw[Xw]at e;simp only[cond_true]at e;cases hpl:aa 2 out with
       |true=>
        rw[hpl]at e;simp only[cond_true,YO]at e;subst e;obtain⟨hL,hpc⟩:=hp _ rfl;exact Jb hF Zr hu hcr (yP hJ Wh hL hpc hpl Xw)
       |false=>
        rw[hpl]at e;simp only[cond_false]at e;cases hq:((R2.all fun i=>X7 (Q1 H1 i)) && rL 4 out)with
        |false=>rw[hq]at e;cases e
        |true=>
         rw[hq]at e;simp only[cond_true,YO]at e;subst e;simp only[YB]at hq;obtain⟨hL,hpc⟩:=hp _ rfl;exact Jb hF Zr hu hcr (uh hJ Wh hL hpc Xw hq.1 hq.2)
     ·cases e
   ·cases e
  ·cases e
 ·rename_i out fz;split at e
  ·rename_i c Zr;split at e
   ·rename_i g args H1 n1 R W1 hcr;cases hn:(Of n1 n && W1.isEmpty)with
    |false=>rw[hn]at e;cases e
    |true=>
     rw[hn]at e;simp only[cond_true]at e;simp only[YB,List.isEmpty_iff]at hn;obtain⟨JO,rfl⟩:=hn;have JO:=YE JO;subst JO;split at e
     ·rename_i ts R2 L Wh;cases hq:((R2.all fun i=>On i n1) && (R2.all fun i=>X7 (Q1 H1 i) || aN (Q1 H1 i)) && rL 4 out)with
      |false=>rw[hq]at e;cases e
      |true=>
       rw[hq]at e;simp only[cond_true,YO]at e;subst e;simp only[YB]at hq;obtain⟨hL,hpc⟩:=hp _ rfl;exact Jb hF Zr hu hcr (qX hJ Wh hL hpc hq.1.1 hq.1.2 hq.2)
     ·cases e
   ·cases e
  ·cases e
 ·rename_i κ R ps qs out outs news;split at e
  ·rename_i c Zr;split at e
   ·rename_i g args H1 n1 R0 W1 hcr;cases hn:(Of n1 n && W1.isEmpty)with
    |false=>rw[hn]at e;cases e
    |true=>
     rw[hn]at e;simp only[cond_true]at e;simp only[YB,List.isEmpty_iff]at hn;obtain⟨JO,rfl⟩:=hn;have JO:=YE JO;subst JO;split at e
     ·rename_i as bs o1 Ys L hw;simp only[YO]at e;subst e;obtain⟨hL,hwr⟩:=hp _ rfl;exact Jb hF Zr hu hcr (hwr.callJ hJ κ R ps qs hw hL rfl rfl)
     ·cases e
   ·cases e
  ·cases e
 ·-- a tree that is not nil
  split at e
  ·rename_i op t x y yt Zr;split at e
   ·rename_i v hx hy;split at e
    ·rename_i r m cs el htop hue;cases hq:(On r n && X7 (Q1 H r))with
     |false=>rw[hq]at e;cases e
     |true=>
      rw[hq]at e;simp only[cond_true]at e;simp only[YB]at hq;obtain⟨Xw,WT⟩:=hq;have key:0<m->∀(μ:Mu) (w:World) (ρ:Operand->Value) (im:cm),μ r=some im->(∀x'∈o.op.operands,∀v',Zl T x'=some v'->VR μ v' (ρ x'))->ρ y=.slice none 0 0/\∃p c,ρ x=.slice (some p) m c:=fun hm μ w ρ im QN Zb=>by
       have hv:=Zb x (by simp[Zr,Op.operands]) _ hx;have h2:=Zb y (by simp[Zr,Op.operands]) _ hy;rw[Si htop]at hv;obtain⟨ZB,QT,SI⟩:=hv.top_inv;have e2:ρ y=.slice none 0 0:=by generalize ρ y=z at h2;cases h2;rfl
       refine⟨e2, ?_⟩;rcases SI.slice_inv with ⟨b,o',c',arr,ty,fl,h1,_,_,_,_,_⟩|⟨h0,_⟩
       ·exact⟨_,_,h1⟩
       ·omega
      have heq:∀(p:Addr) (c:Nat) (w:World),(Op.equal t (.slice (some p) m c) (.slice none 0 0)).run P w=.ok false w:=fun p c w=>by
       show(Op.equalIn (9999+1) t (.slice (some p) m c) (.slice none 0 0)).run P w=.ok false w;unfold Op.equalIn;rw[Z1]at hue;simp[Sem.run_bind,run_underlying hue,Sem.run_pure]
      split at e
      ·rename_i hop2;simp only[YO]at e;subst e;have hm:=hp _ rfl;refine⟨Km (YL Xw) WT (fun c h=>by rw[Zr]at h;cases h) fun μ w ρ im QN hf Zb=> ?_,Shape.same _ _ _⟩;obtain⟨e2,p,c,e1⟩:=key hm μ w ρ im QN Zb;exact⟨.bool false,by simp[execOp,Zr,e1,e2,eqGuard,binOp,Sem.run_bind,Sem.run_pure,heq],.bool _⟩
      ·rename_i hop2;simp only[YO]at e;subst e;have hm:=hp _ rfl;refine⟨Km (YL Xw) WT (fun c h=>by rw[Zr]at h;cases h) fun μ w ρ im QN hf Zb=> ?_,Shape.same _ _ _⟩;obtain⟨e2,p,c,e1⟩:=key hm μ w ρ im QN Zb;exact⟨.bool true,by simp[execOp,Zr,e1,e2,eqGuard,binOp,Sem.run_bind,Sem.run_pure,heq],.bool _⟩
      ·cases e
    ·cases e
   ·cases e
  ·cases e
 ·rename_i κ R ps qs out outs news o2;split at e
  ·rename_i c Zr;split at e
   ·rename_i g args H1 n1 R0 W1 hcr;cases hn:(Of n1 n && W1.isEmpty)with
    |false=>rw[hn]at e;cases e
    |true=>
     rw[hn]at e;simp only[cond_true]at e;simp only[YB,List.isEmpty_iff]at hn;obtain⟨JO,rfl⟩:=hn;have JO:=YE JO;subst JO;split at e
     ·rename_i as bs o1 Ys L hw;simp only[YO]at e;subst e;obtain⟨⟨hL,hwr⟩,ho⟩:=hp _ rfl;subst ho;exact Jb hF Zr hu hcr (hwr.callJ hJ κ R ps qs hw hL rfl rfl)
     ·cases e
   ·cases e
  ·cases e
end
abbrev Yr(k:Int)(n:Nat)(xs:Array Value)(t:Nat)(v:Array Value):Prop:=k=(↑k.toNat:Int)/\k.toNat<n/\xs.extract (k.toNat*t) (k.toNat*t+t)=v
abbrev NH(a v r:Array Value)(n f z:Nat):Prop:=a.size=n*f/\n+1<=maxLen/\(n+1)*z<=140737488355328/\a++v=r
end Go.CE

namespace Go.CE
open Go Go.RowKit

abbrev QD:=List (Nat×Qk)
def Lv(sc:QD)(q:Nat):Option Qk×QD:=match sc with
 |(k,h)::l=>bif Of k q then(some h,l)else(none,sc)
 |[]=>(none,[])
structure Nx where
 Q4:List Rec
 T:Tm
 H:Qy
 n:Nat
 sc:QD
 q:Nat
 L:List Prop
 Wp:Option (Value×List Nat×List Nat)
def dC(P:Program)(F:FuncId->Bool)(J:World->Prop)(B:Lo)(ops:Array Oper):List Oper->Tm->Qy->Nat->QD->Nat->List Prop->Option Nx
 |[],T,H,n,sc,q,L=>some ⟨[],T,H,n,sc,q,L,none⟩
 |o::l,T,H,n,sc,q,L=>
  bif Rc T o.dst then
   bif Region.wanted o (XX ops T)then
    match Lv sc q with
    |(h,sc')=>match ND P F J B T o H n h with
     |some ⟨⟨.ret v,H1,n1,R,W⟩,p⟩=>match dC P F J B ops l (VM T o.dst v) H1 n1 sc' (q+1) (more p L)with
      |some r=>some {r with Q4:=⟨o,true,v,T,H,H1,n,n1,R,W⟩::r.Q4}
      |none=>none
     |some ⟨⟨.Wp v,H1,n1,R,W⟩,p⟩=>some ⟨[],T,H1,n1,sc',q+1,more p L,some (v,R,W)⟩
     |none=>none
   else match dC P F J B ops l (VM T o.dst undef) H n sc (q+1) L with
    |some r=>some {r with Q4:=⟨o,false,undef,T,H,H,n,n,[],[]⟩::r.Q4}
    |none=>none
  else none
def Hg(P:Program)(F:FuncId->Bool)(B:Lo)(c:CF)(H:Qy)(n:Nat)(f:Operand)(params:Array Tmp)(assign body:Code)(k:List Item)(keys:List Nat)(out:OO)(Ys:Qy)(n':Nat)(W:List Nat):Option (CF×Qy×Prop):=
 match Zl c.tmps f with
 |some fv=>match Kw c H n params assign body with
  |some (H1,l,ds,_)=>match RI F H1 fv #[.func (.yield l) #[] #[]]with
   |some (.enter g args,_)=>match ZW P g args with
    |some c1=>match out with
     | .ret _=>some ({c with todo:=.endRangeFunc l::k,defers:=ds++c.defers},Ys++H1,FJ P B c1 H1 (l+1) out (Ys++H1) n' keys W)
     | .Wp v=>some ({c with mode:=.Wp v,defers:=ds++c.defers},Ys++H1,FJ P B c1 H1 (l+1) out (Ys++H1) n' keys W)
    |none=>none
   |_=>none
  |none=>none
 |none=>none
def Qu(P:Program)(F:FuncId->Bool)(J:World->Prop)(B:Lo):Nat->Nat->CF->Qy->Nat->QD->Nat->List Nat->List Prop->Option ST
 |0,_,c,H,n,_,_,W,L=>some ⟨.at c H n,W,L⟩
 |k+1,b,c,H,n,sc,q,W,L=>
  match c.mode,c.todo with
  | .run,.code (.region _ ops draw)::todo=>match dC P F J B ops ops.toList c.tmps H n sc q L with
    |some r=>match r.Wp with
     |none=>bif !draw || (Ve 0 ops.toList && indep ops 0 r.Q4 (Pq ops.toList []))then Qu P F J B k b {c with tmps:=r.T,todo:=todo} r.H r.n r.sc r.q (ZR b (Up r.Q4) W) r.L else none
     |some (v,_,W1)=>bif !draw || Tu ops r.Q4 r.T then Qu P F J B k b {c with tmps:=r.T,mode:=.Wp v} r.H r.n r.sc r.q (ZR b (Up r.Q4++W1) W) r.L else none
    |none=>none
  | .run,.code (.rangeFunc f params assign body)::todo=>match Lv sc q with
    |(some (.Za (.call keys out Ys n1 W1)),sc')=>match Hh P F B c H n f params assign body todo keys out Ys n1 W1 with
     |some (c',H',p)=>Qu P F J B k b c' H' n1 sc' q (ZR b W1 W) (p::L)
     |none=>none
    |(some (.call keys out Ys n1 W1),sc')=>match Hg P F B c H n f params assign body todo keys out Ys n1 W1 with
     |some (c',H',p)=>Qu P F J B k b c' H' n1 sc' q (ZR b W1 W) (p::L)
     |none=>none
    |_=>none
  |_,_=>match RB P F X6 (fun _ _ _=>none) c H n with
   |some (.go c' H' n' _ W')=>Qu P F J B k b c' H' n' sc q (ZR b W' W) L
   |some (.done out H' n' _ W')=>some ⟨.fin out H' n',ZR b W' W,L⟩
   |none=>none
section
variable {P:Program} {F:FuncId->Bool} {J:World->Prop} {B:Lo}
theorem PL{ops:Array Oper}:∀(l:List Oper) (T:Tm) (H:Qy) (n:Nat) (sc:QD) (q:Nat) (L:List Prop) (r:Nx),dC P F J B ops l T H n sc q L=some r->Q6 r.L->Q6 L
 |[],T,H,n,sc,q,L,r,h,ha=>by
  simp only[dC,YO]at h;subst h;exact ha
 |o::l,T,H,n,sc,q,L,r,h,ha=>by
  simp only[dC]at h;cases hd:Rc T o.dst with
  |false=>rw[hd]at h;cases h
  |true=>
   rw[hd]at h;simp only[cond_true]at h;cases hw:Region.wanted o (XX ops T)with
   |true=>
    rw[hw]at h;simp only[cond_true]at h;split at h
    ·rename_i v H1 n1 R W p Zr;split at h
     ·rename_i r' hr;simp only[YO]at h;subst h;exact(eX (PL l _ _ _ _ _ _ r' hr ha)).2
     ·cases h
    ·simp only[YO]at h;subst h;exact(eX ha).2
    ·cases h
   |false=>
    rw[hw]at h;simp only[cond_false]at h;split at h
    ·rename_i r' hr;simp only[YO]at h;subst h;exact PL l _ _ _ _ _ _ r' hr ha
    ·cases h
def RegOk(P:Program)(B:Lo)(ops:Array Oper)(l:List Oper)(T:Tm)(H:Qy)(n:Nat)(r:Nx):Prop:=match r.Wp with
 |none=>Yq r.Q4 T H n r.T r.H r.n/\r.Q4.map (·.o)=l/\Under r.H r.n
 |some (v,R,W)=> ∃H1 n1 o l2,Yq r.Q4 T H n r.T H1 n1/\r.Q4.map (·.o)++o::l2=l/\Region.wanted o (XX ops r.T)=true/\SV P B o (Zl r.T) H1 n1 (.Wp v) r.H r.n R W/\Shape H1 n1 r.H r.n R W/\Under r.H r.n
theorem RegOk.cons{ops:Array Oper}{l:List Oper}{T:Tm}{H:Qy}{n:Nat}{r:Nx}{x:Rec}(h:RegOk P B ops l (VM T x.o.dst x.v) x.H' x.n' r)(hT:x.T=T)(hH:x.H=H)(hn:x.n=n):RegOk P B ops (x.o::l) T H n {r with Q4:=x::r.Q4}:=by
 unfold RegOk at h ⊢;cases hp:r.Wp with
 |none=>
  rw[hp]at h;obtain⟨h3,h4,h5⟩:=h;exact⟨⟨hT,hH,hn,h3⟩,by simp[h4],h5⟩
 |some p=>
  obtain⟨v,R,W⟩:=p;rw[hp]at h;obtain⟨H1,n1,o,l2,h1,h2,h3⟩:=h;exact⟨H1,n1,o,l2,⟨hT,hH,hn,h1⟩,by simp[h2],h3⟩
theorem Rl(hF:∀g,F g=true->Q9 P g=true)(hJ:∀w,B.has w->J w){ops:Array Oper}{len:Nat}:∀(l:List Oper) (T:Tm) (H:Qy) (n:Nat) (sc:QD) (q:Nat) (L:List Prop) (r:Nx),T.len=len->Under H n->dC P F J B ops l T H n sc q L=some r->Q6 r.L->
 (∀x∈r.Q4,ca len x)/\(∀x∈r.Q4,RM P B ops x)/\RegOk P B ops l T H n r
 |[],T,H,n,sc,q,L,r,hl,hu,h,ha=>by
  simp only[dC,YO]at h;subst h;exact⟨fun r hr=>by simp at hr,fun r hr=>by simp at hr,⟨rfl,rfl,rfl⟩,rfl,hu⟩
 |o::l,T,H,n,sc,q,L,r,hl,hu,h,ha=>by
  simp only[dC]at h;cases hd:Rc T o.dst with
  |false=>rw[hd]at h;cases h
  |true=>
   have hdst:=Rb hd;rw[hl]at hdst;rw[hd]at h;simp only[cond_true]at h;cases hw:Region.wanted o (XX ops T)with
   |true=>
    rw[hw]at h;simp only[cond_true]at h;split at h
    ·rename_i v H1 n1 R W p Zr;split at h
     ·rename_i r' hr;simp only[YO]at h;subst h;have hpL:=eX (PL l _ _ _ _ _ _ r' hr ha);obtain⟨hdo,RA⟩:=qe hF hJ hu Zr hpL.1;obtain⟨h1,h2,h3⟩:=Rl hF hJ (ops:=ops) (len:=len) l (VM T o.dst v) H1 n1 _ _ _ r' (by rw[Kp];exact hl) (hu.shape RA) hr ha;refine⟨fun x hx=> ?_,fun x hx=> ?_,RegOk.cons (x:=⟨o,true,v,T,H,H1,n,n1,R,W⟩) h3 rfl rfl rfl⟩
      ·rcases List.mem_cons.1 hx with rfl|hx
       ·exact⟨RA.le,RA.keep,RA.top,RA.sub,RA.wlt,hdst⟩
       ·exact h1 x hx
      ·rcases List.mem_cons.1 hx with rfl|hx
       ·exact⟨hw.symm,(fun _=>hdo),(fun e=>by cases e)⟩
       ·exact h2 x hx
     ·cases h
    ·rename_i v H1 n1 R W p Zr;simp only[YO]at h;subst h;obtain⟨hdo,RA⟩:=qe hF hJ hu Zr (eX ha).1;exact⟨fun r hr=>by simp at hr,fun r hr=>by simp at hr,H,n,o,l,⟨rfl,rfl,rfl⟩,rfl,hw,hdo,RA,hu.shape RA⟩
    ·cases h
   |false=>
    rw[hw]at h;simp only[cond_false]at h;split at h
    ·rename_i r' hr;simp only[YO]at h;subst h;obtain⟨h1,h2,h3⟩:=Rl hF hJ (ops:=ops) (len:=len) l (VM T o.dst undef) H n _ _ _ r' (by rw[Kp];exact hl) hu hr ha;refine⟨fun x hx=> ?_,fun x hx=> ?_,RegOk.cons (x:=⟨o,false,undef,T,H,H,n,n,[],[]⟩) h3 rfl rfl rfl⟩
     ·rcases List.mem_cons.1 hx with rfl|hx
      ·exact⟨OE _,fun _ _ _=>rfl,fun _ _=>rfl,fun i hi=>by simp at hi,fun i hi=>by simp at hi,hdst⟩
      ·exact h1 x hx
     ·rcases List.mem_cons.1 hx with rfl|hx
      ·exact⟨hw.symm,(fun e=>by cases e),fun _=>⟨rfl,rfl,rfl,rfl⟩⟩
      ·exact h2 x hx
    ·cases h
theorem oc{c:CF}{H:Qy}{n:Nat}{id:Nat}{ops:Array Oper}{k:List Item}{Q4:List Rec}{v:Value}{H':Qy}{n':Nat}{R W:List Nat}{T':Tm}(hm:c.mode=.run)
 (ht:c.todo=.code (.region id ops false)::k) (hs:∀x∈Q4,ca c.tmps.len x) (hk:∀x∈Q4,RM P B ops x)
 (h:∃H1 n1 o l2,Yq Q4 c.tmps H n T' H1 n1/\Q4.map (·.o)++o::l2=ops.toList/\Region.wanted o (XX ops T')=true/\SV P B o (Zl T') H1 n1 (.Wp v) H' n' R W/\Shape H1 n1 H' n' R W/\Under H' n'):
 GoJ P B c H n {c with tmps:=T',mode:=.Wp v} H' n' (Y9 Q4++R) (Up Q4++W):=by
 obtain⟨H1,n1,o,l2,RY,hmap,Yl,hdo,RA,_⟩:=h;have hown:=KJ (l2:=o::l2) hmap rfl;have hlen:ops.size=Q4.length+(l2.length+1):=by have:=congrArg Oc hmap;simp at this;omega
 have hat:ops[Q4.length]? =some o:=by
  rw[<-Om,<-hmap,Og (by simp)];simp
 have hsh1:=ZX Q4 _ _ _ _ _ _ RY hs;have l1:=hsh1.le;have l3:=RA.le;refine⟨hsh1.trans RA,fun S μ w fr cs Z QF hB hS hf XP hR=> ?_⟩;obtain⟨a,b,d⟩:=XP.running hm;rw[ht]at d;obtain⟨L',e,hL⟩:=d.code;have hf1:Pr μ n n1:=fun q x y=>hf q x (by omega)
 obtain⟨μ1,A1,w1,hp,hT,Wh⟩:=bo (fr:=fr) (cs:=cs) (k:=L') a Q4 0 c.tmps H n T' H1 n1 (OH Q4.length (l2.length+1)) RY hs hk (fun j r hj=>by rw[Oz];exact hown j r hj) rfl S μ w fr.tmps QF hB hS hf1
  (fun q hq Xw=>hR q (Oh _ hq) Xw) b
 have hr:OH 0 Q4.length++OH Q4.length (l2.length+1)=OH 0 ops.size:=by
  rw[hlen];have:=List.range'_append_1 (s:=0) (m:=Q4.length) (n:=l2.length+1);simpa using this
 rw[hr,List.range'_succ]at Wh;obtain⟨Zq,w2,μ2,Ph,ho,hst2⟩:=hdo _ μ1 w1 (X0 fr A1 ops (Q4.length::OH (Q4.length+1) l2.length) L') cs L' ops Q4.length _ hp.ok (hB.post QF hp) (fun q hq=>hq.elim (fun e=>by have:=hS q e;omega) (fun e=>e.2))
  (fun q x y=>by rw[hp.ext q (by omega)];exact hf q (by omega) y) (fun x _ v hv=>qv (fr:=X0 fr A1 ops (Q4.length::OH (Q4.length+1) l2.length) L') hT x v hv) (fun q hq Xw=>by
   rcases OG q n with h1|h1
   ·exact .inl (hR q (Ov _ hq) h1)
   ·exact .inr ⟨h1,Xw⟩) a rfl hat (by rw[show(X0 fr A1 ops (Q4.length::OH (Q4.length+1) l2.length) L').tmps=A1 from rfl,YG hT];exact Yl)
 have hpp:=hp.trans Ph;cases ho with
 |Wp hv=>
  rename_i v';refine⟨{X0 fr A1 ops (Q4.length::OH (Q4.length+1) l2.length) L' with mode:=.panicking [{v:=v',recovered:=false}]},w2,μ2,hpp,⟨XP.fn,hT.mono (Ph.mu fun q x y=>by rw[hp.ext q (by omega)];exact hf q (by omega) y),(fun h=>by cases h),XP.defers.mono (hpp.mu hf),.Wp hv,XP.kind,XP.round.mono (hpp.mu hf)⟩,rfl,rfl,
   .head (Wz a e) (Wh.trans (hst2.trans ?_))⟩
  simp only[OO.on,Frame.raise,X0,a];exact Steps.refl _ _
theorem xR(hF:∀g,F g=true->Q9 P g=true)(Zu:P.follows .mixedOrders=true){c c':CF}{H H':Qy}{n n':Nat}{f:Operand}{params:Array Tmp}{assign body:Code}{k:List Item}{keys W:List Nat}{out:OO}{Ys:Qy}{p:Prop}(hu:Under H n)(hm:c.mode=.run)(ht:c.todo=.code (.rangeFunc f params assign body)::k)
 (h:Hg P F B c H n f params assign body k keys out Ys n' W=some (c',H',p)) (hp:p):∃R,GoJ P B c H n c' H' n' R W:=by
 unfold Hg at h;split at h
 ·rename_i fv hfv;split at h
  ·rename_i H1 l ds R1 ho;split at h
   ·rename_i g args R2 hc;split at h
    ·rename_i c1 he;refine⟨R1++R2++keys, ?_⟩;split at h
     ·rename_i v;simp only[YO,YR]at h;obtain⟨rfl,rfl,rfl⟩:=h;have:RB P F X6 (Tg c1 H1 (l+1) ⟨.ret v,Ys++H1,n',keys,W⟩) c H n=some (.go {c with todo:=.endRangeFunc l::k,defers:=ds++c.defers} (Ys++H1) n' (R1++R2++keys) W):=by
       unfold RB;simp only[hm,ht,hfv,ho,hc,he,Sm]
      exact V6 hF Zu (QM P B) (FJ.recS hp) hu this
     ·rename_i v;simp only[YO,YR]at h;obtain⟨rfl,rfl,rfl⟩:=h;have:RB P F X6 (Tg c1 H1 (l+1) ⟨.Wp v,Ys++H1,n',keys,W⟩) c H n=some (.go {c with mode:=.Wp v,defers:=ds++c.defers} (Ys++H1) n' (R1++R2++keys) W):=by
       unfold RB;simp only[hm,ht,hfv,ho,hc,he,Sm]
      exact V6 hF Zu (QM P B) (FJ.recS hp) hu this
    ·cases h
   ·cases h
  ·cases h
 ·cases h
theorem Tc(b:Nat):∀(fuel:Nat) (c:CF) (H:Qy) (n:Nat) (sc:QD) (q:Nat) (W0:List Nat) (L:List Prop) (s:ST),Qu P F J B fuel b c H n sc q W0 L=some s->Q6 s.L->Q6 L:=by
 intro fuel;induction fuel with
 |zero=>intro c H n sc q W0 L s h ha;simp only[Qu,YO]at h;subst h;exact ha
 |succ k ih=>
  intro c H n sc q W0 L s h ha;simp only[Qu]at h;split at h
  ·split at h
   ·rename_i r' hr';split at h
    ·have h:=Je h;exact PL _ _ _ _ _ _ _ _ hr' (ih _ _ _ _ _ _ _ _ h ha)
    ·exact PL _ _ _ _ _ _ _ _ hr' (ih _ _ _ _ _ _ _ _ (Je h) ha)
   ·cases h
  ·split at h
   ·split at h
    ·exact(ih _ _ _ _ _ _ _ _ h ha).2
    ·cases h
   ·split at h
    ·exact(ih _ _ _ _ _ _ _ _ h ha).2
    ·cases h
   ·cases h
  ·split at h
   ·exact ih _ _ _ _ _ _ _ _ h ha
   ·simp only[YO]at h;subst h;exact ha
   ·cases h
theorem WM(hF:∀g,F g=true->Q9 P g=true)(hJ:∀w,B.has w->J w)(Zu:P.follows .mixedOrders=true):∀(fuel b:Nat) (c:CF) (H:Qy) (n:Nat) (sc:QD) (q:Nat) (W0:List Nat) (L:List Prop) (s:ST),Under H n->Qu P F J B fuel b c H n sc q W0 L=some s->Q6 s.L->
 ∃R W,N6 P B c H n R W s.r/\∀i,i<b->(i∈s.W<->i∈W0\/i∈W)
 |0,b,c,H,n,sc,q,W0,L,s,hu,h,ha=>by
  simp only[Qu,YO]at h;subst h;exact⟨[],[],GoJ.refl c H n,fun i _=>by simp⟩
 |k+1,b,c,H,n,sc,q,W0,L,s,hu,h,ha=>by
  have plain:(match RB P F X6 (fun _ _ _=>none) c H n with
   |some (.go c' H' n' _ W')=>Qu P F J B k b c' H' n' sc q (ZR b W' W0) L
   |some (.done out H' n' _ W')=>some ⟨.fin out H' n',ZR b W' W0,L⟩
   |none=>none)=some s->∃R W,N6 P B c H n R W s.r/\∀i,i<b->(i∈s.W<->i∈W0\/i∈W):=by
   intro h;split at h
   ·rename_i c' H' n' R' W' hs;have T6:GoJ P B c H n c' H' n' R' W':=V6 hF Zu (QM P B) Ps hu hs;obtain⟨R,W,h1,h2⟩:=WM hF hJ Zu k b c' H' n' sc q _ L s (hu.shape T6.shape) h ha;refine⟨_,_,T6.srj h1,fun i hi=> ?_⟩;rw[h2 i hi,Z7 hi,List.mem_append,or_assoc]
   ·rename_i out H' n' R' W' hs;have hdone:FJ P B c H n out H' n' R' W':=V6 hF Zu (QM P B) Ps hu hs;simp only[YO]at h;subst h;exact⟨R',W',hdone,fun i hi=>Z7 hi⟩
   ·cases h
  simp only[Qu]at h;split at h
  ·rename_i id ops draw todo hm ht;split at h
   ·rename_i r hr;cases hpan:r.Wp with
    |none=>
     rw[hpan]at h;simp only at h;cases hd:(!draw || (Ve 0 ops.toList && indep ops 0 r.Q4 (Pq ops.toList [])))with
     |false=>rw[hd]at h;cases h
     |true=>
      rw[hd]at h;simp only[cond_true]at h;have hL:Q6 r.L:=by
       exact Tc b k _ _ _ _ _ _ _ s h ha
      obtain⟨h1,h2,WT⟩:=Rl hF hJ (len:=c.tmps.len) ops.toList c.tmps H n sc q L r rfl hu hr hL;unfold RegOk at WT;rw[hpan]at WT;obtain⟨h3,h4,h5⟩:=WT;have T6:=sk Zu hm ht h1 h2 h3 h4 hd;obtain⟨R,W,k1,k2⟩:=WM hF hJ Zu k b _ _ _ _ _ _ _ s h5 h ha;refine⟨_,_,T6.srj k1,fun i hi=> ?_⟩;rw[k2 i hi,Z7 hi,List.mem_append,or_assoc]
    |some p=>
     obtain⟨v,R1,W1⟩:=p;rw[hpan]at h;simp only at h;cases hd:(!draw || Tu ops r.Q4 r.T)with
     |false=>rw[hd]at h;cases h
     |true=>
      rw[hd]at h;simp only[cond_true]at h;have hL:Q6 r.L:=by
       exact Tc b k _ _ _ _ _ _ _ s h ha
      obtain⟨h1,h2,WT⟩:=Rl hF hJ (len:=c.tmps.len) ops.toList c.tmps H n sc q L r rfl hu hr hL;unfold RegOk at WT;rw[hpan]at WT;have T6:GoJ P B c H n {c with tmps:=r.T,mode:=.Wp v} r.H r.n (Y9 r.Q4++R1) (Up r.Q4++W1):=by
       cases draw with
       |true=>
        obtain⟨H1,n1,o,l2,x1,x2,x3,x4,x5,_⟩:=WT;exact iN Zu hm ht h1 h2 ⟨H1,n1,o,l2,x1,x2,x3,x4,x5⟩ (by simpa using hd)
       |false=>exact oc hm ht h1 h2 WT
      obtain⟨_,_,_,_,_,_,_,_,_,h5⟩:=WT;obtain⟨R,W,k1,k2⟩:=WM hF hJ Zu k b _ _ _ _ _ _ _ s h5 h ha;refine⟨_,_,T6.srj k1,fun i hi=> ?_⟩;rw[k2 i hi,Z7 hi,List.mem_append (s:=Up r.Q4++W1),or_assoc]
   ·cases h
  ·rename_i f params assign body todo hm ht;split at h
   ·rename_i keys out Ys n1 W1 sc' htold;split at h
    ·rename_i c' H' p hi;have hL:=Tc b k _ _ _ _ _ _ _ s h ha;obtain⟨R0,T6⟩:=xS hF Zu hu hm ht hi hL.1;obtain⟨R,W,h1,h2⟩:=WM hF hJ Zu k b _ _ _ _ _ _ _ s (hu.shape T6.shape) h ha;refine⟨_,_,T6.srj h1,fun i hi=> ?_⟩;rw[h2 i hi,Z7 hi,List.mem_append,or_assoc]
    ·cases h
   ·rename_i keys out Ys n1 W1 sc' htold;split at h
    ·rename_i c' H' p hi;have hL:=Tc b k _ _ _ _ _ _ _ s h ha;obtain⟨R0,T6⟩:=xR hF Zu hu hm ht hi hL.1;obtain⟨R,W,h1,h2⟩:=WM hF hJ Zu k b _ _ _ _ _ _ _ s (hu.shape T6.shape) h ha;refine⟨_,_,T6.srj h1,fun i hi=> ?_⟩;rw[h2 i hi,Z7 hi,List.mem_append,or_assoc]
    ·cases h
   ·cases h
  ·exact plain h
end
end Go.CE

namespace Go.CE
open Go Go.RowKit

def JW(H:Qy)(n:Nat):List Nat:=(Oe n).filter fun r=>X7 (Q1 H r)
theorem oY{H:Qy}{n r:Nat}:r∈JW H n<->r<n/\X7 (Q1 H r)=true:=by simp[JW]
noncomputable def j6(n n1:Nat)(ρ:Nat->Nat)(μ μ':Mu)(fm:Nat->Option Obj):Mu:=fun i=>if i=n then some ⟨0,0,0,false,fm⟩else if n<i/\i<n1 then μ' (ρ i)else μ i
structure Ba (n n' n1:Nat) (W:List Nat) (μ μ':Mu) (H H' H1:Qy) (w':World) (ρ:Nat->Nat) (fk:List Nat):Prop where
 le:n<n1
 id:∀i,i<n->ρ i=i
 rng:∀i,n<i->i<n1->n<=ρ i/\ρ i<n'
 inj:∀i j,n<i->i<n1->n<j->j<n1->ρ i=ρ j->i=j
 under:Under H1 n1
 Za:∀i,i<n->i ∉ W->Q1 H1 i=Q1 H i
 JX:Q1 H1 n=some Xk
 obj:∀i o1,i<n1->(n<i\/i∈W/\i<n)->Q1 H1 i=some o1->¬Wa o1/\(live o1->∃o,Q1 H' (ρ i)=some o/\live o/\∀im,μ' (ρ i)=some im->OR μ' w' im o->OR (j6 n n1 ρ μ μ' (YD μ' H' w' (JW H' n'++fk))) w' im o1)
 fz:∀k∈fk,n<=k/\k<n'/\(∃o,Q1 H' k=some o/\live o)/\∀i,n<i->i<n1->ρ i≠k
theorem Post.merge{B n n' n1:Nat}{W:List Nat}{μ μ':Mu}{H H' H1:Qy}{w w':World}{ρ:Nat->Nat}{fk:List Nat}(QF:Ok B (fun i=>i<n) μ (Q1 H) w)(hf:∀i,n<=i->μ i=none)(hp:Post B (fun i=>i<n) n n' W μ μ' H H' w w')(k:Ba n n' n1 W μ μ' H H' H1 w' ρ fk):
 Post B (fun i=>i<n) n n1 W μ (j6 n n1 ρ μ μ' (YD μ' H' w' (JW H' n'++fk))) H H1 w w':=by
 have le1:=k.le;have hlow:∀i,i<n->j6 n n1 ρ μ μ' (YD μ' H' w' (JW H' n'++fk)) i=μ i:=fun i hi=>by unfold j6;rw[if_neg (by omega),if_neg (by omega)]
 have hhigh:∀i,n<i->i<n1->j6 n n1 ρ μ μ' (YD μ' H' w' (JW H' n'++fk)) i=μ' (ρ i):=fun i h1 h2=>by unfold j6;rw[if_neg (by omega),if_pos ⟨h1,h2⟩]
 have hmid:j6 n n1 ρ μ μ' (YD μ' H' w' (JW H' n'++fk)) n=some ⟨0,0,0,false,YD μ' H' w' (JW H' n'++fk)⟩:=by unfold j6;rw[if_pos rfl]
 have hext:Ext μ (j6 n n1 ρ μ μ' (YD μ' H' w' (JW H' n'++fk))):=by
  intro i im QN;rcases OG i n with h|h
  ·rw[hlow i h];exact QN
  ·rw[hf i h]at QN;cases QN
 generalize hM:j6 n n1 ρ μ μ' (YD μ' H' w' (JW H' n'++fk))=μ1 at *;have obj:=k.obj;rw[hM]at obj
 -- an object of the new heap: an Za one that was left, the region, or one of the run
 have other:∀i o im,i<n->i ∉ W->Q1 H i=some o->live o->μ i=some im->w'.heap[im.Zz]? =w.heap[im.Zz]? :=by
  intro i o im hi hw ho hl QN;refine hp.frame _ (QF.low i o im hi ho hl QN).1 fun q hq hqn ZB QT hb=> ?_
  obtain⟨_,⟨oq,hoq,hlq⟩,im2,Vb,hr⟩:=hp.wr q hq hqn;rw[QT]at Vb;cases Vb;by_cases hra:im.rw=true
  ·exact QF.inj q i oq o ZB im hqn hi (fun e=>hw (e ▸ hq)) hoq ho hlq hl QT QN hr hra hb
  ·have a:=(QF.low i o im hi ho hl QN).2.2 (by simpa using hra);have b:=(QF.low q oq ZB hqn hoq hlq QT).2.1 hr;omega
 have hS':∀i,i<n1->i≠n->(ρ i<n\/n<=ρ i/\ρ i<n'):=by
  intro i hi JN;rcases OG i n with h|h
  ·exact .inl (by rw[k.id i h];exact h)
  ·exact .inr (k.rng i (by omega) hi)
 have hmuR:∀i,i<n1->i≠n->μ1 i=μ' (ρ i):=by
  intro i hi JN;rcases OG i n with h|h
  ·rw[hlow i h,k.id i h,hp.ext i (by omega)]
  ·exact hhigh i (by omega) hi
 have YC:∀i,(i<n\/n<=i/\i<n1)->i<n1:=fun i hi=>hi.elim (fun e=>by omega) (fun e=>e.2)
 have liveH':∀i o1,i<n1->Q1 H1 i=some o1->live o1->i≠n/\∃o,Q1 H' (ρ i)=some o/\live o:=by
  intro i o1 hi ho hl;have JN:i≠n:=fun e=>by rw[e,k.JX]at ho;cases ho;exact hl.elim
  refine⟨JN, ?_⟩;by_cases h:n<i\/i∈W/\i<n
  ·obtain⟨o,h1,h2,_⟩:=(obj i o1 hi h ho).2 hl;exact⟨o,h1,h2⟩
  ·have h1:i<n:=by omega
   have h2:i ∉ W:=fun e=>h (.inr ⟨e,h1⟩)
   rw[k.Za i h1 h2]at ho;exact⟨o1,by rw[k.id i h1,hp.keep i h1 h2];exact ho,hl⟩
 have hinj:∀i j,i<n1->j<n1->i≠n->j≠n->ρ i=ρ j->i=j:=by
  intro i j hi hj Pj hjn e;rcases OG i n with h|h <;> rcases OG j n with h'|h'
  ·rw[k.id i h,k.id j h']at e;exact e
  ·have:=k.rng j (by omega) hj;rw[k.id i h]at e;omega
  ·have:=k.rng i (by omega) hi;rw[k.id j h']at e;omega
  ·exact k.inj i j (by omega) hi (by omega) hj e
 have regH1:∀i o,i<n1->Q1 H1 i=some o->Wa o->i=n\/(i<n/\i ∉ W/\Q1 H i=some o/\Q1 H' i=some o):=by
  intro i o hi ho hr;by_cases JN:i=n
  ·exact .inl JN
  ·by_cases h:n<i\/i∈W/\i<n
   ·exact absurd hr (obj i o hi h ho).1
   ·have h1:i<n:=by omega
    have h2:i ∉ W:=fun e=>h (.inr ⟨e,h1⟩)
    rw[k.Za i h1 h2]at ho;exact .inr ⟨h1,h2,ho,by rw[hp.keep i h1 h2];exact ho⟩
 have deadW:∀q,q∈W->q<n->(∀o,Q1 H' q=some o->¬live o)->∀o,Q1 H1 q=some o->¬live o:=by
  intro q hq hqn hd o ho hl;obtain⟨_,o',h5,h6⟩:=liveH' q o (by omega) ho hl;rw[k.id q hqn]at h5;exact hd o' h5 h6
 -- what stands in the region
 have fmCase:∀b x,YD μ' H' w' (JW H' n'++fk) b=some x->w'.heap[b]? =some x/\((∃r o im,r<n'/\Q1 H' r=some o/\Wa o/\μ' r=some im/\im.fm b=some x)\/∃q o im,q∈fk/\Q1 H' q=some o/\live o/\μ' q=some im/\im.Zz=b):=by
  intro b x h;have hw:=Vy h;refine⟨hw, ?_⟩;unfold YD at h;split at h
  ·rename_i hc;obtain⟨i,hi,o,im,ho,QN,Ym⟩:=hc;rcases List.mem_append.1 hi with hi|hi
   ·obtain⟨Xw,Yu⟩:=oY.1 hi;obtain⟨o',K6,hr'⟩:=ZI Yu;rw[ho]at K6;cases K6;rcases Ym with ⟨_,JN⟩|⟨hl,_⟩
    ·cases hx:im.fm b with
     |none=>exact absurd hx JN
     |some y=>
      obtain⟨ZB,QT,hf'⟩:=hp.ok.JX i o (by rcases OG i n with h|h;exact .inl h;exact .inr ⟨h,Xw⟩) ho hr'
      rw[QN]at QT;cases QT;have:=hf' b y hx;rw[hw]at this;cases this;exact .inl ⟨i,o,im,Xw,ho,hr',QN,hx⟩
    ·exact absurd hl (by cases o <;> first|exact id|exact hr'.elim)
   ·obtain⟨h1,h2,⟨o',K6,hl'⟩,_⟩:=k.fz i hi;rw[ho]at K6;cases K6;rcases Ym with ⟨hr,_⟩|⟨hl,hb⟩
    ·exact absurd hl' (by cases o <;> first|exact id|exact hr.elim)
    ·exact .inr ⟨i,o,im,hi,ho,hl,QN,hb⟩
  ·cases h
 have hin':∀r,r<n'->(r<n\/n<=r/\r<n'):=fun r h=>by omega
 refine⟨⟨fun i o hi ho hl=> ?_,fun i o im hi ho hl QN=> ?_,fun i j oi oj a b hi hj T4 Wk Wj Sd Uq ha hb hra Yu=> ?_,fun i o hi ho hr=> ?_,fun i j oi oj a b x hi hj Wk Wj JT Uq ha hb Yu hx=> ?_⟩,by omega,fun i hi=> ?_,fun i hi hw=>k.Za i hi hw,hp.grow,hp.frame,hp.wr,fun i im o h1 h2 ho hl QN=> ?_,fun i im o hi ho hr QN b x hx=> ?_,hp.os,hp.tape,hp.output⟩
 ·have hi1:=YC i hi;have JN:=(liveH' i o hi1 ho hl).1;by_cases h:n<i\/i∈W/\i<n
  ·obtain⟨o',h1,h2,h4⟩:=(obj i o hi1 h ho).2 hl;obtain⟨im,QN,ZS⟩:=hp.ok.rel (ρ i) o' (hS' i hi1 JN) h1 h2;exact⟨im,by rw[hmuR i hi1 JN];exact QN,h4 im QN ZS⟩
  ·have h1:i<n:=by omega
   have h2:i ∉ W:=fun e=>h (.inr ⟨e,h1⟩)
   rw[k.Za i h1 h2]at ho;obtain⟨im,QN,ZS⟩:=QF.rel i o h1 ho hl;exact⟨im,hext _ _ QN,ZS.keep hext (other i o im h1 h2 ho hl QN)⟩
 ·have hi1:=YC i hi;obtain⟨JN,o',h1,h2⟩:=liveH' i o hi1 ho hl;rw[hmuR i hi1 JN]at QN;exact hp.ok.low (ρ i) o' im (hS' i hi1 JN) h1 h2 QN
 ·have hi1:=YC i hi;have hj1:=YC j hj;obtain⟨hni,o1,h1,h2⟩:=liveH' i oi hi1 Wk Sd;obtain⟨hnj,o2,h3,h4⟩:=liveH' j oj hj1 Wj Uq;rw[hmuR i hi1 hni]at ha;rw[hmuR j hj1 hnj]at hb;exact hp.ok.inj (ρ i) (ρ j) o1 o2 a b (hS' i hi1 hni) (hS' j hj1 hnj) (fun e=>T4 (hinj i j hi1 hj1 hni hnj e)) h1 h3 h2 h4 ha hb hra Yu
 ·rcases regH1 i o (YC i hi) ho hr with Pj|⟨h1,h2,h3,h4⟩
  ·rw[Pj];exact⟨_,hmid,fun b x h=>Vy h⟩
  ·obtain⟨im,QN,hf'⟩:=hp.ok.JX i o (.inl h1) h4 hr;rw[hp.ext i (by omega)]at QN;exact⟨im,hext _ _ QN,hf'⟩
 ·have hj1:=YC j hj;obtain⟨hnj,o2,h3,h4⟩:=liveH' j oj hj1 Wj Uq;rw[hmuR j hj1 hnj]at hb;rcases regH1 i oi (YC i hi) Wk JT with Pj|⟨h1,h2,h5,h6⟩
  ·rw[Pj,hmid]at ha;cases ha;obtain⟨_,Ym⟩:=fmCase _ _ hx;rcases Ym with ⟨r,o,im,Xw,ho,hr,QN,hfx⟩|⟨q,o,im,hq,ho,hl,QN,hbb⟩
   ·exact hp.ok.sep r (ρ j) o o2 im b x (hin' r Xw) (hS' j hj1 hnj) ho h3 hr h4 QN hb Yu hfx
   ·obtain⟨q1,q2,_,q3⟩:=k.fz q hq;have JN:q≠ρ j:=by
     intro e;rcases OG j n with h|h
     ·rw[k.id j h]at e;omega
     ·exact q3 j (by omega) hj1 e.symm
    have Ui:=(hp.fresh q im o q1 q2 ho hl QN).1;exact hp.ok.inj q (ρ j) o o2 im b (hin' q q2) (hS' j hj1 hnj) JN ho h3 hl h4 QN hb Ui Yu hbb
  ·rw[hlow i h1]at ha;exact hp.ok.sep i (ρ j) oi o2 a b x (.inl h1) (hS' j hj1 hnj) h6 h3 JT h4 (by rw[hp.ext i (by omega)];exact ha) hb Yu hx
 ·rw[<-hM];unfold j6;rw[if_neg (by omega),if_neg (by omega)]
 ·obtain⟨JN,o',h3,h4⟩:=liveH' i o h2 ho hl;rw[hmuR i h2 JN]at QN;obtain⟨a,b⟩:=k.rng i (by omega) h2;obtain⟨hr,XP⟩:=hp.fresh (ρ i) im o' a b h3 h4 QN;exact⟨hr,XP.imp id fun⟨q,hq,hqn,hb,hd⟩=>⟨q,hq,hqn,hb,deadW q hq hqn hd⟩⟩
 ·have hi1:i<n1:=by omega
  rcases regH1 i o hi1 ho hr with Pj|⟨h1,h2,_⟩
  ·rw[Pj,hmid]at QN;cases QN;obtain⟨_,Ym⟩:=fmCase _ _ hx;rcases Ym with ⟨r,o,im,Xw,ho,hr,QN,hfx⟩|⟨q,o,im,hq,ho,hl,QN,hbb⟩
   ·by_cases hx:n<=r/\r<n'\/r∈W/\r<n
    ·rcases hp.rf r im o hx ho hr QN b x hfx with c|c|⟨q,hq,hqn,hb,hd⟩
     ·exact .inl c
     ·exact .inr (.inl c)
     ·exact .inr (.inr ⟨q,hq,hqn,hb,deadW q hq hqn hd⟩)
    ·have h:r<n:=by omega
     rw[hp.keep r h fun e=>hx (.inr ⟨e,h⟩)]at ho;rw[hp.ext r (by omega)]at QN;exact .inr (.inl ⟨r,im,o,h,h,ho,hr,QN,hfx⟩)
   ·obtain⟨q1,q2,_,_⟩:=k.fz q hq;rcases(hp.fresh q im o q1 q2 ho hl QN).2 with c|⟨q',hq',hqn,⟨ZB,QT,hb'⟩,hd⟩
    ·exact .inl (by omega)
    ·exact .inr (.inr ⟨q',hq',hqn,⟨ZB,QT,by omega⟩,deadW q' hq' hqn hd⟩)
  ·rcases hi with hi|hi
   ·omega
   ·exact absurd hi.1 h2
end Go.CE

namespace Go.CE
open Go Go.RowKit

section
variable (H:Qy) (m:Nat) (pos:Nat->Option Nat) (fz:List Fz)
def LB(v:Value):Option (Value×List Prop):=bif simple v then some (v,[])else match v with
 | .func (.via r ⟨[]⟩ 0 true) ⟨[t]⟩ ⟨[]⟩=>bif X7 (Q1 H r) && Va t then some (Q2 ((pos r).getD m) t,[])else none
 | .pointer (some ⟨k,o,none⟩)=>match pos k with
   |some j=>some (.pointer (some ⟨j,o,none⟩),[])
   |none=>match iP fz k,Q1 H k with
    |some x,some (.cells cs _ (0,0))=>bif x.rs.all fun r=>X7 (Q1 H r)then some (Q2 m (Ss o x.cs),[Zn x.rs cs x.cs])else none
    |_,_=>some (.chan none,[])
 | .slice (some ⟨k,o,none⟩) n z=>match pos k with
   |some j=>some (.slice (some ⟨j,o,none⟩) n z,[])
   |none=>match o,iP fz k,Q1 H k with
    |0,some x,some (.cells cs _ (0,0))=>bif x.rs.all fun r=>X7 (Q1 H r)then some (Q2 m (QI n x.cs),[Zn x.rs cs x.cs])else none
    |_,_,_=>some (.chan none,[])
 | .map (some r)=>match pos r with
   |some j=>some (.map (some j),[])
   |none=>some (.chan none,[])
 | .func (.yield l) ⟨[]⟩ ⟨[]⟩=>match pos l with
   |some j=>some (.func (.yield j) #[] #[],[])
   |none=>some (.chan none,[])
 | .chan none=>some (.chan none,[])
 |_=>none
def sw(f:Value->Option (Value×List Prop)):List Value->Option (List Value×List Prop)
 |[]=>some ([],[])
 |v::l=>match f v with
  |some (t,L)=>match sw f l with
   |some (ts,L2)=>some (t::ts,L++L2)
   |none=>none
  |none=>none
def yd:Nat->Value->Option (Value×List Prop)
 |0,v=>LB H m pos fz v
 |f+1,v=>match v with
  | .agg xs=>match sw (yd f) xs.toList with
    |some (l,L)=>some (.agg l.toArray,L)
    |none=>none
  | .tuple xs=>match sw (yd f) xs.toList with
    |some (l,L)=>some (.tuple l.toArray,L)
    |none=>none
  | .iface t x=>match yd f x with
    |some (x,L)=>some (.iface t x,L)
    |none=>none
  | .func (.func g) xs ys=>match sw (yd f) xs.toList with
    |some (l,L)=>match sw (yd f) ys.toList with
     |some (k,L2)=>some (.func (.func g) l.toArray k.toArray,L++L2)
     |none=>none
    |none=>none
  |v=>LB H m pos fz v
def N0(rs:List Nat)(v v1:Value):Prop:=(simple v=true/\v1=v)\/∃r∈rs,∃t,v=Q2 r t/\v1=Q2 m t/\Va t=true
def QE(rs:List Nat)(cs cs1:Array Value):Prop:=cs.size=cs1.size/\∀(i:Nat) v v1,cs[i]? =some v->cs1[i]? =some v1->N0 m rs v v1
end
theorem Qn{m:Nat}{rs:List Nat}{cs:Array Value}(h:∀v∈cs,simple v=true):QE m rs cs cs:=⟨rfl,fun i v v1 h1 h2=>by
 rw[h1]at h2;cases h2;exact .inl ⟨h v (OK h1),rfl⟩⟩
inductive jb (m:Nat) (rs:List (Nat×Nat)) (YF:List (Nat×Array Value)) (ow:List (Nat×Nat)):Value->Value->Prop
 |simple {v}:CE.simple v=true->jb m rs YF ow v v
 |JX {r j t}:(r,j)∈rs->Va t=true->jb m rs YF ow (Q2 r t) (Q2 j t)
 |own {k cs n c}:(k,cs)∈YF->jb m rs YF ow (.slice (some ⟨k,0,none⟩) n c) (Q2 m (QI n cs))
 |nil:jb m rs YF ow (.slice none 0 0) (Q2 m (QI 0 #[]))
 |keep {k j n c}:(k,j)∈ow->jb m rs YF ow (.slice (some ⟨k,0,none⟩) n c) (.slice (some ⟨j,0,none⟩) n c)
def AllX(m:Nat)(rs:List (Nat×Nat))(YF:List (Nat×Array Value))(ow:List (Nat×Nat)):List Value->List Value->Prop
 |[],[]=>True
 |v::l,u::k=>jb m rs YF ow v u/\AllX m rs YF ow l k
 |_,_=>False
def Zw(m:Nat)(rs:List (Nat×Nat))(YF:List (Nat×Array Value))(ow:List (Nat×Nat))(cs cs1:Array Value):Prop:=AllX m rs YF ow cs.toList cs1.toList
theorem AllX.get{m:Nat}{rs:List (Nat×Nat)}{YF:List (Nat×Array Value)}{ow:List (Nat×Nat)}:∀{l k:List Value},AllX m rs YF ow l k->k.length=l.length/\∀(i:Nat) v u,l[i]? =some v->k[i]? =some u->jb m rs YF ow v u
 |[],[],_=>⟨rfl,fun i v u h=>by simp at h⟩
 |v::l,u::k,h=>by
  obtain⟨a,b⟩:=AllX.get h.2;refine⟨by simp[a],fun i x y hx hy=> ?_⟩;cases i with
  |zero=>
   simp only[Oq,YO]at hx hy;subst hx hy;exact h.1
  |succ i=>exact b i x y (by simpa using hx) (by simpa using hy)
 |[],_::_,h=>h.elim
 |_::_,[],h=>h.elim
theorem AllX.append{m:Nat}{rs:List (Nat×Nat)}{YF:List (Nat×Array Value)}{ow:List (Nat×Nat)}:∀{l k l2 k2:List Value},AllX m rs YF ow l k->AllX m rs YF ow l2 k2->AllX m rs YF ow (l++l2) (k++k2)
 |[],[],_,_,_,h2=>h2
 |_::_,_::_,_,_,h,h2=>⟨h.1,AllX.append h.2 h2⟩
 |[],_::_,_,_,h,_=>h.elim
 |_::_,[],_,_,h,_=>h.elim
section
variable {B:Nat} {S:Nat->Prop} {H:Qy} {m:Nat} {pos:Nat->Option Nat} {fz:List Fz} {μ μ1:Mu} {w:World} {n':Nat} {fk:List Nat} {im1:cm}
structure yp (H:Qy) (m:Nat) (pos:Nat->Option Nat) (fz:List Fz) (μ μ1:Mu) (w:World) (n':Nat) (fk:List Nat) (im1:cm):Prop where
 ok:∃B S,Ok B S μ (Q1 H) w/\∀i,i<n'->S i
 under:Under H n'
 here:∀k j,pos k=some j->μ1 j=μ k
 JX:μ1 m=some im1
 fm:im1.fm=YD μ H w (JW H n'++fk)
 sub:∀x∈fz,x.k∈fk
theorem gC:∀(l:List Fz) (k:Nat) (x:Fz),iP l k=some x->x∈l/\x.k=k
 |[],k,x,h=>by cases h
 |y::l,k,x,h=>by
  simp only[iP]at h;cases e:Of y.k k with
  |true=>
   rw[e]at h;simp only[cond_true,YO]at h;subst h;exact⟨by simp,YE e⟩
  |false=>
   rw[e]at h;obtain⟨h1,h2⟩:=gC l k x h;exact⟨Ot _ h1,h2⟩
theorem El(hu:Under H n'){r:Nat}(h:X7 (Q1 H r)=true):r<n':=by
 obtain⟨o,ho,_⟩:=ZI h;exact hu.lt ho
theorem fy(c:yp H m pos fz μ μ1 w n' fk im1){r:Nat}(hr:X7 (Q1 H r)=true){im:cm}(QN:μ r=some im){b:Nat}{x:Obj}(hx:im.fm b=some x):im1.fm b=some x:=by
 obtain⟨B,S,QF,hS⟩:=c.ok;rw[c.fm];have Xw:=El c.under hr;exact jL QF (Oh _ (oY.2 ⟨Xw,hr⟩)) (hS r Xw) hr QN hx
theorem iT(c:yp H m pos fz μ μ1 w n' fk im1){rs:List Nat}(WT:(rs.all fun r=>X7 (Q1 H r))=true){v v1 v':Value}(h:oE rs v v1)(hv:VR μ v v'):TRv im1.fm v1 v':=by
 rcases h with ⟨h1,rfl⟩|⟨r,hr,rfl,_⟩
 ·rw[simple_eq h1 hv];exact .simple h1
 ·obtain⟨im,QN,ht⟩:=hv.top_inv;exact ht.mono fun b x hx=>fy c (List.all_eq_true.1 WT r hr) QN hx
theorem SN(c:yp H m pos fz μ μ1 w n' fk im1){v v' t:Value}{L:List Prop}(h:LB H m pos fz v=some (t,L))(hL:Q6 L)(hv:VR μ v v'):VR μ1 t v':=by
 obtain⟨B,S,QF,hS⟩:=c.ok;have addr:∀{k j o:Nat} {a':Addr},pos k=some j->AR μ ⟨k,o,none⟩ a'->AR μ1 ⟨j,o,none⟩ a':=by
  rintro k j o a' hp ⟨im,h1,h2,h3⟩;exact⟨im,by rw[c.here k j hp];exact h1,rfl,h3⟩
 unfold LB at h;cases hs:simple v with
 |true=>
  rw[hs]at h;simp only[cond_true,YO,YR]at h;obtain⟨rfl,rfl⟩:=h;rw[simple_eq hs hv];exact ZN hs
 |false=>
  rw[hs]at h;simp only[cond_false]at h;split at h
  ·rename_i r t0;cases hg:(X7 (Q1 H r) && Va t0)with
   |false=>rw[hg]at h;cases h
   |true=>
    rw[hg]at h;simp only[cond_true,YO,YR]at h;obtain⟨rfl,rfl⟩:=h;simp only[YB]at hg;obtain⟨im,QN,ht⟩:=VR.top_inv (r:=r) (t:=t0) hv;cases hp:pos r with
    |none=>exact .top hg.2 c.JX (ht.mono fun b x hx=>fy c hg.1 QN hx)
    |some j=>exact .top hg.2 (by rw[Option.getD_some,c.here r j hp];exact QN) ht
  ·rename_i k o;split at h
   ·rename_i j hj;simp only[YO,YR]at h;obtain⟨rfl,rfl⟩:=h;cases hv with
    |ptr har=>exact .ptr (addr hj har)
   ·split at h
    ·rename_i x cs ty hx hg;cases hr:(x.rs.all fun r=>X7 (Q1 H r))with
     |false=>rw[hr]at h;cases h
     |true=>
      rw[hr]at h;simp only[cond_true,YO,YR]at h;obtain⟨rfl,rfl⟩:=h;obtain⟨⟨h2,h3⟩,_⟩:=hL;obtain⟨hxm,hxk⟩:=gC _ _ _ hx;have hkf:k∈fk:=hxk ▸ c.sub x hxm;obtain⟨im,arr,QN,_,hoff,harr,hle,_,hcells⟩:=bP QF (hS k (c.under.lt hg)) hg;cases hv with
      |ptr har=>
       obtain⟨im2,Vb,_,rfl⟩:=har;rw[QN]at Vb;cases Vb;rw[hoff];refine .top rfl c.JX (TRv.ptr (o:=0) (by rw[c.fm];exact(jM (Ov _ hkf) hg trivial QN).trans harr) (fun i hi=>by omega) fun i v v' hv ZT=> ?_);simp only[Oz]at ZT;have hi:i<cs.size:=by rw[h2];exact(Array.getElem?_eq_some_iff.1 hv).1
       obtain⟨u,hu1,hu2⟩:=hcells i cs[i] (by simp[hi]);rw[ZT]at hu1;cases hu1;exact iT c hr (h3 i _ _ (by simp[hi]) hv) hu2
    ·simp only[YO,YR]at h;obtain⟨rfl,rfl⟩:=h;cases hv;exact .Y3 (fun b e=>by cases e) rfl rfl
  ·rename_i k o n z;split at h
   ·rename_i j hj;simp only[YO,YR]at h;obtain⟨rfl,rfl⟩:=h;cases hv with
    |slice har a b d=>
     refine .slice (addr hj har) a b fun hz im QN Ui hoff=>d hz im ?_ Ui hoff
     rw[<-c.here k j hj];exact QN
   ·split at h
    ·rename_i x cs ty hx hg;cases hr:(x.rs.all fun r=>X7 (Q1 H r))with
     |false=>rw[hr]at h;cases h
     |true=>
      rw[hr]at h;simp only[cond_true,YO,YR]at h;obtain⟨rfl,rfl⟩:=h;obtain⟨⟨h2,h3⟩,_⟩:=hL;obtain⟨hxm,hxk⟩:=gC _ _ _ hx;have hkf:k∈fk:=hxk ▸ c.sub x hxm;obtain⟨im,arr,QN,_,hoff,harr,hle,_,hcells⟩:=bP QF (hS k (c.under.lt hg)) hg;cases hv with
      |slice har a b _=>
       obtain⟨im2,Vb,_,rfl⟩:=har;rw[QN]at Vb;cases Vb;rw[hoff];refine .top rfl c.JX (TRv.slice (o:=0) a b (by rw[c.fm];exact(jM (Ov _ hkf) hg trivial QN).trans harr) (fun i hi=>by omega) fun i v v' hv ZT=> ?_);simp only[Oz]at ZT;have hi:i<cs.size:=by rw[h2];exact(Array.getElem?_eq_some_iff.1 hv).1
       obtain⟨u,hu1,hu2⟩:=hcells i cs[i] (by simp[hi]);rw[ZT]at hu1;cases hu1;exact iT c hr (h3 i _ _ (by simp[hi]) hv) hu2
    ·simp only[YO,YR]at h;obtain⟨rfl,rfl⟩:=h;cases hv;exact .Y3 (fun b e=>by cases e) rfl rfl
  ·rename_i r;split at h
   ·rename_i j hj;simp only[YO,YR]at h;obtain⟨rfl,rfl⟩:=h;cases hv with
    |map hr=>exact .map (by rw[c.here r j hj];exact hr)
   ·simp only[YO,YR]at h;obtain⟨rfl,rfl⟩:=h;cases hv;exact .Y3 (fun b e=>by cases e) rfl rfl
  ·rename_i l;split at h
   ·rename_i j hj;simp only[YO,YR]at h;obtain⟨rfl,rfl⟩:=h;cases hv with
    |yield hl=>exact .yield (by rw[c.here l j hj];exact hl)
   ·simp only[YO,YR]at h;obtain⟨rfl,rfl⟩:=h;cases hv;exact .Y3 (fun b e=>by cases e) rfl rfl
  ·simp only[YO,YR]at h;obtain⟨rfl,rfl⟩:=h;cases hv with
   |Y3 a b c=>exact .Y3 a b c
  ·cases h
theorem gI{f:Value->Option (Value×List Prop)}(hf:∀v v' t L,f v=some (t,L)->Q6 L->VR μ v v'->VR μ1 t v'):∀(l ts:List Value) (L:List Prop) (l':List Value),sw f l=some (ts,L)->Q6 L->l.length=l'.length->(∀(i:Nat) v v',l[i]? =some v->l'[i]? =some v'->VR μ v v')->
 ts.length=l'.length/\∀(i:Nat) v v',ts[i]? =some v->l'[i]? =some v'->VR μ1 v v'
 |[],ts,L,l',h,hL,hl,hv=>by
  simp only[sw,YO,YR]at h;obtain⟨rfl,rfl⟩:=h;exact⟨hl,fun i v v' h=>by simp at h⟩
 |v::l,ts,L,[],h,hL,hl,hv=>by simp at hl
 |v::l,ts,L,v'::l',h,hL,hl,hv=>by
  simp only[sw]at h;split at h
  ·rename_i t L1 h1;split at h
   ·rename_i ts2 L2 h2;simp only[YO,YR]at h;obtain⟨rfl,rfl⟩:=h;obtain⟨a,b⟩:=XE hL;have k1:=hf v v' t L1 h1 a (hv 0 v v' rfl rfl);obtain⟨k2,k3⟩:=gI hf l ts2 L2 l' h2 b (by simpa using hl) fun i u u' x y=>hv (i+1) u u' (by simpa using x) (by simpa using y)
    refine⟨by simp[k2],fun i u u' x y=> ?_⟩;cases i with
    |zero=>
     simp only[Oq,YO]at x y;subst x y;exact k1
    |succ i=>exact k3 i u u' (by simpa using x) (by simpa using y)
   ·cases h
  ·cases h
theorem Yp(c:yp H m pos fz μ μ1 w n' fk im1):∀(f:Nat) (v v' t:Value) (L:List Prop),yd H m pos fz f v=some (t,L)->Q6 L->VR μ v v'->VR μ1 t v'
 |0,v,v',t,L,h,hL,hv=>SN c h hL hv
 |f+1,v,v',t,L,h,hL,hv=>by
  have arr:∀{xs xs':Array Value} {l:List Value} {L:List Prop},sw (yd H m pos fz f) xs.toList=some (l,L)->Q6 L->xs.size=xs'.size->(∀(i:Nat) v v',xs[i]? =some v->xs'[i]? =some v'->VR μ v v')->l.toArray.size=xs'.size/\∀(i:Nat) v v',l.toArray[i]? =some v->xs'[i]? =some v'->VR μ1 v v':=by
   intro xs xs' l L h hL hs hx;obtain⟨a,b⟩:=gI (fun v v' t L=>Yp c f v v' t L) xs.toList l L xs'.toList h hL (by simpa using hs) fun i v v' x y=>hx i v v' (by simpa using x) (by simpa using y)
   exact⟨by simpa using a,fun i v v' x y=>b i v v' (by simpa using x) (by simpa using y)⟩
  cases v with
  |agg xs=>
   simp only[yd]at h;split at h
   ·rename_i l L1 hl;simp only[YO,YR]at h;obtain⟨rfl,rfl⟩:=h;cases hv with
    |agg h1 h2=>exact .agg (arr hl hL h1 h2).1 (arr hl hL h1 h2).2
   ·cases h
  |tuple xs=>
   simp only[yd]at h;split at h
   ·rename_i l L1 hl;simp only[YO,YR]at h;obtain⟨rfl,rfl⟩:=h;cases hv with
    |tuple h1 h2=>exact .tuple (arr hl hL h1 h2).1 (arr hl hL h1 h2).2
   ·cases h
  |iface ty x=>
   simp only[yd]at h;split at h
   ·rename_i l L1 hl;simp only[YO,YR]at h;obtain⟨rfl,rfl⟩:=h;cases hv with
    |iface hv=>exact .iface (Yp c f _ _ _ _ hl hL hv)
   ·cases h
  |func fn xs ys=>
   cases fn with
   |func g=>
    simp only[yd]at h;split at h
    ·rename_i l L1 hl;split at h
     ·rename_i k L2 hk;simp only[YO,YR]at h;obtain⟨rfl,rfl⟩:=h;obtain⟨a,b⟩:=XE hL;cases hv with
      |func h1 h2 h3 h4=>
       have k1:=arr hl a h1 h3;have k2:=arr hk b h2 h4;exact .func k1.1 k2.1 k1.2 k2.2
     ·cases h
    ·cases h
   |_=>exact SN (fz:=fz) c (by exact h) hL hv
  |_=>exact SN (fz:=fz) c (by exact h) hL hv
end
inductive KS where
 |auto
 |cells (rs:List Nat) (cs:Array Value)
 |same
 |dead
 |rows (rs:List (Nat×Nat)) (ks:List Nat) (ow:List (Nat×Nat)) (cs:Array Value)
def Hf(pos:Nat->Option Nat)(p:Nat×Nat):Bool:=match pos p.1 with
 |some j=>Of j p.2
 |none=>false
def HB(H:Qy)(pos:Nat->Option Nat)(fz:List Fz):List Nat->Option (List (Nat×Array Value)×List Prop)
 |[]=>some ([],[])
 |k::l=>match pos k,iP fz k,Q1 H k with
  |none,some x,some (.cells cs _ (0,0))=>bif x.rs.all fun r=>X7 (Q1 H r)then match HB H pos fz l with
   |some (YF,L)=>some ((k,x.cs)::YF,Zn x.rs cs x.cs::L)
   |none=>none
    else none
  |_,_,_=>none
theorem ye{H:Qy}{m:Nat}{pos:Nat->Option Nat}{fz:List Fz}:∀(ks:List Nat) (YF:List (Nat×Array Value)) (L:List Prop),HB H pos fz ks=some (YF,L)->Q6 L->∀k cs n c,(k,cs)∈YF->∃L',LB H m pos fz (.slice (some ⟨k,0,none⟩) n c)=some (Q2 m (QI n cs),L')/\Q6 L'
 |[],YF,L,h,hL,k,cs,n,c,hm=>by
  simp only[HB,YO,YR]at h;obtain⟨rfl,rfl⟩:=h;simp at hm
 |k0::l,YF,L,h,hL,k,cs,n,c,hm=>by
  simp only[HB]at h;split at h
  ·rename_i x cs0 t0 h1 h2 h3;cases hr:(x.rs.all fun r=>X7 (Q1 H r))with
   |false=>rw[hr]at h;cases h
   |true=>
    rw[hr]at h;simp only[cond_true]at h;split at h
    ·rename_i frs2 L2 h4;simp only[YO,YR]at h;obtain⟨rfl,rfl⟩:=h;rcases List.mem_cons.1 hm with e|e
     ·simp only[YR]at e;obtain⟨rfl,rfl⟩:=e;refine⟨[Zn x.rs cs0 x.cs], ?_,hL.1,trivial⟩;unfold LB;have hs:simple (.slice (some ⟨k,0,none⟩) n c)=false:=rfl;rw[hs];simp only[cond_false,h1,h2,h3,hr,cond_true]
     ·exact ye l frs2 L2 h4 hL.2 k cs n c e
    ·cases h
  ·cases h
def MK(H:Qy)(m:Nat)(pos:Nat->Option Nat)(fz:List Fz):Option Obj->KS->Option (Obj×List Prop)
 |some (.cells cs t fl),.auto=>match sw (yd H m pos fz 3) cs.toList with
  |some (l,L)=>some (.cells l.toArray t fl,L)
  |none=>none
 |some (.cells cs t fl),.cells rs cs1=>bif rs.all fun r=>X7 (Q1 H r)then some (.cells cs1 t fl,[QE m rs cs cs1])else none
 |some (.cells cs t fl),.rows rs ks ow cs1=>bif (rs.all fun p=>X7 (Q1 H p.1) && Of ((pos p.1).getD m) p.2) && ow.all (Hf pos)then match HB H pos fz ks with
  |some (YF,L)=>some (.cells cs1 t fl,Zw m rs YF ow cs cs1::L)
  |none=>none
   else none
 |some (.map es RG),.same=>some (.map es RG,[uw es])
 |some (.loop r),.auto=>match sw (yd H m pos fz 3) r.tmps.toList with
  |some (l,L)=>some (.loop {r with tmps:=l.toArray},L)
  |none=>none
 |some (.deferred ds),.same=>some (.deferred ds,[])
 |some (.pending _ _),.dead=>some (.pending #[] 0,[])
 |_,_=>none
theorem SO{H:Qy}{m:Nat}{pos:Nat->Option Nat}{fz:List Fz}{μ μ1:Mu}{w:World}{n':Nat}{fk:List Nat}{im1:cm}(c:yp H m pos fz μ μ1 w n' fk im1){o:Option Obj}{s:KS}{o1:Obj}{L:List Prop}(h:MK H m pos fz o s=some (o1,L))(hL:Q6 L):
 (∃x,o=some x)/\¬Wa o1/\(live o1->∃x,o=some x/\live x/\∀im,OR μ w im x->OR μ1 w im o1):=by
 have cells:∀{cs cs1:Array Value} {t:TypeId} {fl:Nat×Nat},cs1.size=cs.size->(∀(i:Nat) v v1 v',cs[i]? =some v->cs1[i]? =some v1->VR μ v v'->VR μ1 v1 v')->∀im,OR μ w im (.cells cs t fl)->OR μ1 w im (.cells cs1 t fl):=by
  intro cs cs1 t fl hs hc im ZS;have get:∀(i:Nat) v1,cs1[i]? =some v1->∃v,cs[i]? =some v:=fun i v1 h=>by
   have:=(Array.getElem?_eq_some_iff.1 h).1;exact⟨cs[i],by simp[show i<cs.size by omega]⟩
  rcases ZS with ⟨h1,h2,h3,arr,h4,h5,h6,h7⟩|⟨h1,h2⟩
  ·refine .inl ⟨h1,h2,h3,arr,h4,by omega,h6,fun i v1 hv1=> ?_⟩;obtain⟨v,hv⟩:=get i v1 hv1;obtain⟨v',a,b⟩:=h7 i v hv;exact⟨v',a,hc i v v1 v' hv hv1 b⟩
  ·refine .inr ⟨h1,fun i v1 hv1=> ?_⟩;obtain⟨v,hv⟩:=get i v1 hv1;obtain⟨v',a,b⟩:=h2 i v hv;exact⟨v',a,hc i v v1 v' hv hv1 b⟩
 unfold MK at h;split at h
 ·rename_i cs t fl;split at h
  ·rename_i l L1 hl;simp only[YO,YR]at h;obtain⟨rfl,rfl⟩:=h;have key:∀(l ts:List Value) (L:List Prop),sw (yd H m pos fz 3) l=some (ts,L)->Q6 L->ts.length=l.length/\∀(i:Nat) v v1 v',l[i]? =some v->ts[i]? =some v1->VR μ v v'->VR μ1 v1 v':=by
    intro l;induction l with
    |nil=>
     intro ts L h hL;simp only[sw,YO,YR]at h;obtain⟨rfl,rfl⟩:=h;exact⟨rfl,fun i v v1 v' h=>by simp at h⟩
    |cons v l ih=>
     intro ts L h hL;simp only[sw]at h;split at h
     ·rename_i t L1 h1;split at h
      ·rename_i ts2 L2 h2;simp only[YO,YR]at h;obtain⟨rfl,rfl⟩:=h;obtain⟨a,b⟩:=XE hL;obtain⟨k1,k2⟩:=ih ts2 L2 h2 b;refine⟨by simp[k1],fun i u u1 u' x y hr=> ?_⟩;cases i with
       |zero=>
        simp only[Oq,YO]at x y;subst x y;exact Yp c 3 _ _ _ _ h1 a hr
       |succ i=>exact k2 i u u1 u' (by simpa using x) (by simpa using y) hr
      ·cases h
     ·cases h
   obtain⟨k1,k2⟩:=key _ _ _ hl hL;refine⟨⟨_,rfl⟩,id,fun _=> ?_⟩;exact⟨_,rfl,trivial,cells (by simpa using k1) fun i v v1 v' x y=>k2 i v v1 v' (by simpa using x) (by simpa using y)⟩
  ·cases h
 ·rename_i cs t fl rs cs1;cases hr:(rs.all fun r=>X7 (Q1 H r))with
  |false=>rw[hr]at h;cases h
  |true=>
   rw[hr]at h;simp only[cond_true,YO,YR]at h;obtain⟨rfl,rfl⟩:=h;obtain⟨⟨h1,h2⟩,_⟩:=hL;refine⟨⟨_,rfl⟩,id,fun _=> ?_⟩;refine⟨_,rfl,trivial,cells h1.symm fun i v v1 v' x y hv=> ?_⟩;rcases h2 i v v1 x y with ⟨hs,rfl⟩|⟨r,hrm,t,rfl,rfl,ht⟩
   ·rw[simple_eq hs hv];exact ZN hs
   ·obtain⟨im,QN,SI⟩:=hv.top_inv;exact .top ht c.JX (SI.mono fun b x hx=>fy c (List.all_eq_true.1 hr r hrm) QN hx)
 ·rename_i cs t fl rs ks ow cs1;cases hr0:((rs.all fun p=>X7 (Q1 H p.1) && Of ((pos p.1).getD m) p.2) && ow.all (Hf pos))with
  |false=>rw[hr0]at h;cases h
  |true=>
   rw[hr0]at h;simp only[cond_true]at h;simp only[YB]at hr0;obtain⟨hr,how⟩:=hr0;split at h
   ·rename_i YF L2 hks;simp only[YO,YR]at h;obtain⟨rfl,rfl⟩:=h;obtain⟨hx,hL2⟩:=hL;obtain⟨h1,h2⟩:=AllX.get hx;refine⟨⟨_,rfl⟩,id,fun _=> ?_⟩;refine⟨_,rfl,trivial,cells (by simpa using h1) fun i v v1 v' x y hv=> ?_⟩;have hc:=h2 i v v1 (by simpa using x) (by simpa using y);cases hc with
    |simple hs=>rw[simple_eq hs hv];exact ZN hs
    |JX hm ht=>
     rename_i r j t0;have:=List.all_eq_true.1 hr _ hm;simp only[YB]at this;have e:LB H m pos fz (Q2 r t0)=some (Q2 j t0,[]):=by
      have hs:simple (Q2 r t0)=false:=rfl;unfold LB;rw[hs];simp only[cond_false,Q2,this.1,ht,Bool.and_self,cond_true,YE this.2]
     exact SN c e trivial hv
    |own hm=>
     obtain⟨L',e,hL'⟩:=ye ks YF L2 hks hL2 _ _ _ _ hm;exact SN c e hL' hv
    |nil=>
     cases hv;exact .top rfl c.JX .nil
    |keep hm=>
     have hk:=List.all_eq_true.1 how _ hm;unfold Hf at hk;split at hk
     ·rename_i j0 hj0;have hk:=YE hk;have e:=c.here _ _ hj0;rw[hk]at e;cases hv with
      |slice har h1 h2 h3=>
       obtain⟨im,hi,_,rfl⟩:=har;refine .slice ⟨im,e.trans hi,rfl,rfl⟩ h1 h2 fun hs ZB QT=> ?_
       rw[e]at QT;exact h3 hs ZB QT
     ·cases hk
   ·cases h
 ·rename_i es RG;simp only[YO,YR]at h;obtain⟨rfl,rfl⟩:=h;obtain⟨hp,_⟩:=hL;refine⟨⟨_,rfl⟩,id,fun _=> ?_⟩;refine⟨_,rfl,trivial,fun im ZS=> ?_⟩;obtain⟨h1,KK,h2,h3,h4⟩:=ZS;refine⟨h1,KK,h2,h3,fun i e e' x y=> ?_⟩;obtain⟨p,q,r,s⟩:=h4 i e e' x y;have hs:=hp i e x;exact⟨p,q,r,by rw[SU hs s];exact PJ hs⟩
 ·rename_i r;split at h
  ·rename_i l L1 hl;simp only[YO,YR]at h;obtain⟨rfl,rfl⟩:=h;refine⟨⟨_,rfl⟩,id,fun _=> ?_⟩;refine⟨_,rfl,trivial,fun im ZS=> ?_⟩;obtain⟨h1,tm,df,h2,h3⟩:=ZS;obtain⟨a,b⟩:=gI (fun v v' t L=>Yp c 3 v v' t L) r.tmps.toList l L1 tm.toList hl hL (by simpa using h3.1) fun i v v' x y=>h3.2 i v v' (by simpa using x) (by simpa using y)
   exact⟨h1,tm,df,h2,by simpa using a,fun i v v' x y=>b i v v' (by simpa using x) (by simpa using y)⟩
  ·cases h
 ·rename_i ds;simp only[YO,YR]at h;obtain⟨rfl,rfl⟩:=h;exact⟨⟨_,rfl⟩,id,fun _=>⟨_,rfl,trivial,fun im ZS=>ZS⟩⟩
 ·simp only[YO,YR]at h;obtain⟨rfl,rfl⟩:=h;exact⟨⟨_,rfl⟩,id,fun hl=>hl.elim⟩
 ·cases h
end Go.CE
