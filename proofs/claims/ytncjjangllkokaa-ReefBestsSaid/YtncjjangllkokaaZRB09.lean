/- TW 3: operations on trees. -/
import Derived.Test.YtncjjangllkokaaZRB08
set_option linter.all false
open Nat renaming beq->Lf,blt->Ll,min->LW,ble->LI,le_refl->Lw,zero_add->Lv,lt_or_ge->LF
open Array renaming getElem?_extract->LX,mem_of_getElem? ->LJ,getElem?_toList->Lm
open Int renaming toNat_natCast->LR
open Option renaming map_some->LG
open List renaming length->Ld,getElem?_append_right->Lp,range'->Ly,mem_append_left->Lg,mem_append_right->Lt,mem_append->LZ,range->Le,getElem?_cons_zero->Lq,mem_cons_of_mem->Lj
namespace Go.CE
open Go Go.RowKit

inductive Qf where
 |XO (h:Hint)
 |tidx (k:Nat) (es:Array Value)
 |tarr (k:Nat) (es:Array Value)
 |tslc (k m':Nat) (cs':Array Value)
 |tapp (cs':Array Value)
 |tapp0
 |tcpy (cs':Array Value)
 |pure (out:Value) (fz:List Fz)
 |pureK (out:Value) (fz:List Fz)
 |bin (v:Value)
 |call (keys:List Nat) (out:OO) (UN:Qm) (n':Nat) (W:List Nat)
 |eval (s:Rs)
 |wri (κ R:List Nat) (ps qs:List Bool) (out:OO) (outs news:List Obj)
 |tnil
 |wriC (κ R:List Nat) (ps qs:List Bool) (out:OO) (outs news:List Obj) (o2:OO)
def killL(H:Qm):List Nat->Qm
 |[]=>H
 |k::K=>TH (killL H K) (some k)
def aK:Option Obj->Bool
 |some (.cells _ _ (0,0))=>true
 |_=>false
def yQ(P:Program)(T:Tm)(o:Oper):Option (Value×Nat):=match o.op with
 | .call c=>match c.callee with
   | .builtin .len=>match c.args.toList,c.argTypes.toList with
     |[x],[t]=>match XV T x with
      |some v=>match iB v,JN P t with
       |some (r,k,_),some (.slice _)=>some (.int .i64 k,r)
       |_,_=>none
      |none=>none
     |_,_=>none
   |_=>none
 | .fieldAddr s x f=>match XV T x with
   |some v=>match ui v with
    |some (r,off,cs)=>match Wo P s f (.pointer (some ⟨0,off,none⟩))with
     |some (.pointer (some ⟨0,off',none⟩))=>some (Qk r (ZU off' cs),r)
     |_=>none
    |none=>none
   |none=>none
 | .load t x=>match XV T x with
   |some v=>match ui v with
    |some (r,off,cs)=>match Yl P t cs off with
     |some v=>bif s8 4 v then some (Q4 r 4 v,r)else none
     |none=>none
    |none=>none
   |none=>none
 |_=>none
def Y2:Value->Bool
 | .slice none 0 0| .chan (some 0)=>true
 |_=>false
def bk(P:Program)(T:Tm)(o:Oper):Option (Value×Nat×Nat×Array Value×TypeId×Nat×Nat×Value):=match o.op with
 | .call c=>match c.callee with
   | .builtin .append=>match c.args.toList,c.argTypes.toList with
     |[s,x],[t,t']=>match XV T s,XV T x with
      |some sv,some xv=>match iB xv,JN P t with
       |some (r,k,cs),some (.slice e)=>match inf P e with
        |some i=>match i.zero,i.size with
         |some zv,z+1=>bif Lf t t' && Y2 sv && Lf zv.cells.size (z+1)then some (sv,r,k,cs,e,z+1,i.bytes,zv)else none
         |_,_=>none
        |none=>none
       |_,_=>none
      |_,_=>none
     |_,_=>none
   |_=>none
 |_=>none
def jO(P:Program)(T:Tm)(o:Oper):Option (Nat×Nat×Nat×Nat×Nat×Array Value×Nat):=match o.op with
 | .call c=>match c.callee with
   | .builtin .copy=>match c.args.toList,c.argTypes.toList with
     |[s,x],[t,_]=>match XV T s,XV T x with
      |some (.slice (some ⟨b,off,none⟩) k _),some xv=>match iB xv,JN P t with
       |some (r,m,cs2),some (.slice e)=>match W5 P e with
        |some z=>some (b,off,k,r,m,cs2,z)
        |none=>none
       |_,_=>none
      |_,_=>none
     |_,_=>none
   |_=>none
 |_=>none
def Yr(P:Program)(op:BinOp)(t:TypeId)(a b v:Value):Prop:=∀(x y:Operand) (w:World),(do eqGuard op t x y a b;binOp op t a b:Sem Value).run P w=.ok v w
def opT(P:Program)(F:FuncId->Bool)(J:World->Prop)(B:Lo)(T:Tm)(o:Oper)(H:Qm)(n:Nat):Option Qf->Option Told
 |none=>match yQ P T o with
  |some (v,r)=>bif Ll r n && Xu (Qq H r)then some ⟨⟨.ret v,H,n,[r],[]⟩,none⟩else none
  |none=>opH P F B T o H n none
 |some (.XO h)=>opH P F B T o H n (some h)
 |some (.tidx k es)=>match o.op with
  | .indexAddr t x i=>match XV T x,XV T i with
    |some v,some (.int _ q)=>match iB v,JN P t with
     |some (r,m,cs),some (.slice e)=>match W5 P e with
      |some z=>bif Ll r n && Xu (Qq H r)then some ⟨⟨.ret (Qk r (ZU 0 es)),H,n,[r],[]⟩,some (q=(k:Int)/\k<m/\cs.extract (k*z) (k*z+z)=es)⟩else none
      |none=>none
     |_,_=>none
    |_,_=>none
  |_=>none
 |some (.tarr k es)=>match o.op with
  | .indexAddr t x i=>match XV T x,XV T i with
    |some v,some (.int _ q)=>match ui v,JN P t with
     |some (r,off,cs),some (.array m e)=>match W5 P e with
      |some z=>bif Ll r n && Xu (Qq H r)then some ⟨⟨.ret (Qk r (ZU 0 es)),H,n,[r],[]⟩,some (q=(k:Int)/\k<m/\cs.extract (off+k*z) (off+k*z+z)=es)⟩else none
      |none=>none
     |_,_=>none
    |_,_=>none
  |_=>none
 |some (.tslc k m' cs')=>match o.op with
  | .slice t x (some lo) none none=>match XV T x,XV T lo with
    |some v,some (.int _ q)=>match iB v,JN P t with
     |some (r,m,cs),some (.slice e)=>match W5 P e with
      |some z=>bif Ll r n && Xu (Qq H r)then some ⟨⟨.ret (Qk r (Xo m' cs')),H,n,[r],[]⟩,some (q=(k:Int)/\k<m/\m'=m-k/\cs.extract (k*z) cs.size=cs')⟩else none
      |none=>none
     |_,_=>none
    |_,_=>none
  |_=>none
 |some (.tapp cs')=>match bk P T o with
  |some (_,r,k,cs,e,z,by',_)=>bif Ll r n && Xu (Qq H r)then
   some ⟨⟨.ret (.slice (some ⟨n,0,none⟩) k z),(n,.cells cs' e (0,0))::H,n+1,[r],[]⟩,some (0<k/\k<=maxLen/\k*by'<=140737488355328/\cs.size=k*z/\cs.map (Wb r)=cs'/\(cs.all fun v=>simple v || WE v)=true/\ones cs'=true)⟩else none
  |none=>none
 |some .tapp0=>match bk P T o with
  |some (sv,r,k,_,_,_,_,_)=>bif Ll r n && Xu (Qq H r)then some ⟨⟨.ret sv,H,n,[r],[]⟩,some (k=0)⟩else none
  |none=>none
 |some (.tcpy cs')=>match jO P T o with
  |some (b,off,k,r,m,cs2,z)=>match Qq H b with
   |some (.cells cs te (0,0))=>bif Ll r n && Xu (Qq H r) && Ll b n then
    some ⟨⟨.ret (.int .i64 (LW m k)),VE H b (.cells cs' te (0,0)),n,[b,r],[b]⟩,some (0<m/\off+LW m k*z<=cs.size/\LW m k*z<=cs2.size/\(cs2.all fun v=>simple v || WE v)=true/\ones ((cs2.extract 0 (LW m k*z)).map (Wb r))=true/\splice cs off ((cs2.extract 0 (LW m k*z)).map (Wb r))=cs')⟩else none
   |_=>none
  |none=>none
 |some (.eval s)=>some ⟨s,some (aN P F Xn (fun _ _ _=>none) T o H n=some s)⟩
 |some (.bin v)=>match o.op with
  | .binOp op t x y _=>match XV T x,XV T y with
    |some a,some b=>bif af a && af b && af v then some ⟨⟨.ret v,H,n,[],[]⟩,some (Yr P op t a b v)⟩else none
    |_,_=>none
  |_=>none
 |some (.call keys out UN n' W)=>match o.op with
  | .call _=>match PK P F (XV T) o H n with
    |some ⟨.enter g args,H1,n1,R,W1⟩=>bif Lf n1 n && W1.isEmpty then
     match Wi P g args with
     |some c1=>some ⟨⟨out,UN++H1,n',R++keys,W⟩,some (FJ P B c1 H1 n out (UN++H1) n' keys W)⟩
     |none=>none
      else none
    |some ⟨.round l fn tm a b,H1,n1,R,W1⟩=>bif Lf n1 n && W1.isEmpty && LI tm.size 16000 then some ⟨⟨out,UN++H1,n',R++keys,W⟩,some (FJ P B ⟨fn,ofList tm.size tm.toList,[.code a,.beginRound,.code b],[],.run,some l⟩ H1 n out (UN++H1) n' keys W)⟩else none
    |_=>none
  |_=>none
 |some (.pure out fz)=>match o.op with
  | .call _=>match PK P F (XV T) o H n with
    |some ⟨.enter g args,H1,n1,R,W1⟩=>bif Lf n1 n && W1.isEmpty then
     match Ks (VY H1 fz 3) args.toList with
     |some (ts,R2,L)=>bif R2.all fun i=>Ll i n then
      bif av 2 out then some ⟨⟨.ret out,H1,n,R++R2,[]⟩,some (Qz L/\Qv P J g ts.toArray out)⟩
      else bif (R2.all fun i=>Xu (Qq H1 i)) && s8 4 out then some ⟨⟨.ret (Q4 n 4 out),(n,QV)::H1,n+1,R++R2,[]⟩,some (Qz L/\Qv P J g ts.toArray out)⟩else none
       else none
     |none=>none
      else none
    |_=>none
  |_=>none
 |some (.pureK out fz)=>match o.op with
  | .call _=>match PK P F (XV T) o H n with
    |some ⟨.enter g args,H1,n1,R,W1⟩=>bif Lf n1 n && W1.isEmpty then
     match Ks (VY H1 fz 3) args.toList with
     |some (ts,R2,L)=>bif (R2.all fun i=>Ll i n) && (R2.all fun i=>Xu (Qq H1 i) || aK (Qq H1 i)) && s8 4 out then
      some ⟨⟨.ret (Q4 n 4 out),(n,QV)::killL H1 (R2.filter fun i=>aK (Qq H1 i)),n+1,R++R2,R2.filter fun i=>aK (Qq H1 i)⟩,some (Qz L/\Qv P J g ts.toArray out)⟩else none
     |none=>none
      else none
    |_=>none
  |_=>none
 |some (.wri κ R ps qs out outs news)=>match o.op with
  | .call _=>match PK P F (XV T) o H n with
    |some ⟨.enter g args,H1,n1,R0,W1⟩=>bif Lf n1 n && W1.isEmpty then
     match Mx H1 n κ R ps qs args out outs news with
     |some (as,bs,o1,UN,L)=>some ⟨⟨o1,UN++H1,n+1+news.length,R0++(κ++R),κ⟩,some (Qz L/\WriC P J g as.toArray bs out outs news)⟩
     |none=>none
      else none
    |_=>none
  |_=>none
 |some .tnil=>match o.op with
  | .binOp op t x y _=>match XV T x,XV T y with
    |some v,some (.slice none 0 0)=>match iB v,JN P t with
     |some (r,m,_),some (.slice _)=>bif Ll r n && Xu (Qq H r)then match op with
      | .eql=>some ⟨⟨.ret (.bool false),H,n,[r],[]⟩,some (0<m)⟩
      | .neq=>some ⟨⟨.ret (.bool true),H,n,[r],[]⟩,some (0<m)⟩
      |_=>none
       else none
     |_,_=>none
    |_,_=>none
  |_=>none
 |some (.wriC κ R ps qs out outs news o2)=>match o.op with
  | .call _=>match PK P F (XV T) o H n with
    |some ⟨.enter g args,H1,n1,R0,W1⟩=>bif Lf n1 n && W1.isEmpty then
     match Mx H1 n κ R ps qs args out outs news with
     |some (as,bs,o1,UN,L)=>some ⟨⟨o2,UN++H1,n+1+news.length,R0++(κ++R),κ⟩,some ((Qz L/\WriC P J g as.toArray bs out outs news)/\o1=o2)⟩
     |none=>none
      else none
    |_=>none
  |_=>none
section
variable {P:Program} {F:FuncId->Bool} {J:World->Prop} {B:Lo} {T:Tm} {o:Oper} {H:Qm} {n:Nat}
theorem Y6(hF:∀g,F g=true->Q0 P g=true){c:Call}(XY:o.op=.call c)(hu:Under H n){g:FuncId}{args:Array Value}{H1 H2:Qm}{R keys W:List Nat}{n':Nat}{out:OO}(hcr:PK P F (XV T) o H n=some ⟨.enter g args,H1,n,R,[]⟩)(hcj:pk P B g args H1 n out H2 n' keys W):
 SN P B o (XV T) H n out H2 n' (R++keys) W/\Shape H n H2 n' (R++keys) W:=by
 have We:W4 P B (fun g' a' H' m'=>open Classical in if g'=g/\a'=args/\H'=H1/\m'=n then some ⟨out,H2,n',keys,W⟩else none):=by
  intro g' a' H' m' s _ h;simp only at h;split at h
  ·rename_i q;obtain⟨rfl,rfl,rfl,rfl⟩:=q;simp only[YO]at h;subst h;exact hcj
  ·cases h
 have:=Y0 hF JO We hu (T:=T) (o:=o) (s:=⟨out,H2,n',R++keys,W⟩) (by simp[aN,XY,hcr]);exact this
theorem FJ.callJ{g:FuncId}{args:Array Value}{c0:CF}{H':Qm}{n':Nat}{R W:List Nat}{out:OO}(hc:Wi P g args=some c0)(h:FJ P B c0 H n out H' n' R W):pk P B g args H n out H' n' R W:=
 ⟨h.shape,fun S μ w args' cs Q7 hB hS hf ha hR=>h.sem S μ w (Frame.enter P g args' .normal) cs Q7 hB hS hf (U8 hc ha) hR⟩
theorem FJ.recS{c:CF}{H1:Qm}{n n':Nat}{out:OO}{UN:Qm}{W keys:List Nat}(h:FJ P B c H1 n out (UN++H1) n' keys W):iw P B (SX c H1 n ⟨out,UN++H1,n',keys,W⟩):=by
 intro c' H' m' s _ hs;unfold SX at hs;split at hs
 ·rename_i q;obtain⟨rfl,rfl,rfl⟩:=q;simp only[YO]at hs;subst hs;exact h
 ·cases hs
theorem cI(hJ:∀w,B.has w->J w){g:FuncId}{args:Array Value}{fz:List Fz}{H1:Qm}{ts:List Value}{R2:List Nat}{L:List Prop}{out:Value}(XZ:Ks (VY H1 fz 3) args.toList=some (ts,R2,L))(hL:Qz L)(hp:Qv P J g ts.toArray out)
 {S:Nat->Prop} {μ:Mu} {w:World} {args':Array Value} (Q7:Ok B.B S μ (Qq H1) w) (hB:B.has w) (hv:VRs μ args args') (hS:∀r∈R2,S r):Calls P g args' w fun e w'=> ∃v',e=.returned v'/\Below w.heap.size w w'/\TRv (RA (Yo μ H1 w R2) w w') out v':=by
 obtain⟨a,b⟩:=SU (fun v v' t R L h1 h2 h3 h4=>KO Q7 3 v v' t R L h1 h2 h3 h4) args.toList ts R2 L args'.toList XZ hL hS (by simpa using hv.1) fun i v v' x y=>hv.2 i v v' (by simpa using x) (by simpa using y)
 exact hp (Yo μ H1 w R2) w args' (hJ w hB) (fun b x h=>WL h) ⟨by simpa using a,fun i v v' x y=>b i v v' (by simpa using x) (by simpa using y)⟩
theorem zk(hJ:∀w,B.has w->J w){g:FuncId}{args:Array Value}{fz:List Fz}{H1:Qm}{ts:List Value}{R2:List Nat}{L:List Prop}{out:Value}(XZ:Ks (VY H1 fz 3) args.toList=some (ts,R2,L))(hL:Qz L)(hp:Qv P J g ts.toArray out)(WX:av 2 out=true)(Xi:(R2.all fun i=>Ll i n)=true):
 pk P B g args H1 n (.ret out) H1 n R2 []:=by
 refine⟨Shape.same _ _ _,fun S μ w args' cs Q7 hB hS _ ha hR=> ?_⟩;obtain⟨e,w1,fr,⟨v',rfl,hb,ht⟩,hc,hf,hl⟩:=cI hJ XZ hL hp Q7 hB ha (fun r hr=>hR r hr (YL (List.all_eq_true.1 Xi r hr))) cs;refine⟨.ret v',w1,μ,Post.ofBelow Q7 hb,.ret (gX 2 out v' WX ht),fun _=>⟨fr,hc,by rw[hf];rfl,hl⟩,fun c cs' e=> ?_⟩;subst e;exact Steps.trans hc (.one (step_leave_returned hl))
theorem v8(hJ:∀w,B.has w->J w){g:FuncId}{args:Array Value}{fz:List Fz}{H1:Qm}{ts:List Value}{R2:List Nat}{L:List Prop}{out:Value}(XZ:Ks (VY H1 fz 3) args.toList=some (ts,R2,L))(hL:Qz L)(hp:Qv P J g ts.toArray out)(Xi:(R2.all fun i=>Ll i n)=true)
 (WA:(R2.all fun i=>Xu (Qq H1 i))=true) (ho:s8 4 out=true):pk P B g args H1 n (.ret (Q4 n 4 out)) ((n,QV)::H1) (n+1) R2 []:=by
 refine⟨Shape.new _ _ _ _,fun S μ w args' cs Q7 hB hS hf ha hR=> ?_⟩;have hSR:∀r∈R2,S r:=fun r hr=>hR r hr (YL (List.all_eq_true.1 Xi r hr))
 obtain⟨e,w1,fr,⟨v',rfl,hb,ht⟩,hc,hfn,hl⟩:=cI hJ XZ hL hp Q7 hB ha hSR cs;have hfm:∀b x,RA (Yo μ H1 w R2) w w1 b=some x->w1.heap[b]? =some x:=by
  intro b x h;unfold RA at h;split at h
  ·rename_i Xi;rw[hb.block b Xi];exact WL h
  ·exact h
 have XE:=Post.region (n:=n) Q7 hS (hf n (Lw _) (by omega)) hb (RA (Yo μ H1 w R2) w w1) hfm fun b x h=>by
  unfold RA at h;split at h
  ·refine .inr ?_;have hw:=WL h;unfold Yo at h;split at h
   ·rename_i hc;obtain⟨i,hi,o,im,ho,QD,UP⟩:=hc;obtain⟨o',Ko,hr'⟩:=ZE (List.all_eq_true.1 WA i hi);rw[ho]at Ko;cases Ko;rcases UP with ⟨_,Kz⟩|⟨hl,_⟩
    ·cases hx:im.fm b with
     |none=>exact absurd hx Kz
     |some y=>
      obtain⟨Z4,QO,hf'⟩:=Q7.Jv i o (hSR i hi) ho hr';rw[QD]at QO;cases QO;have:=hf' b y hx;rw[hw]at this;cases this;exact⟨i,im,o,hSR i hi,ho,hr',QD,hx⟩
    ·exact absurd hl (by cases o <;> first|exact id|exact hr'.elim)
   ·cases h
  ·rename_i PS;exact .inl (Nat.le_of_not_lt PS)
 refine⟨.ret v',w1,_,XE,.ret (Se Xy 4 out v' ho ht),fun _=>⟨fr,hc,by rw[hfn];rfl,hl⟩,fun c cs' e=> ?_⟩;subst e;exact Steps.trans hc (.one (step_leave_returned hl))
theorem Y3(H:Qm)(K:List Nat)(i:Nat):Qq (killL H K) i=if i∈K/\(Qq H i).isSome then some (.pending #[] 0)else Qq H i:=by
 induction K with
 |nil=>simp[killL]
 |cons k K ih=>
  simp only[killL];rw[U7,ih];by_cases e:i=k
  ·subst e;cases hs:Qq H i with
   |none=>simp
   |some o=>by_cases hm:i∈K <;> simp[hm]
  ·simp[e]
theorem Post.regionK{B n:Nat}{S:Nat->Prop}{μ:Mu}{H:Qm}{w w':World}(K:List Nat)(Q7:Ok B S μ (Qq H) w)(hS:∀i,S i->i<n)(hf:μ n=none)(T7:Below w.heap.size w w')(hK:∀k∈K,S k/\(∃o,Qq H k=some o/\live o)/\∃im,μ k=some im/\im.rw=true)
 (fm:Nat->Option Obj) (hfm:∀b x,fm b=some x->w'.heap[b]? =some x)
 (X8:∀b x,fm b=some x->w.heap.size<=b\/(∃k Ui ko,S k/\Qq H k=some ko/\Wm ko/\μ k=some Ui/\Ui.fm b=some x)\/∃k∈K,∃im,μ k=some im/\im.Zq=b):Post B S n (n+1) K μ (upd μ n ⟨0,0,0,false,fm⟩) H ((n,QV)::killL H K) w w':=by
 have hp:=Post.ofBelow (n:=n) Q7 T7;have Kz:∀i,S i->i≠n:=fun i hi=>by have:=hS i hi;omega
 have PR:∀i,S i->upd μ n ⟨0,0,0,false,fm⟩ i=μ i:=fun i hi=>by simp[upd,Kz i hi]
 have X0:∀i,S i->Qq ((n,QV)::killL H K) i=Qq (killL H K) i:=fun i hi=>by rw[QU,if_neg (Kz i hi)]
 have hgl:∀i o,S i->Qq ((n,QV)::killL H K) i=some o->live o\/Wm o->Qq H i=some o/\(live o->i ∉ K):=fun i o hi ho hl=>by
  rw[X0 i hi,Y3]at ho;split at ho
  ·cases ho;exact(hl.elim id id).elim
  ·rename_i hn;exact⟨ho,fun _ hm=>hn ⟨hm,by rw[ho];rfl⟩⟩
 have UQ:Qq ((n,QV)::killL H K) n=some QV:=by rw[QU,if_pos rfl]
 have isn:∀i,(n<=i/\i<n+1)->i=n:=fun i hi=>by omega
 refine⟨⟨fun i o hi ho hl=> ?_,fun i o im hi ho hl QD=> ?_,fun i j oi oj a b hi hj Rm ZZ ZY T5 Uj ha hb hra WG=> ?_,fun i o hi ho hr=> ?_,fun i j oi oj a b x hi hj ZZ ZY J3 Uj ha hb WG hx=> ?_⟩,by omega,fun i hi=> ?_,fun i hi hw=> ?_,T7.size,fun b hb _=>T7.block b hb,fun i hi _=>hK i hi,
  fun i im o h1 h2 ho hl QD=> ?_,fun i im o hi ho hr QD b x hx=> ?_,T7.os,T7.tape,T7.output⟩
 ·rcases hi with hi|hi
  ·have ho:=(hgl i o hi ho (.inl hl)).1;obtain⟨im,QD,hr⟩:=hp.ok.rel i o (.inl hi) ho hl;exact⟨im,by rw[PR i hi];exact QD,hr.keep (KM hf) rfl⟩
  ·rw[isn i hi,UQ]at ho;cases ho;exact hl.elim
 ·rcases hi with hi|hi
  ·have ho:=(hgl i o hi ho (.inl hl)).1;rw[PR i hi]at QD;exact hp.ok.low i o im (.inl hi) ho hl QD
  ·rw[isn i hi,UQ]at ho;cases ho;exact hl.elim
 ·rcases hi with hi|hi
  ·rcases hj with hj|hj
   ·have ZZ:=(hgl i oi hi ZZ (.inl T5)).1;have ZY:=(hgl j oj hj ZY (.inl Uj)).1;rw[PR i hi]at ha;rw[PR j hj]at hb;exact Q7.inj i j oi oj a b hi hj Rm ZZ ZY T5 Uj ha hb hra WG
   ·rw[isn j hj,UQ]at ZY;cases ZY;exact Uj.elim
  ·rw[isn i hi,UQ]at ZZ;cases ZZ;exact T5.elim
 ·rcases hi with hi|hi
  ·have ho:=(hgl i o hi ho (.inr hr)).1;obtain⟨im,QD,h⟩:=hp.ok.Jv i o (.inl hi) ho hr;exact⟨im,by rw[PR i hi];exact QD,h⟩
  ·rw[isn i hi];exact⟨_,Xy,hfm⟩
 ·have hjS:S j:=hj.elim id fun h=>by rw[isn j h,UQ]at ZY;cases ZY;exact Uj.elim
  obtain⟨ZY,hjK⟩:=hgl j oj hjS ZY (.inl Uj);rw[PR j hjS]at hb;rcases hi with hi|hi
  ·have ZZ:=(hgl i oi hi ZZ (.inr J3)).1;rw[PR i hi]at ha;exact Q7.sep i j oi oj a b x hi hjS ZZ ZY J3 Uj ha hb WG hx
  ·rw[isn i hi,Xy]at ha;cases ha;rcases X8 _ _ hx with h|⟨k,Ui,ko,h1,h2,h3,h4,h5⟩|⟨k,hk,Ui,h1,h2⟩
   ·have:=(Q7.low j oj b hjS ZY Uj hb).1;omega
   ·exact Q7.sep k j ko oj Ui b x h1 hjS h2 ZY h3 Uj h4 hb WG h5
   ·obtain⟨k1,⟨ko,k2,k3⟩,kim',k4,k5⟩:=hK k hk;rw[h1]at k4;cases k4;have hkj:k≠j:=fun e=>hjK Uj (e ▸ hk)
    exact Q7.inj k j ko oj Ui b k1 hjS hkj k2 ZY k3 Uj h1 hb k5 WG h2
 ·simp only[upd];rw[if_neg (by omega)]
 ·rw[QU,if_neg (by omega),Y3,if_neg (fun h=>hw h.1)]
 ·rw[isn i ⟨h1,h2⟩,UQ]at ho;cases ho;exact hl.elim
 ·rcases hi with hi|hi
  ·have J4:=isn i hi;subst J4;rw[Xy]at QD;cases QD;rcases X8 b x hx with h|⟨k,Ui,ko,h1,h2⟩|⟨k,hk,Ui,h1,h2⟩
   ·exact .inl h
   ·exact .inr (.inl ⟨k,Ui,ko,h1,hS k h1,h2⟩)
   ·refine .inr (.inr ⟨k,hk,hS k (hK k hk).1,⟨Ui,h1,h2⟩,fun o' Ko=> ?_⟩);have hks:=(hK k hk).1;obtain⟨ko,k2,_⟩:=(hK k hk).2.1;rw[X0 k hks,Y3,if_pos ⟨hk,by rw[k2];rfl⟩]at Ko;cases Ko;exact id
  ·obtain⟨hiK,J4⟩:=hi;have hks:=(hK i hiK).1;obtain⟨ko,k2,_⟩:=(hK i hiK).2.1;rw[X0 i hks,Y3,if_pos ⟨hiK,by rw[k2];rfl⟩]at ho;cases ho;exact hr.elim
theorem Shape.killL{H:Qm}{n:Nat}{K R:List Nat}(o:Obj)(hK:∀k∈K,k<n)(hs:∀k∈K,k∈R):Shape H n ((n,o)::killL H K) (n+1) R K:=by
 refine⟨by omega,fun i hi hw=> ?_,fun i hi=> ?_,hs,fun i hi=>by have:=hK i hi;omega⟩
 ·rw[QU,if_neg (by omega),Y3,if_neg (fun h=>hw h.1)]
 ·rw[QU,if_neg (by omega),Y3,if_neg (fun h=>by have:=hK i h.1;omega)]
theorem zL{o:Option Obj}(h:aK o=true):∃cs t,o=some (.cells cs t (0,0)):=by
 unfold aK at h;split at h
 ·exact⟨_,_,rfl⟩
 ·cases h
theorem rM(hJ:∀w,B.has w->J w){g:FuncId}{args:Array Value}{fz:List Fz}{H1:Qm}{ts:List Value}{R2:List Nat}{L:List Prop}{out:Value}(XZ:Ks (VY H1 fz 3) args.toList=some (ts,R2,L))(hL:Qz L)(hp:Qv P J g ts.toArray out)(Xi:(R2.all fun i=>Ll i n)=true)
 (WA:(R2.all fun i=>Xu (Qq H1 i) || aK (Qq H1 i))=true) (ho:s8 4 out=true):pk P B g args H1 n (.ret (Q4 n 4 out)) ((n,QV)::killL H1 (R2.filter fun i=>aK (Qq H1 i))) (n+1) R2 (R2.filter fun i=>aK (Qq H1 i)):=by
 have hltn:∀r∈R2,r<n:=fun r hr=>YL (List.all_eq_true.1 Xi r hr)
 refine⟨Shape.killL _ (fun k hk=>hltn k ((List.mem_filter.1 hk).1)) (fun k hk=>(List.mem_filter.1 hk).1),fun S μ w args' cs Q7 hB hS hf ha hR=> ?_⟩;have hSR:∀r∈R2,S r:=fun r hr=>hR r hr (hltn r hr)
 obtain⟨e,w1,fr,⟨v',rfl,hb,ht⟩,hc,hfn,hl⟩:=cI hJ XZ hL hp Q7 hB ha hSR cs;have hfm:∀b x,RA (Yo μ H1 w R2) w w1 b=some x->w1.heap[b]? =some x:=by
  intro b x h;unfold RA at h;split at h
  ·rename_i Xi;rw[hb.block b Xi];exact WL h
  ·exact h
 have hK:∀k∈R2.filter fun i=>aK (Qq H1 i),S k/\(∃o,Qq H1 k=some o/\live o)/\∃im,μ k=some im/\im.rw=true:=fun k hk=>by
  obtain⟨h1,h2⟩:=List.mem_filter.1 hk;obtain⟨cs0,t0,h3⟩:=zL h2;obtain⟨im,QD,ZQ⟩:=Q7.rel k _ (hSR k h1) h3 trivial;refine⟨hSR k h1,⟨_,h3,trivial⟩,im,QD, ?_⟩;rcases ZQ with ⟨_,h,_⟩|⟨h,_⟩
  ·exact h
  ·exact absurd rfl h
 have XE:=Post.regionK (n:=n) (R2.filter fun i=>aK (Qq H1 i)) Q7 hS (hf n (Lw _) (by omega)) hb hK (RA (Yo μ H1 w R2) w w1) hfm fun b x h=>by
  unfold RA at h;split at h
  ·refine .inr ?_;have hw:=WL h;unfold Yo at h;split at h
   ·rename_i hc;obtain⟨i,hi,o,im,ho,QD,UP⟩:=hc;have ZQ:=List.all_eq_true.1 WA i hi;rw[Bool.or_eq_true]at ZQ;rcases UP with ⟨hr',Kz⟩|⟨hl,hblk⟩
    ·left;cases hx:im.fm b with
     |none=>exact absurd hx Kz
     |some y=>
      obtain⟨Z4,QO,hf'⟩:=Q7.Jv i o (hSR i hi) ho hr';rw[QD]at QO;cases QO;have:=hf' b y hx;rw[hw]at this;cases this;exact⟨i,im,o,hSR i hi,ho,hr',QD,hx⟩
    ·right;rcases ZQ with ZQ|ZQ
     ·obtain⟨o',Ko,hr'⟩:=ZE ZQ;rw[ho]at Ko;cases Ko;exact absurd hl (by cases o <;> first|exact id|exact hr'.elim)
     ·exact⟨i,List.mem_filter.2 ⟨hi,ZQ⟩,im,QD,hblk⟩
   ·cases h
  ·rename_i PS;exact .inl (Nat.le_of_not_lt PS)
 refine⟨.ret v',w1,_,XE,.ret (Se Xy 4 out v' ho ht),fun _=>⟨fr,hc,by rw[hfn];rfl,hl⟩,fun c cs' e=> ?_⟩;subst e;exact Steps.trans hc (.one (step_leave_returned hl))
theorem UM{r:Nat}{v:Value}(Xi:r<n)(WA:Xu (Qq H r)=true)(hd:∀c,o.op≠.defer c)
 (h:∀(μ:Mu) (w:World) (ρ:Operand->Value) (im:c7),μ r=some im->(∀b x,im.fm b=some x->w.heap[b]? =some x)->(∀x∈o.op.operands,∀v,XV T x=some v->VR μ v (ρ x))->∃v',(execOp ρ o).run P w=.ok (.value v') w/\VR μ v v'):
 SN P B o (XV T) H n (.ret v) H n [r] []:=fun S μ w fr _ _ _ _ _ Q7 hB _ _ XK hR hm ht ho hw=>by
 obtain⟨x,hx,hr⟩:=ZE WA;obtain⟨im,QD,hf⟩:=Q7.Jv r x (hR r (by simp) Xi) hx hr;obtain⟨v',h1,h2⟩:=h μ w fr.eval im QD hf XK;exact⟨.ret v',w,μ,Post.refl Q7,.ret h2,P8 hm ht ho hw hd h1⟩
theorem A7{fm:Nat->Option Obj}{w:World}(hw:∀b x,fm b=some x->w.heap[b]? =some x){off:Nat}{cs:Array Value}{u v:Value}{t:TypeId}(hu:TRv fm (ZU off cs) u)(h:Yl P t cs off=some v):∃v',(Instr.loadAt t u).run P w=.ok v' w/\TRv fm v v':=by
 obtain⟨b,o,arr,ty,fl,rfl,h1,h2,h3⟩:=hu.ptr_inv;have hb:=hw _ _ h1;have hcell:∀i,i<cs.size->∃v',w.cell? ⟨b,o+i,none⟩=some v'/\∀v,cs[i]? =some v->TRv fm v v':=by
  intro i hi;have Xi:=h2 i hi;exact⟨arr[o+i],by simp[World.cell?,hb,Xi],fun v hv=>h3 i v _ hv (by simp[Xi])⟩
 unfold Yl at h;cases hag:pd P t with
 |none=>rw[hag]at h;cases h
 |some g=>
  rw[hag]at h;cases g with
  |true=>
   cases hz:W5 P t with
   |none=>rw[hz]at h;cases h
   |some z=>
    rw[hz]at h;dsimp only at h;cases hb2:LI (off+z) cs.size with
    |false=>rw[hb2]at h;cases h
    |true=>
     rw[hb2]at h;simp only[cond_true,YO]at h;subst h;have hle:=YL hb2;have hr:=run_loadCells (P:=P) w ⟨b,o+off,none⟩ z (fun j=>(w.cell? ⟨b,o+(off+j),none⟩).getD undef) (fun j hj=>by
      obtain⟨v',ZW,_⟩:=hcell (off+j) (by omega);rw[WB,show o+off+j=o+(off+j)by omega,ZW];rfl)
     refine⟨.agg _,by simp[Instr.loadAt,Instr.sureAddr,loadVar,Ki hag,Zj hz,hr];rfl,.agg (by simp;omega) fun i v v' hv ZW=> ?_⟩;have hi:i<z:=by
      have:=(Array.getElem?_eq_some_iff.1 hv).1;simp at this;omega
     obtain⟨u,h4,h5⟩:=hcell (off+i) (by omega);simp[hi,h4]at ZW;subst ZW;refine h5 v ?_;rw[LX]at hv;split at hv
     ·exact hv
     ·cases hv
  |false=>
   simp only at h;have hi:=(Array.getElem?_eq_some_iff.1 h).1;obtain⟨v',ZW,ht⟩:=hcell off hi;exact⟨v',by simp[Instr.loadAt,Instr.sureAddr,loadVar,Ki hag,run_load,ZW],ht v h⟩
theorem r5{v:Value}{r:Nat}(e:yQ P T o=some (v,r))(Xi:r<n)(WA:Xu (Qq H r)=true):SN P B o (XV T) H n (.ret v) H n [r] []:=by
 unfold yQ at e;split at e
 ·rename_i c XY;split at e
  ·rename_i hc;split at e
   ·rename_i x t ha ht;split at e
    ·rename_i u hx;split at e
     ·rename_i r0 k cs el htop hue;rw[Zw]at hue;simp only[YO,YR]at e;obtain⟨rfl,rfl⟩:=e;refine UM Xi WA (fun c h=>by rw[XY]at h;cases h) fun μ w ρ im QD hf XK=> ?_
      have ea:c.args=#[x]:=by rw[<-ha]
      have et:c.argTypes=#[t]:=by rw[<-ht]
      have hv:=XK x (by simp[XY,Op.operands,Call.operands,hc,ea]) _ hx;rw[RG htop]at hv;obtain⟨Z4,_,htr⟩:=hv.top_inv;have hlen:∃a c,ρ x=.slice a k c:=by
       rcases htr.slice_inv with ⟨b,o',c',arr,t',fl,h1,_⟩|⟨rfl,_,a',c',h1,_⟩
       ·exact⟨_,_,h1⟩
       ·exact⟨_,_,h1⟩
      obtain⟨a,cp,hv⟩:=hlen;refine⟨.int .i64 k, ?_,.int _ _⟩;simp[execOp,XY,resolve,hc,invoke,builtin,ea,et,hv,Builtin.len_,run_underlying hue,goInt]
     ·cases e
    ·cases e
   ·cases e
  ·cases e
 ·rename_i s x f XY;split at e
  ·rename_i u hx;split at e
   ·rename_i r0 off cs htop;split at e
    ·rename_i off' hc;simp only[YO,YR]at e;obtain⟨rfl,rfl⟩:=e;refine UM Xi WA (fun c h=>by rw[XY]at h;cases h) fun μ w ρ im QD hf XK=> ?_
     have hv:=XK x (by simp[XY,Op.operands]) _ hx;rw[kI htop]at hv;obtain⟨Z4,QO,htr⟩:=hv.top_inv;rw[QD]at QO;cases QO;obtain⟨b,o',arr,ty,fl,h1,h2,h3,h4⟩:=htr.ptr_inv;have hc2:∃d,off'=off+d/\Wo P s f (.pointer (some ⟨b,o'+off,none⟩))=some (.pointer (some ⟨b,o'+off+d,none⟩)):=by
      unfold Wo at hc ⊢;simp only at hc ⊢;split at hc
      ·split at hc
       ·split at hc
        ·simp only[YO,Value.pointer.injEq,Addr.mk.injEq,true_and,and_true]at hc;rename_i fd hfd _ _ hz;refine⟨fd.offset,hc.symm, ?_⟩;simp_all
        ·cases hc
       ·cases hc
      ·cases hc
     obtain⟨d,rfl,hc2⟩:=hc2;obtain⟨_,hr⟩:=bd (P:=P) hc2 w;refine⟨.pointer (some ⟨b,o'+off+d,none⟩),by simp[execOp,XY,h1,hr],.top rfl QD ?_⟩;rw[Nat.add_assoc];exact .ptr h2 h3 h4
    ·cases e
   ·cases e
  ·cases e
 ·rename_i t x XY;split at e
  ·rename_i u hx;split at e
   ·rename_i r0 off cs htop;split at e
    ·rename_i v0 hc;cases Q7:s8 4 v0 with
     |false=>rw[Q7]at e;cases e
     |true=>
      rw[Q7]at e;simp only[cond_true,YO,YR]at e;obtain⟨rfl,rfl⟩:=e;refine UM Xi WA (fun c h=>by rw[XY]at h;cases h) fun μ w ρ im QD hf XK=> ?_
      have hv:=XK x (by simp[XY,Op.operands]) _ hx;rw[kI htop]at hv;obtain⟨Z4,QO,htr⟩:=hv.top_inv;rw[QD]at QO;cases QO;obtain⟨v',h1,h2⟩:=A7 hf htr hc;exact⟨v',by simp[execOp,XY,h1],Se QD 4 v0 v' Q7 h2⟩
    ·cases e
   ·cases e
  ·cases e
 ·cases e
theorem u3{P:Program}{t e:TypeId}{b off m c z k:Nat}{q:Int}{kk:IntKind}(hu:JN P t=some (.slice e))(hz:W5 P e=some z)(hq:q=(k:Int))(hk:k<m)(hc:m<=c)(w:World):
 (Instr.sliceAt t (.slice (some ⟨b,off,none⟩) m c) (some (.int kk q)) none none).run P w=.ok (.slice (some ⟨b,off+k*z,none⟩) (m-k) (c-k)) w:=by
 rw[Zw]at hu;subst hq;have hb:yF m (some (.int kk (k:Int))) none=some (k,m):=by
  simp only[yF,Et,decide_eq_true (show(0:Int)<=(k:Int)by omega),decide_eq_true (show(k:Int)<=(m:Int)by omega),Bool.and_self,cond_true,LR]
 obtain⟨hr,_,_⟩:=oX (P:=P) (μ:=fun _=>none) (sl:=true) (lo':=some (.int kk (k:Int))) (hi':=none) hb (show VR _ _ _ from .int _ _) trivial hc w;simp only[Instr.sliceAt,Instr.slice,Sem.run_bind,run_underlying hu,Result.andThen_ok,hr,Zj hz,Sem.run_pure,LG,WB];rw[if_neg (by omega)]
theorem iA{sv:Value}{r k z by':Nat}{cs:Array Value}{e:TypeId}{zv:Value}(h:bk P T o=some (sv,r,k,cs,e,z,by',zv)):
 ∃c s x t i,o.op=.call c/\c.callee=.builtin .append/\c.args=#[s,x]/\c.argTypes=#[t,t]/\XV T s=some sv/\XV T x=some (Qk r (Xo k cs))/\Y2 sv=true/\P.underlying t=some (.slice e)/\P.info? e=some i/\i.zero=some zv/\i.size=z/\i.bytes=by'/\zv.cells.size=z/\0<z:=by
 unfold bk at h;split at h
 ·rename_i c XY;split at h
  ·rename_i hc;split at h
   ·rename_i s x t t' ha ht;split at h
    ·rename_i sv' xv hs hx;split at h
     ·rename_i r' k' cs' e' htop hu;split at h
      ·rename_i i hi;split at h
       ·rename_i zv' z' hz Zi;cases hq:(Lf t t' && Y2 sv' && Lf zv'.cells.size (z'+1))with
        |false=>rw[hq]at h;cases h
        |true=>
         rw[hq]at h;simp only[cond_true,YO,YR]at h;obtain⟨rfl,rfl,rfl,rfl,rfl,rfl,rfl,rfl⟩:=h;simp only[YB]at hq;obtain⟨⟨q1,q2⟩,q3⟩:=hq;obtain rfl:=YE q1;rw[Zw]at hu;rw[J1]at hi;exact⟨c,s,x,t,i,XY,hc,by rw[<-ha],by rw[<-ht],hs,by rw[hx,RG htop],q2,hu,hi,hz,Zi,rfl,YE q3,by omega⟩
       ·cases h
      ·cases h
     ·cases h
    ·cases h
   ·cases h
  ·cases h
 ·cases h
theorem jq{μ:Mu}{s s':Value}(h:Y2 s=true)(hs:VR μ s s'):∃a,s'=.slice a 0 0:=by
 unfold Y2 at h;split at h
 ·cases hs;exact⟨_,rfl⟩
 ·cases hs;exact⟨_,rfl⟩
 ·cases h
theorem r7{sv:Value}{r k z by':Nat}{cs cs':Array Value}{e:TypeId}{zv:Value}(h:bk P T o=some (sv,r,k,cs,e,z,by',zv))(Xi:r<n)(WA:Xu (Qq H r)=true)
 (hp:0<k/\k<=maxLen/\k*by'<=140737488355328/\cs.size=k*z/\cs.map (Wb r)=cs'/\(cs.all fun v=>simple v || WE v)=true/\ones cs'=true):
 SN P B o (XV T) H n (.ret (.slice (some ⟨n,0,none⟩) k z)) ((n,.cells cs' e (0,0))::H) (n+1) [r] []:=by
 intro S μ w fr _ _ _ _ _ Q7 hB hS hf XK hR hm ht ho hw;obtain⟨c,s,x,t,i,XY,hc,ea,et,hs,hx,hbn,hu,hi,hz,Zi,hby,hzs,hzp⟩:=iA h;obtain⟨p1,p2,p3,p4,p5,p6,p7⟩:=hp;obtain⟨xr,hxr,hr⟩:=ZE WA;obtain⟨im,QD,hfm⟩:=Q7.Jv r xr (hR r (by simp) Xi) hxr hr;have hvs:=XK s (by simp[XY,Op.operands,Call.operands,hc,ea]) _ hs;have hvx:=XK x (by simp[XY,Op.operands,Call.operands,hc,ea]) _ hx;obtain⟨a,hsa⟩:=jq hbn hvs;obtain⟨Z4,QO,htr⟩:=hvx.top_inv;rw[QD]at QO;cases QO;rcases htr.slice_inv with ⟨b,o',c',arr,ty,fl,h1,h2,h3,h4,h5,h6⟩|⟨h0,_⟩
 ·have hb:=hfm _ _ h4;obtain⟨news,hnews⟩:∃news,news=(arr.toList.drop o').take (k*z):=⟨_,rfl⟩
  have hnl:news.length=k*z:=by
   rw[hnews,List.length_take,List.length_drop,Array.length_toList];have:∀j,j<k*z->o'+j<arr.size:=fun j hj=>h5 j (by omega)
   have:=this (k*z-1) (by have:=Nat.mul_pos p1 hzp;omega);have:=Nat.mul_pos p1 hzp;omega
  have Qq:∀(j:Nat) u,news[j]? =some u->arr[o'+j]? =some u:=by
   intro j u hj;rw[hnews,List.getElem?_take]at hj;split at hj
   ·rw[List.getElem?_drop]at hj;simpa using hj
   ·cases hj
  have hcell:∀(j:Nat) u,news[j]? =some u->w.cell? ((⟨b,o',none⟩:Addr).add j)=some u:=by
   intro j u hj;rw[WB];have:=Qq j u hj;simp[World.cell?,hb];exact this
  have hV:VRs μ cs' news.toArray:=by
   refine⟨by rw[<-p5];simp[hnl,p4],fun j v v' hv ZW=> ?_⟩;rw[<-p5,Array.getElem?_map]at hv;cases hy:cs[j]? with
   |none=>rw[hy]at hv;cases hv
   |some y=>
    rw[hy]at hv;simp only[LG,YO]at hv;subst hv;exact ao QD (Array.all_eq_true'.1 p6 y (LJ hy)) (h6 j y v' hy (Qq j v' (by simpa using ZW)))
  have Ub:∃C,k<=C/\C<=maxLen/\(Builtin.append_ #[t,t] o.type #[fr.eval s,fr.eval x]).run P w=.ok (.slice (some ⟨w.heap.size,0,none⟩) k C) (w.drew.alloc (.cells (news.toArray++Builtin.zeroCells zv.cells (C-k)) e)):=by
   have hk63:(k:Int)<=9223372036854775807:=by simp only[maxLen]at p2;omega
   have hr0:=run_append_nil (P:=P) w t o.type e i zv hu hi hz ⟨b,o',none⟩ k c' news (by rw[hnl,Zi]) hcell p1 hk63 (by rw[hby];omega);refine⟨grownCap w k 0 e,grownCap_ge w k 0 e,grownCap_le_maxLen w k 0 e p2, ?_⟩;rw[hsa,h1];cases a with
   |none=>exact hr0
   |some a=>rw[jr hu hi hz w a ⟨b,o',none⟩ k c' news (by rw[hnl,Zi]) hcell p1 p2 (by rw[hby];exact p3)];exact hr0
  obtain⟨C,hC1,hC2,Ub⟩:=Ub;have hfn:=hf n (Lw _) (by omega);have harr:(news.toArray++Builtin.zeroCells zv.cells (C-k)).size=C*z:=by
   rw[Array.size_append,size_zeroCells,hzs,List.size_toArray,hnl,<-Nat.add_mul];congr 1;omega
  refine⟨.ret (.slice (some ⟨w.heap.size,0,none⟩) k C),_,_,gU Q7 hS hfn none (fun _ h=>by cases h) w.heap.size (news.toArray++Builtin.zeroCells zv.cells (C-k)).size _ hB.le (by simp) (.inl (Lw _)) (by simp) (fun b hb _=>Below.heap_alloc w.drew _ b hb) (.ofCells (heap_alloc_new w.drew _) ?_ rfl fun j v hv=> ?_) ⟨rfl,rfl,rfl⟩,.ret ?_,P8 hm ht ho hw (fun c h=>by rw[XY]at h;cases h) (w':=w.drew.alloc _) ?_⟩
  ·rw[Array.size_append];have:=hV.1;simp only[List.size_toArray]at this ⊢;omega
  ·obtain⟨u,e1,e2⟩:=hV.get hv;have hj:j<news.toArray.size:=(Array.getElem?_eq_some_iff.1 e1).1;exact⟨u,by rw[Array.getElem?_append_left hj];exact e1,e2.mono (KM hfn)⟩
  ·refine .slice ⟨_,Xy,rfl,rfl⟩ hC1 hC2 (fun _ im QD _ _=> ?_);rw[Xy]at QD;cases QD;exact harr.symm
  ·simp[execOp,XY,resolve,hc,invoke,builtin,ea,et,Ub]
 ·omega
theorem pq{sv:Value}{r k z by':Nat}{cs:Array Value}{e:TypeId}{zv:Value}(h:bk P T o=some (sv,r,k,cs,e,z,by',zv))(Xi:r<n)(WA:Xu (Qq H r)=true)(hk:k=0):
 SN P B o (XV T) H n (.ret sv) H n [r] []:=by
 obtain⟨c,s,x,t,i,XY,hc,ea,et,hs,hx,hbn,hu,hi,hz,Zi,hby,hzs,hzp⟩:=iA h;refine UM Xi WA (fun c h=>by rw[XY]at h;cases h) fun μ w ρ im QD hf XK=> ?_
 have hvs:=XK s (by simp[XY,Op.operands,Call.operands,hc,ea]) _ hs;have hvx:=XK x (by simp[XY,Op.operands,Call.operands,hc,ea]) _ hx;obtain⟨a,hsa⟩:=jq hbn hvs;obtain⟨Z4,QO,htr⟩:=hvx.top_inv;rw[QD]at QO;cases QO;subst hk;have hxx:∃b d,ρ x=.slice b 0 d:=by
  rcases htr.slice_inv with ⟨b,o',c',arr,ty,fl,h1,_⟩|⟨_,_,a',c',h1,_⟩
  ·exact⟨_,_,h1⟩
  ·exact⟨_,_,h1⟩
 obtain⟨b,d,hxx⟩:=hxx;refine⟨.slice a 0 0, ?_,by rw[<-hsa];exact hvs⟩;have hszp:W5 P e=some z:=by simp[W5,J1,hi,Zi]
 have hr:=js (ty:=o.type) hu hszp w a b 0 0 d (Lw _);simp[execOp,XY,resolve,hc,invoke,builtin,ea,et,hsa,hxx,hr]
theorem ug{b off k r m z:Nat}{cs2:Array Value}(h:jO P T o=some (b,off,k,r,m,cs2,z)):
 ∃c s x t t2 e s1,o.op=.call c/\c.callee=.builtin .copy/\c.args=#[s,x]/\c.argTypes=#[t,t2]/\XV T s=some (.slice (some ⟨b,off,none⟩) k s1)/\XV T x=some (Qk r (Xo m cs2))/\P.underlying t=some (.slice e)/\W5 P e=some z:=by
 unfold jO at h;split at h
 ·rename_i c XY;split at h
  ·rename_i hc;split at h
   ·rename_i s x t t2 ha ht;split at h
    ·rename_i b' off' k' s1 xv hs hx;split at h
     ·rename_i r' m' cs' e' htop hu;split at h
      ·rename_i z' hz;simp only[YO,YR]at h;obtain⟨rfl,rfl,rfl,rfl,rfl,rfl,rfl⟩:=h;rw[Zw]at hu;exact⟨c,s,x,t,t2,e',s1,XY,hc,by rw[<-ha],by rw[<-ht],hs,by rw[hx,RG htop],hu,hz⟩
      ·cases h
     ·cases h
    ·cases h
   ·cases h
  ·cases h
 ·cases h
theorem r6{b off k r m z:Nat}{cs cs2 cs':Array Value}{te:TypeId}(h:jO P T o=some (b,off,k,r,m,cs2,z))(hg:Qq H b=some (.cells cs te (0,0)))(Xi:r<n)(WA:Xu (Qq H r)=true)(hbn:b<n)
 (hp:0<m/\off+LW m k*z<=cs.size/\LW m k*z<=cs2.size/\(cs2.all fun v=>simple v || WE v)=true/\ones ((cs2.extract 0 (LW m k*z)).map (Wb r))=true/\splice cs off ((cs2.extract 0 (LW m k*z)).map (Wb r))=cs'):
 SN P B o (XV T) H n (.ret (.int .i64 (LW m k))) (VE H b (.cells cs' te (0,0))) n [b,r] [b]:=by
 intro S μ w fr _ _ _ _ _ Q7 hB hS hf XK hR hm ht ho hw;obtain⟨c,s,x,t,t2,e,s1,XY,hc,ea,et,hs,hx,hu,hz⟩:=ug h;obtain⟨p0,h1,h2,p4,h3,rfl⟩:=hp;obtain⟨xr,hxr,hr⟩:=ZE WA;obtain⟨imr,himr,hfm⟩:=Q7.Jv r xr (hR r (by simp) Xi) hxr hr;have hb:S b:=hR b (by simp) hbn;obtain⟨im,QD,ZQ⟩:=Q7.rel b _ hb hg trivial;have hvs:=XK s (by simp[XY,Op.operands,Call.operands,hc,ea]) _ hs;have hvx:=XK x (by simp[XY,Op.operands,Call.operands,hc,ea]) _ hx;obtain⟨imr',himr',htr⟩:=hvx.top_inv;rw[himr]at himr';cases himr';generalize hsv:fr.eval s=sv at hvs;cases hvs with
 |slice har q1 q2 q3=>
  obtain⟨Z4,QO,_,rfl⟩:=har;simp only at QO;rw[QD]at QO;cases QO;rcases htr.slice_inv with ⟨b2,o',c',arr2,ty,fl,g1,g2,g3,g4,g5,g6⟩|⟨h0,_⟩
  ·have hb2:=hfm _ _ g4;have hcell:∀j,j<LW m k*z->w.cell? ((⟨b2,o',none⟩:Addr).add j)=some (arr2.getD (o'+j) undef):=by
    intro j hj;have hlt2:=g5 j (by omega);rw[WB];simp[World.cell?,hb2,hlt2]
   have hload:=run_loadCells (P:=P) w ⟨b2,o',none⟩ (LW m k*z) (fun j=>arr2.getD (o'+j) undef) hcell;generalize hxsd:(((Array.range (LW m k*z)).map fun j=>arr2.getD (o'+j) undef):Array Value)=xs0;obtain⟨xs,hload,hxs⟩:∃xs,(loadCells ⟨b2,o',none⟩ (LW m k*z)).run P w=.ok xs w/\VRs μ ((cs2.extract 0 (LW m k*z)).map (Wb r)) xs:=by
    refine⟨_,hload,⟨by simp;omega,fun i v v' hv ZW=> ?_⟩⟩;rw[Array.getElem?_map]at hv;cases hy:(cs2.extract 0 (LW m k*z))[i]? with
    |none=>rw[hy]at hv;cases hv
    |some y=>
     rw[hy]at hv;simp only[LG,YO]at hv;subst hv;rw[LX]at hy;split at hy
     ·rename_i hlt3;have hi:i<LW m k*z:=by omega
      have hy2:cs2[i]? =some y:=by simpa using hy
      simp[hi]at ZW;have hlt2:=g5 i (by omega);refine ao himr (Array.all_eq_true'.1 p4 y (LJ hy2)) (g6 i y v' hy2 ?_);rw[<-ZW];simp[hlt2]
     ·cases hy
   have hxsz:xs.size=LW m k*z:=by rw[<-hxs.1];simp;omega
   have hexsz:((cs2.extract 0 (LW m k*z)).map (Wb r)).size=LW m k*z:=by simp;omega
   rcases ZQ with ⟨_,Rl,hoo,arr,ha,hle,hcap,hcs⟩|⟨hz0,_⟩
   ·have XZ:=run_storeCells_at (P:=P) im.Zq off te xs.toList 0 arr w ha (by simp[hxsz];omega) (hxs.ones h3);simp only[Nat.add_zero]at XZ;refine⟨.ret (.int .i64 (LW m k)),w.setRow im.Zq (CE.splice arr off xs),μ,Post.write Q7 hS b _ (.cells (CE.splice cs off ((cs2.extract 0 (LW m k*z)).map (Wb r))) te (0,0)) im hb hg trivial QD Rl (w':=w.setRow im.Zq (CE.splice arr off xs)) ?_ ?_ ?_ ⟨rfl,rfl,rfl⟩,.ret (.int _ _),P8 hm ht ho hw (fun c h=>by rw[XY]at h;cases h) ?_⟩
    ·simp[World.setRow]
    ·intro y hy;exact setRow_other w im.Zq y _ hy
    ·refine .inl ⟨rfl,Rl,hoo,CE.splice arr off xs,setRow_heap w im.Zq arr _ te _ ha, ?_, ?_, ?_⟩
     ·rw[WM (by rw[hexsz];omega),WM (by rw[hxsz];omega)];exact hle
     ·rw[WM (by rw[hxsz];omega)];exact hcap
     ·exact VRs.splice (by rw[hexsz];omega) hle hcs hxs
    ·simp[execOp,XY,resolve,hc,invoke,builtin,ea,et,hsv,g1,Builtin.copy_,Builtin.lenOf,Builtin.firstCells,Sem.run_bind,Sem.run_pure,Result.andThen_ok,run_underlying hu,Zj hz,hload,hoo,XZ,CE.splice,goInt]
   ·exact absurd rfl hz0
  ·omega
theorem qP(hF:∀g,F g=true->Q0 P g=true)(hJ:∀w,B.has w->J w)(hu:Under H n){h:Option Qf}{a:Told}(e:opT P F J B T o H n h=some a)(hp:∀p,a.p=some p->p):
 SN P B o (XV T) H n a.s.out a.s.H a.s.n a.s.R a.s.W/\Shape H n a.s.H a.s.n a.s.R a.s.W:=by
 unfold opT at e;split at e
 ·split at e
  ·rename_i v r htr;cases hq:(Ll r n && Xu (Qq H r))with
   |false=>rw[hq]at e;cases e
   |true=>
    rw[hq]at e;simp only[cond_true,YO]at e;subst e;simp only[YB]at hq;exact⟨r5 htr (YL hq.1) hq.2,Shape.same _ _ _⟩
  ·exact qQ hF hu e hp
 ·exact qQ hF hu e hp
 ·rename_i k es;split at e
  ·rename_i t x i XY;split at e
   ·rename_i u kk q hx hi;split at e
    ·rename_i r m cs el htop hue;split at e
     ·rename_i z hz;cases hq:(Ll r n && Xu (Qq H r))with
      |false=>rw[hq]at e;cases e
      |true=>
       rw[hq]at e;simp only[cond_true,YO]at e;subst e;simp only[YB]at hq;obtain⟨Xi,WA⟩:=hq;obtain⟨hqk,T6,hes⟩:=hp _ rfl;refine⟨UM (YL Xi) WA (fun c h=>by rw[XY]at h;cases h) fun μ w ρ im QD hf XK=> ?_,Shape.same _ _ _⟩;have hv:=XK x (by simp[XY,Op.operands]) _ hx;have hiv:=o8 (XK i (by simp[XY,Op.operands]) _ hi);rw[RG htop]at hv;obtain⟨Z4,QO,htr⟩:=hv.top_inv;rw[QD]at QO;cases QO;have UP:=htr.slice_inv;rcases UP with ⟨b,o',c',arr,ty,fl,h1,h2,h3,h4,h5,h6⟩|⟨rfl,_⟩
       ·have hess:k*z+es.size<=cs.size\/es.size=0:=by rw[<-hes];simp;omega
        refine⟨.pointer (some ⟨b,o'+k*z,none⟩),by simp[execOp,XY,h1,hiv,qZ hue hz hqk T6],.top rfl QD ?_⟩;refine TRv.ptr (o:=o'+k*z) (off:=0) h4 (fun i hi=> ?_) fun i v v' hv ZW=> ?_
        ·have:=h5 (k*z+i) (by omega);omega
        ·rw[<-hes,LX]at hv;split at hv
         ·refine h6 (k*z+i) v v' hv ?_;rw[<-ZW,Nat.add_assoc]
         ·cases hv
       ·omega
     ·cases e
    ·cases e
   ·cases e
  ·cases e
 ·rename_i k es;split at e
  ·rename_i t x i XY;split at e
   ·rename_i u kk q hx hi;split at e
    ·rename_i r off cs m el htop hue;split at e
     ·rename_i z hz;cases hq:(Ll r n && Xu (Qq H r))with
      |false=>rw[hq]at e;cases e
      |true=>
       rw[hq]at e;simp only[cond_true,YO]at e;subst e;simp only[YB]at hq;obtain⟨Xi,WA⟩:=hq;obtain⟨hqk,T6,hes⟩:=hp _ rfl;refine⟨UM (YL Xi) WA (fun c h=>by rw[XY]at h;cases h) fun μ w ρ im QD hf XK=> ?_,Shape.same _ _ _⟩;have hv:=XK x (by simp[XY,Op.operands]) _ hx;have hiv:=o8 (XK i (by simp[XY,Op.operands]) _ hi);rw[kI htop]at hv;obtain⟨Z4,QO,htr⟩:=hv.top_inv;rw[QD]at QO;cases QO;obtain⟨b,o',arr,ty,fl,h1,h2,h3,h4⟩:=htr.ptr_inv;refine⟨.pointer (some ⟨b,o'+off+k*z,none⟩),by simp[execOp,XY,h1,hiv,fW hue hz hqk T6],.top rfl QD ?_⟩;rw[Nat.add_assoc o'];refine TRv.ptr (o:=o'+(off+k*z)) (off:=0) h2 (fun i hi=> ?_) fun i v v' hv ZW=> ?_
       ·have Zi:es.size<=cs.size-(off+k*z):=by rw[<-hes];simp;omega
        have:=h3 (off+k*z+i) (by omega);omega
       ·rw[<-hes,LX]at hv;split at hv
        ·refine h4 (off+k*z+i) v v' hv ?_;rw[<-ZW,Nat.add_assoc o']
        ·cases hv
     ·cases e
    ·cases e
   ·cases e
  ·cases e
 ·rename_i k m' cs';split at e
  ·rename_i t x lo XY;split at e
   ·rename_i u kk q hx hi;split at e
    ·rename_i r m cs el htop hue;split at e
     ·rename_i z hz;cases hq:(Ll r n && Xu (Qq H r))with
      |false=>rw[hq]at e;cases e
      |true=>
       rw[hq]at e;simp only[cond_true,YO]at e;subst e;simp only[YB]at hq;obtain⟨Xi,WA⟩:=hq;obtain⟨hqk,T6,hm',hes⟩:=hp _ rfl;refine⟨UM (YL Xi) WA (fun c h=>by rw[XY]at h;cases h) fun μ w ρ im QD hf XK=> ?_,Shape.same _ _ _⟩;have hv:=XK x (by simp[XY,Op.operands]) _ hx;have hiv:=o8 (XK lo (by simp[XY,Op.operands]) _ hi);rw[RG htop]at hv;obtain⟨Z4,QO,htr⟩:=hv.top_inv;rw[QD]at QO;cases QO;have UP:=htr.slice_inv;rcases UP with ⟨b,o',c',arr,ty,fl,h1,h2,h3,h4,h5,h6⟩|⟨rfl,_⟩
       ·refine⟨.slice (some ⟨b,o'+k*z,none⟩) (m-k) (c'-k),by simp[execOp,XY,h1,hiv,u3 hue hz hqk T6 h2],.top rfl QD ?_⟩;rw[hm'];refine TRv.slice (o:=o'+k*z) (by omega) (by omega) h4 (fun i hi=> ?_) fun i v v' hv ZW=> ?_
        ·rw[<-hes,Array.size_extract]at hi;have:=h5 (k*z+i) (by omega);omega
        ·rw[<-hes,LX]at hv;split at hv
         ·refine h6 (k*z+i) v v' hv ?_;rw[<-ZW,Nat.add_assoc]
         ·cases hv
       ·omega
     ·cases e
    ·cases e
   ·cases e
  ·cases e
 ·rename_i cs';split at e
  ·rename_i u1 r k cs el z by' u2 hta
   cases hq:(Ll r n && Xu (Qq H r))with
   |false=>rw[hq]at e;cases e
   |true=>
    rw[hq]at e;simp only[cond_true,YO]at e;subst e;simp only[YB]at hq;exact⟨r7 hta (YL hq.1) hq.2 (hp _ rfl),Shape.new _ _ _ _⟩
  ·cases e
 ·split at e
  ·rename_i sv r k cs el z by' u2 hta
   cases hq:(Ll r n && Xu (Qq H r))with
   |false=>rw[hq]at e;cases e
   |true=>
    rw[hq]at e;simp only[cond_true,YO]at e;subst e;simp only[YB]at hq;exact⟨pq hta (YL hq.1) hq.2 (hp _ rfl),Shape.same _ _ _⟩
  ·cases e
 ·rename_i cs';split at e
  ·rename_i b off k r m cs2 z hta;split at e
   ·rename_i cs te hg;cases hq:(Ll r n && Xu (Qq H r) && Ll b n)with
    |false=>rw[hq]at e;cases e
    |true=>
     rw[hq]at e;simp only[cond_true,YO]at e;subst e;simp only[YB]at hq;have hb:=YL hq.2;exact⟨r6 hta hg (YL hq.1.1) hq.1.2 hb (hp _ rfl),(Shape.set _ hb).moreR (fun i hi=>by simp at hi ⊢;exact .inl hi)⟩
   ·cases e
  ·cases e
 ·rename_i s;simp only[YO]at e;subst e;exact Y0 hF JO (QF P B) hu (hp _ rfl)
 ·rename_i v;split at e
  ·rename_i op t x y yt XY;split at e
   ·rename_i a b hx hy;cases hq:(af a && af b && af v)with
    |false=>rw[hq]at e;cases e
    |true=>
     rw[hq]at e;simp only[cond_true,YO]at e;subst e;simp only[YB]at hq;have hb:=hp _ rfl;refine⟨Ke (fun c h=>by rw[XY]at h;cases h) fun μ w ρ _ XK=> ?_,Shape.same _ _ _⟩;have e1:=SM hq.1.1 (XK x (by simp[XY,Op.operands]) _ hx);have e2:=SM hq.1.2 (XK y (by simp[XY,Op.operands]) _ hy);refine⟨v, ?_,Pc hq.2⟩;simp only[execOp,XY,e1,e2];rw[Sem.run_bind,hb x y w];rfl
   ·cases e
  ·cases e
 ·rename_i keys out UN n' W;split at e
  ·rename_i c XY;split at e
   ·rename_i g args H1 n1 R W1 hcr;cases hn:(Lf n1 n && W1.isEmpty)with
    |false=>rw[hn]at e;cases e
    |true=>
     rw[hn]at e;simp only[cond_true]at e;simp only[YB,List.isEmpty_iff]at hn;obtain⟨PV,rfl⟩:=hn;have PV:=YE PV;subst PV;split at e
     ·rename_i c1 hc1;simp only[YO]at e;subst e;exact Y6 hF XY hu hcr ((hp _ rfl).callJ hc1)
     ·cases e
   ·rename_i l fn tm cda cdb H1 n1 R W1 hcr;cases hn:(Lf n1 n && W1.isEmpty && LI tm.size 16000)with
    |false=>rw[hn]at e;cases e
    |true=>
     rw[hn]at e;simp only[cond_true,YO]at e;subst e;simp only[YB,List.isEmpty_iff]at hn;obtain⟨⟨PV,rfl⟩,Zi⟩:=hn;have PV:=YE PV;subst PV;have Vq:=FJ.recS (hp _ rfl);have:=Y0 hF Vq (QF P B) hu (T:=T) (o:=o) (s:=⟨out,UN++H1,n',R++keys,W⟩) (by
      simp[aN,XY,hcr,Zi,RI])
     exact this
   ·cases e
  ·cases e
 ·rename_i out fz;split at e
  ·rename_i c XY;split at e
   ·rename_i g args H1 n1 R W1 hcr;cases hn:(Lf n1 n && W1.isEmpty)with
    |false=>rw[hn]at e;cases e
    |true=>
     rw[hn]at e;simp only[cond_true]at e;simp only[YB,List.isEmpty_iff]at hn;obtain⟨PV,rfl⟩:=hn;have PV:=YE PV;subst PV;split at e
     ·rename_i ts R2 L XZ;cases Xi:(R2.all fun i=>Ll i n1)with
      |false=>rw[Xi]at e;cases e
      |true=>
       rw[Xi]at e;simp only[cond_true]at e;cases WX:av 2 out with
       |true=>
        rw[WX]at e;simp only[cond_true,YO]at e;subst e;obtain⟨hL,hpc⟩:=hp _ rfl;exact Y6 hF XY hu hcr (zk hJ XZ hL hpc WX Xi)
       |false=>
        rw[WX]at e;simp only[cond_false]at e;cases hq:((R2.all fun i=>Xu (Qq H1 i)) && s8 4 out)with
        |false=>rw[hq]at e;cases e
        |true=>
         rw[hq]at e;simp only[cond_true,YO]at e;subst e;simp only[YB]at hq;obtain⟨hL,hpc⟩:=hp _ rfl;exact Y6 hF XY hu hcr (v8 hJ XZ hL hpc Xi hq.1 hq.2)
     ·cases e
   ·cases e
  ·cases e
 ·rename_i out fz;split at e
  ·rename_i c XY;split at e
   ·rename_i g args H1 n1 R W1 hcr;cases hn:(Lf n1 n && W1.isEmpty)with
    |false=>rw[hn]at e;cases e
    |true=>
     rw[hn]at e;simp only[cond_true]at e;simp only[YB,List.isEmpty_iff]at hn;obtain⟨PV,rfl⟩:=hn;have PV:=YE PV;subst PV;split at e
     ·rename_i ts R2 L XZ;cases hq:((R2.all fun i=>Ll i n1) && (R2.all fun i=>Xu (Qq H1 i) || aK (Qq H1 i)) && s8 4 out)with
      |false=>rw[hq]at e;cases e
      |true=>
       rw[hq]at e;simp only[cond_true,YO]at e;subst e;simp only[YB]at hq;obtain⟨hL,hpc⟩:=hp _ rfl;exact Y6 hF XY hu hcr (rM hJ XZ hL hpc hq.1.1 hq.1.2 hq.2)
     ·cases e
   ·cases e
  ·cases e
 ·rename_i κ R ps qs out outs news;split at e
  ·rename_i c XY;split at e
   ·rename_i g args H1 n1 R0 W1 hcr;cases hn:(Lf n1 n && W1.isEmpty)with
    |false=>rw[hn]at e;cases e
    |true=>
     rw[hn]at e;simp only[cond_true]at e;simp only[YB,List.isEmpty_iff]at hn;obtain⟨PV,rfl⟩:=hn;have PV:=YE PV;subst PV;split at e
     ·rename_i as bs o1 UN L hw;simp only[YO]at e;subst e;obtain⟨hL,hwr⟩:=hp _ rfl;exact Y6 hF XY hu hcr (hwr.callJ hJ κ R ps qs hw hL rfl rfl)
     ·cases e
   ·cases e
  ·cases e
 ·-- a tree Pd is not nil
  split at e
  ·rename_i op t x y yt XY;split at e
   ·rename_i v hx hy;split at e
    ·rename_i r m cs el htop hue;cases hq:(Ll r n && Xu (Qq H r))with
     |false=>rw[hq]at e;cases e
     |true=>
      rw[hq]at e;simp only[cond_true]at e;simp only[YB]at hq;obtain⟨Xi,WA⟩:=hq;have key:0<m->∀(μ:Mu) (w:World) (ρ:Operand->Value) (im:c7),μ r=some im->(∀x'∈o.op.operands,∀v',XV T x'=some v'->VR μ v' (ρ x'))->ρ y=.slice none 0 0/\∃p c,ρ x=.slice (some p) m c:=fun hm μ w ρ im QD XK=>by
       have hv:=XK x (by simp[XY,Op.operands]) _ hx;have h2:=XK y (by simp[XY,Op.operands]) _ hy;rw[RG htop]at hv;obtain⟨Z4,QO,htr⟩:=hv.top_inv;have e2:ρ y=.slice none 0 0:=by generalize ρ y=z at h2;cases h2;rfl
       refine⟨e2, ?_⟩;rcases htr.slice_inv with ⟨b,o',c',arr,ty,fl,h1,_,_,_,_,_⟩|⟨h0,_⟩
       ·exact⟨_,_,h1⟩
       ·omega
      have heq:∀(p:Addr) (c:Nat) (w:World),(Op.equal t (.slice (some p) m c) (.slice none 0 0)).run P w=.ok false w:=fun p c w=>by
       show(Op.equalIn (9999+1) t (.slice (some p) m c) (.slice none 0 0)).run P w=.ok false w;unfold Op.equalIn;rw[Zw]at hue;simp[Sem.run_bind,run_underlying hue,Sem.run_pure]
      split at e
      ·rename_i hop2;simp only[YO]at e;subst e;have hm:=hp _ rfl;refine⟨UM (YL Xi) WA (fun c h=>by rw[XY]at h;cases h) fun μ w ρ im QD hf XK=> ?_,Shape.same _ _ _⟩;obtain⟨e2,p,c,e1⟩:=key hm μ w ρ im QD XK;exact⟨.bool false,by simp[execOp,XY,e1,e2,eqGuard,binOp,Sem.run_bind,Sem.run_pure,heq],.bool _⟩
      ·rename_i hop2;simp only[YO]at e;subst e;have hm:=hp _ rfl;refine⟨UM (YL Xi) WA (fun c h=>by rw[XY]at h;cases h) fun μ w ρ im QD hf XK=> ?_,Shape.same _ _ _⟩;obtain⟨e2,p,c,e1⟩:=key hm μ w ρ im QD XK;exact⟨.bool true,by simp[execOp,XY,e1,e2,eqGuard,binOp,Sem.run_bind,Sem.run_pure,heq],.bool _⟩
      ·cases e
    ·cases e
   ·cases e
  ·cases e
 ·rename_i κ R ps qs out outs news o2;split at e
  ·rename_i c XY;split at e
   ·rename_i g args H1 n1 R0 W1 hcr;cases hn:(Lf n1 n && W1.isEmpty)with
    |false=>rw[hn]at e;cases e
    |true=>
     rw[hn]at e;simp only[cond_true]at e;simp only[YB,List.isEmpty_iff]at hn;obtain⟨PV,rfl⟩:=hn;have PV:=YE PV;subst PV;split at e
     ·rename_i as bs o1 UN L hw;simp only[YO]at e;subst e;obtain⟨⟨hL,hwr⟩,ho⟩:=hp _ rfl;subst ho;exact Y6 hF XY hu hcr (hwr.callJ hJ κ R ps qs hw hL rfl rfl)
     ·cases e
   ·cases e
  ·cases e
end
abbrev VN(k:Int)(n:Nat)(xs:Array Value)(t:Nat)(v:Array Value):Prop:=k=(↑k.toNat:Int)/\k.toNat<n/\xs.extract (k.toNat*t) (k.toNat*t+t)=v
abbrev PM(a v r:Array Value)(n f z:Nat):Prop:=a.size=n*f/\n+1<=maxLen/\(n+1)*z<=140737488355328/\a++v=r
end Go.CE

namespace Go.CE
open Go Go.RowKit

abbrev QA:=List (Nat×Qf)
def OE(sc:QA)(q:Nat):Option Qf×QA:=match sc with
 |(k,h)::l=>bif Lf k q then(some h,l)else(none,sc)
 |[]=>(none,[])
structure RRT where
 Qs:List Rec
 T:Tm
 H:Qm
 n:Nat
 sc:QA
 q:Nat
 L:List Prop
 ZB:Option (Value×List Nat×List Nat)
def dy(P:Program)(F:FuncId->Bool)(J:World->Prop)(B:Lo)(ops:Array Oper):List Oper->Tm->Qm->Nat->QA->Nat->List Prop->Option RRT
 |[],T,H,n,sc,q,L=>some ⟨[],T,H,n,sc,q,L,none⟩
 |o::l,T,H,n,sc,q,L=>
  bif PI T o.dst then
   bif Region.wanted o (XI ops T)then
    match OE sc q with
    |(h,sc')=>match opT P F J B T o H n h with
     |some ⟨⟨.ret v,H1,n1,R,W⟩,p⟩=>match dy P F J B ops l (V0 T o.dst v) H1 n1 sc' (q+1) (more p L)with
      |some r=>some {r with Qs:=⟨o,true,v,T,H,H1,n,n1,R,W⟩::r.Qs}
      |none=>none
     |some ⟨⟨.ZB v,H1,n1,R,W⟩,p⟩=>some ⟨[],T,H1,n1,sc',q+1,more p L,some (v,R,W)⟩
     |none=>none
   else match dy P F J B ops l (V0 T o.dst undef) H n sc (q+1) L with
    |some r=>some {r with Qs:=⟨o,false,undef,T,H,H,n,n,[],[]⟩::r.Qs}
    |none=>none
  else none
def I8(P:Program)(F:FuncId->Bool)(B:Lo)(c:CF)(H:Qm)(n:Nat)(f:Operand)(params:Array Tmp)(assign body:Code)(k:List Item)(keys:List Nat)(out:OO)(UN:Qm)(n':Nat)(W:List Nat):Option (CF×Qm×Prop):=
 match XV c.tmps f with
 |some fv=>match Kb c H n params assign body with
  |some (H1,l,ds,_)=>match Rp F H1 fv #[.func (.yield l) #[] #[]]with
   |some (.enter g args,_)=>match Wi P g args with
    |some c1=>match out with
     | .ret _=>some ({c with todo:=.endRangeFunc l::k,defers:=ds++c.defers},UN++H1,FJ P B c1 H1 (l+1) out (UN++H1) n' keys W)
     | .ZB v=>some ({c with mode:=.ZB v,defers:=ds++c.defers},UN++H1,FJ P B c1 H1 (l+1) out (UN++H1) n' keys W)
    |none=>none
   |_=>none
  |none=>none
 |none=>none
def Qn(P:Program)(F:FuncId->Bool)(J:World->Prop)(B:Lo):Nat->Nat->CF->Qm->Nat->QA->Nat->List Nat->List Prop->Option ST
 |0,_,c,H,n,_,_,W,L=>some ⟨.at c H n,W,L⟩
 |k+1,b,c,H,n,sc,q,W,L=>
  match c.mode,c.todo with
  | .run,.code (.region _ ops draw)::todo=>match dy P F J B ops ops.toList c.tmps H n sc q L with
    |some r=>match r.ZB with
     |none=>bif !draw || (Vg 0 ops.toList && indep ops 0 r.Qs (JK ops.toList []))then Qn P F J B k b {c with tmps:=r.T,todo:=todo} r.H r.n r.sc r.q (ZP b (Uh r.Qs) W) r.L else none
     |some (v,_,W1)=>bif !draw || Ts ops r.Qs r.T then Qn P F J B k b {c with tmps:=r.T,mode:=.ZB v} r.H r.n r.sc r.q (ZP b (Uh r.Qs++W1) W) r.L else none
    |none=>none
  | .run,.code (.rangeFunc f params assign body)::todo=>match OE sc q with
    |(some (.XO (.call keys out UN n1 W1)),sc')=>match I9 P F B c H n f params assign body todo keys out UN n1 W1 with
     |some (c',H',p)=>Qn P F J B k b c' H' n1 sc' q (ZP b W1 W) (p::L)
     |none=>none
    |(some (.call keys out UN n1 W1),sc')=>match I8 P F B c H n f params assign body todo keys out UN n1 W1 with
     |some (c',H',p)=>Qn P F J B k b c' H' n1 sc' q (ZP b W1 W) (p::L)
     |none=>none
    |_=>none
  |_,_=>match Rn P F Xn (fun _ _ _=>none) c H n with
   |some (.go c' H' n' _ W')=>Qn P F J B k b c' H' n' sc q (ZP b W' W) L
   |some (.done out H' n' _ W')=>some ⟨.fin out H' n',ZP b W' W,L⟩
   |none=>none
section
variable {P:Program} {F:FuncId->Bool} {J:World->Prop} {B:Lo}
theorem Pj{ops:Array Oper}:∀(l:List Oper) (T:Tm) (H:Qm) (n:Nat) (sc:QA) (q:Nat) (L:List Prop) (r:RRT),dy P F J B ops l T H n sc q L=some r->Qz r.L->Qz L
 |[],T,H,n,sc,q,L,r,h,ha=>by
  simp only[dy,YO]at h;subst h;exact ha
 |o::l,T,H,n,sc,q,L,r,h,ha=>by
  simp only[dy]at h;cases hd:PI T o.dst with
  |false=>rw[hd]at h;cases h
  |true=>
   rw[hd]at h;simp only[cond_true]at h;cases hw:Region.wanted o (XI ops T)with
   |true=>
    rw[hw]at h;simp only[cond_true]at h;split at h
    ·rename_i v H1 n1 R W p XY;split at h
     ·rename_i r' hr;simp only[YO]at h;subst h;exact(fP (Pj l _ _ _ _ _ _ r' hr ha)).2
     ·cases h
    ·simp only[YO]at h;subst h;exact(fP ha).2
    ·cases h
   |false=>
    rw[hw]at h;simp only[cond_false]at h;split at h
    ·rename_i r' hr;simp only[YO]at h;subst h;exact Pj l _ _ _ _ _ _ r' hr ha
    ·cases h
def RegOk(P:Program)(B:Lo)(ops:Array Oper)(l:List Oper)(T:Tm)(H:Qm)(n:Nat)(r:RRT):Prop:=match r.ZB with
 |none=>KK r.Qs T H n r.T r.H r.n/\r.Qs.map (·.o)=l/\Under r.H r.n
 |some (v,R,W)=> ∃H1 n1 o l2,KK r.Qs T H n r.T H1 n1/\r.Qs.map (·.o)++o::l2=l/\Region.wanted o (XI ops r.T)=true/\SN P B o (XV r.T) H1 n1 (.ZB v) r.H r.n R W/\Shape H1 n1 r.H r.n R W/\Under r.H r.n
theorem RegOk.cons{ops:Array Oper}{l:List Oper}{T:Tm}{H:Qm}{n:Nat}{r:RRT}{x:Rec}(h:RegOk P B ops l (V0 T x.o.dst x.v) x.H' x.n' r)(hT:x.T=T)(hH:x.H=H)(hn:x.n=n):RegOk P B ops (x.o::l) T H n {r with Qs:=x::r.Qs}:=by
 unfold RegOk at h ⊢;cases hp:r.ZB with
 |none=>
  rw[hp]at h;obtain⟨h3,h4,h5⟩:=h;exact⟨⟨hT,hH,hn,h3⟩,by simp[h4],h5⟩
 |some p=>
  obtain⟨v,R,W⟩:=p;rw[hp]at h;obtain⟨H1,n1,o,l2,h1,h2,h3⟩:=h;exact⟨H1,n1,o,l2,⟨hT,hH,hn,h1⟩,by simp[h2],h3⟩
theorem PZ(hF:∀g,F g=true->Q0 P g=true)(hJ:∀w,B.has w->J w){ops:Array Oper}{len:Nat}:∀(l:List Oper) (T:Tm) (H:Qm) (n:Nat) (sc:QA) (q:Nat) (L:List Prop) (r:RRT),T.len=len->Under H n->dy P F J B ops l T H n sc q L=some r->Qz r.L->
 (∀x∈r.Qs,cv len x)/\(∀x∈r.Qs,Rv P B ops x)/\RegOk P B ops l T H n r
 |[],T,H,n,sc,q,L,r,hl,hu,h,ha=>by
  simp only[dy,YO]at h;subst h;exact⟨fun r hr=>by simp at hr,fun r hr=>by simp at hr,⟨rfl,rfl,rfl⟩,rfl,hu⟩
 |o::l,T,H,n,sc,q,L,r,hl,hu,h,ha=>by
  simp only[dy]at h;cases hd:PI T o.dst with
  |false=>rw[hd]at h;cases h
  |true=>
   have hdst:=Y5 hd;rw[hl]at hdst;rw[hd]at h;simp only[cond_true]at h;cases hw:Region.wanted o (XI ops T)with
   |true=>
    rw[hw]at h;simp only[cond_true]at h;split at h
    ·rename_i v H1 n1 R W p XY;split at h
     ·rename_i r' hr;simp only[YO]at h;subst h;have hpL:=fP (Pj l _ _ _ _ _ _ r' hr ha);obtain⟨hdo,JF⟩:=qP hF hJ hu XY hpL.1;obtain⟨h1,h2,h3⟩:=PZ hF hJ (ops:=ops) (len:=len) l (V0 T o.dst v) H1 n1 _ _ _ r' (by rw[Uk];exact hl) (hu.shape JF) hr ha;refine⟨fun x hx=> ?_,fun x hx=> ?_,RegOk.cons (x:=⟨o,true,v,T,H,H1,n,n1,R,W⟩) h3 rfl rfl rfl⟩
      ·rcases List.mem_cons.1 hx with rfl|hx
       ·exact⟨JF.le,JF.keep,JF.top,JF.sub,JF.wlt,hdst⟩
       ·exact h1 x hx
      ·rcases List.mem_cons.1 hx with rfl|hx
       ·exact⟨hw.symm,(fun _=>hdo),(fun e=>by cases e)⟩
       ·exact h2 x hx
     ·cases h
    ·rename_i v H1 n1 R W p XY;simp only[YO]at h;subst h;obtain⟨hdo,JF⟩:=qP hF hJ hu XY (fP ha).1;exact⟨fun r hr=>by simp at hr,fun r hr=>by simp at hr,H,n,o,l,⟨rfl,rfl,rfl⟩,rfl,hw,hdo,JF,hu.shape JF⟩
    ·cases h
   |false=>
    rw[hw]at h;simp only[cond_false]at h;split at h
    ·rename_i r' hr;simp only[YO]at h;subst h;obtain⟨h1,h2,h3⟩:=PZ hF hJ (ops:=ops) (len:=len) l (V0 T o.dst undef) H n _ _ _ r' (by rw[Uk];exact hl) hu hr ha;refine⟨fun x hx=> ?_,fun x hx=> ?_,RegOk.cons (x:=⟨o,false,undef,T,H,H,n,n,[],[]⟩) h3 rfl rfl rfl⟩
     ·rcases List.mem_cons.1 hx with rfl|hx
      ·exact⟨Lw _,fun _ _ _=>rfl,fun _ _=>rfl,fun i hi=>by simp at hi,fun i hi=>by simp at hi,hdst⟩
      ·exact h1 x hx
     ·rcases List.mem_cons.1 hx with rfl|hx
      ·exact⟨hw.symm,(fun e=>by cases e),fun _=>⟨rfl,rfl,rfl,rfl⟩⟩
      ·exact h2 x hx
    ·cases h
theorem oC{c:CF}{H:Qm}{n:Nat}{id:Nat}{ops:Array Oper}{k:List Item}{Qs:List Rec}{v:Value}{H':Qm}{n':Nat}{R W:List Nat}{T':Tm}(hm:c.mode=.run)
 (ht:c.todo=.code (.region id ops false)::k) (hs:∀x∈Qs,cv c.tmps.len x) (hk:∀x∈Qs,Rv P B ops x)
 (h:∃H1 n1 o l2,KK Qs c.tmps H n T' H1 n1/\Qs.map (·.o)++o::l2=ops.toList/\Region.wanted o (XI ops T')=true/\SN P B o (XV T') H1 n1 (.ZB v) H' n' R W/\Shape H1 n1 H' n' R W/\Under H' n'):
 GoJ P B c H n {c with tmps:=T',mode:=.ZB v} H' n' (Yn Qs++R) (Uh Qs++W):=by
 obtain⟨H1,n1,o,l2,R9,hmap,UO,hdo,JF,_⟩:=h;have hown:=U4 (l2:=o::l2) hmap rfl;have hlen:ops.size=Qs.length+(l2.length+1):=by have:=congrArg Ld hmap;simp at this;omega
 have hat:ops[Qs.length]? =some o:=by
  rw[<-Lm,<-hmap,Lp (by simp)];simp
 have hsh1:=ZG Qs _ _ _ _ _ _ R9 hs;have l1:=hsh1.le;have l3:=JF.le;refine⟨hsh1.trans JF,fun S μ w fr cs Z Q7 hB hS hf X8 hR=> ?_⟩;obtain⟨a,b,d⟩:=X8.running hm;rw[ht]at d;obtain⟨L',e,hL⟩:=d.code;have hf1:JL μ n n1:=fun q x y=>hf q x (by omega)
 obtain⟨μ1,A1,w1,hp,hT,XZ⟩:=bn (fr:=fr) (cs:=cs) (k:=L') a Qs 0 c.tmps H n T' H1 n1 (Ly Qs.length (l2.length+1)) R9 hs hk (fun j r hj=>by rw[Lv];exact hown j r hj) rfl S μ w fr.tmps Q7 hB hS hf1
  (fun q hq Xi=>hR q (Lg _ hq) Xi) b
 have hr:Ly 0 Qs.length++Ly Qs.length (l2.length+1)=Ly 0 ops.size:=by
  rw[hlen];have:=List.range'_append_1 (s:=0) (m:=Qs.length) (n:=l2.length+1);simpa using this
 rw[hr,List.range'_succ]at XZ;obtain⟨XW,w2,μ2,YF,ho,hst2⟩:=hdo _ μ1 w1 (Xe fr A1 ops (Qs.length::Ly (Qs.length+1) l2.length) L') cs L' ops Qs.length _ hp.ok (hB.post Q7 hp) (fun q hq=>hq.elim (fun e=>by have:=hS q e;omega) (fun e=>e.2))
  (fun q x y=>by rw[hp.ext q (by omega)];exact hf q (by omega) y) (fun x _ v hv=>oI (fr:=Xe fr A1 ops (Qs.length::Ly (Qs.length+1) l2.length) L') hT x v hv) (fun q hq Xi=>by
   rcases LF q n with h1|h1
   ·exact .inl (hR q (Lt _ hq) h1)
   ·exact .inr ⟨h1,Xi⟩) a rfl hat (by rw[show(Xe fr A1 ops (Qs.length::Ly (Qs.length+1) l2.length) L').tmps=A1 from rfl,Kr hT];exact UO)
 have hpp:=hp.trans YF;cases ho with
 |ZB hv=>
  rename_i v';refine⟨{Xe fr A1 ops (Qs.length::Ly (Qs.length+1) l2.length) L' with mode:=.panicking [{v:=v',recovered:=false}]},w2,μ2,hpp,⟨X8.fn,hT.mono (YF.mu fun q x y=>by rw[hp.ext q (by omega)];exact hf q (by omega) y),(fun h=>by cases h),X8.defers.mono (hpp.mu hf),.ZB hv,X8.kind,X8.round.mono (hpp.mu hf)⟩,rfl,rfl,
   .head (ZS a e) (XZ.trans (hst2.trans ?_))⟩
  simp only[OO.on,Frame.raise,Xe,a];exact Steps.refl _ _
theorem yn(hF:∀g,F g=true->Q0 P g=true)(XP:P.follows .mixedOrders=true){c c':CF}{H H':Qm}{n n':Nat}{f:Operand}{params:Array Tmp}{assign body:Code}{k:List Item}{keys W:List Nat}{out:OO}{UN:Qm}{p:Prop}(hu:Under H n)(hm:c.mode=.run)(ht:c.todo=.code (.rangeFunc f params assign body)::k)
 (h:I8 P F B c H n f params assign body k keys out UN n' W=some (c',H',p)) (hp:p):∃R,GoJ P B c H n c' H' n' R W:=by
 unfold I8 at h;split at h
 ·rename_i fv hfv;split at h
  ·rename_i H1 l ds R1 ho;split at h
   ·rename_i g args R2 hc;split at h
    ·rename_i c1 he;refine⟨R1++R2++keys, ?_⟩;split at h
     ·rename_i v;simp only[YO,YR]at h;obtain⟨rfl,rfl,rfl⟩:=h;have:Rn P F Xn (SX c1 H1 (l+1) ⟨.ret v,UN++H1,n',keys,W⟩) c H n=some (.go {c with todo:=.endRangeFunc l::k,defers:=ds++c.defers} (UN++H1) n' (R1++R2++keys) W):=by
       unfold Rn;simp only[hm,ht,hfv,ho,hc,he,RI]
      exact Vy hF XP (QF P B) (FJ.recS hp) hu this
     ·rename_i v;simp only[YO,YR]at h;obtain⟨rfl,rfl,rfl⟩:=h;have:Rn P F Xn (SX c1 H1 (l+1) ⟨.ZB v,UN++H1,n',keys,W⟩) c H n=some (.go {c with mode:=.ZB v,defers:=ds++c.defers} (UN++H1) n' (R1++R2++keys) W):=by
       unfold Rn;simp only[hm,ht,hfv,ho,hc,he,RI]
      exact Vy hF XP (QF P B) (FJ.recS hp) hu this
    ·cases h
   ·cases h
  ·cases h
 ·cases h
theorem SV(b:Nat):∀(fuel:Nat) (c:CF) (H:Qm) (n:Nat) (sc:QA) (q:Nat) (W0:List Nat) (L:List Prop) (s:ST),Qn P F J B fuel b c H n sc q W0 L=some s->Qz s.L->Qz L:=by
 intro fuel;induction fuel with
 |zero=>intro c H n sc q W0 L s h ha;simp only[Qn,YO]at h;subst h;exact ha
 |succ k ih=>
  intro c H n sc q W0 L s h ha;simp only[Qn]at h;split at h
  ·split at h
   ·rename_i r' hr';split at h
    ·have h:=Y8 h;exact Pj _ _ _ _ _ _ _ _ hr' (ih _ _ _ _ _ _ _ _ h ha)
    ·exact Pj _ _ _ _ _ _ _ _ hr' (ih _ _ _ _ _ _ _ _ (Y8 h) ha)
   ·cases h
  ·split at h
   ·split at h
    ·exact(ih _ _ _ _ _ _ _ _ h ha).2
    ·cases h
   ·split at h
    ·exact(ih _ _ _ _ _ _ _ _ h ha).2
    ·cases h
   ·cases h
  ·split at h
   ·exact ih _ _ _ _ _ _ _ _ h ha
   ·simp only[YO]at h;subst h;exact ha
   ·cases h
theorem Wa(hF:∀g,F g=true->Q0 P g=true)(hJ:∀w,B.has w->J w)(XP:P.follows .mixedOrders=true):∀(fuel b:Nat) (c:CF) (H:Qm) (n:Nat) (sc:QA) (q:Nat) (W0:List Nat) (L:List Prop) (s:ST),Under H n->Qn P F J B fuel b c H n sc q W0 L=some s->Qz s.L->
 ∃R W,SRJ P B c H n R W s.r/\∀i,i<b->(i∈s.W<->i∈W0\/i∈W)
 |0,b,c,H,n,sc,q,W0,L,s,hu,h,ha=>by
  simp only[Qn,YO]at h;subst h;exact⟨[],[],GoJ.refl c H n,fun i _=>by simp⟩
 |k+1,b,c,H,n,sc,q,W0,L,s,hu,h,ha=>by
  have plain:(match Rn P F Xn (fun _ _ _=>none) c H n with
   |some (.go c' H' n' _ W')=>Qn P F J B k b c' H' n' sc q (ZP b W' W0) L
   |some (.done out H' n' _ W')=>some ⟨.fin out H' n',ZP b W' W0,L⟩
   |none=>none)=some s->∃R W,SRJ P B c H n R W s.r/\∀i,i<b->(i∈s.W<->i∈W0\/i∈W):=by
   intro h;split at h
   ·rename_i c' H' n' R' W' hs;have PH:GoJ P B c H n c' H' n' R' W':=Vy hF XP (QF P B) JO hu hs;obtain⟨R,W,h1,h2⟩:=Wa hF hJ XP k b c' H' n' sc q _ L s (hu.shape PH.shape) h ha;refine⟨_,_,PH.srj h1,fun i hi=> ?_⟩;rw[h2 i hi,Zl hi,LZ,or_assoc]
   ·rename_i out H' n' R' W' hs;have hdone:FJ P B c H n out H' n' R' W':=Vy hF XP (QF P B) JO hu hs;simp only[YO]at h;subst h;exact⟨R',W',hdone,fun i hi=>Zl hi⟩
   ·cases h
  simp only[Qn]at h;split at h
  ·rename_i id ops draw todo hm ht;split at h
   ·rename_i r hr;cases hpan:r.ZB with
    |none=>
     rw[hpan]at h;simp only at h;cases hd:(!draw || (Vg 0 ops.toList && indep ops 0 r.Qs (JK ops.toList [])))with
     |false=>rw[hd]at h;cases h
     |true=>
      rw[hd]at h;simp only[cond_true]at h;have hL:Qz r.L:=by
       exact SV b k _ _ _ _ _ _ _ s h ha
      obtain⟨h1,h2,WA⟩:=PZ hF hJ (len:=c.tmps.len) ops.toList c.tmps H n sc q L r rfl hu hr hL;unfold RegOk at WA;rw[hpan]at WA;obtain⟨h3,h4,h5⟩:=WA;have PH:=tt XP hm ht h1 h2 h3 h4 hd;obtain⟨R,W,k1,k2⟩:=Wa hF hJ XP k b _ _ _ _ _ _ _ s h5 h ha;refine⟨_,_,PH.srj k1,fun i hi=> ?_⟩;rw[k2 i hi,Zl hi,LZ,or_assoc]
    |some p=>
     obtain⟨v,R1,W1⟩:=p;rw[hpan]at h;simp only at h;cases hd:(!draw || Ts ops r.Qs r.T)with
     |false=>rw[hd]at h;cases h
     |true=>
      rw[hd]at h;simp only[cond_true]at h;have hL:Qz r.L:=by
       exact SV b k _ _ _ _ _ _ _ s h ha
      obtain⟨h1,h2,WA⟩:=PZ hF hJ (len:=c.tmps.len) ops.toList c.tmps H n sc q L r rfl hu hr hL;unfold RegOk at WA;rw[hpan]at WA;have PH:GoJ P B c H n {c with tmps:=r.T,mode:=.ZB v} r.H r.n (Yn r.Qs++R1) (Uh r.Qs++W1):=by
       cases draw with
       |true=>
        obtain⟨H1,n1,o,l2,x1,x2,x3,x4,x5,_⟩:=WA;exact jg XP hm ht h1 h2 ⟨H1,n1,o,l2,x1,x2,x3,x4,x5⟩ (by simpa using hd)
       |false=>exact oC hm ht h1 h2 WA
      obtain⟨_,_,_,_,_,_,_,_,_,h5⟩:=WA;obtain⟨R,W,k1,k2⟩:=Wa hF hJ XP k b _ _ _ _ _ _ _ s h5 h ha;refine⟨_,_,PH.srj k1,fun i hi=> ?_⟩;rw[k2 i hi,Zl hi,LZ (s:=Uh r.Qs++W1),or_assoc]
   ·cases h
  ·rename_i f params assign body todo hm ht;split at h
   ·rename_i keys out UN n1 W1 sc' htold;split at h
    ·rename_i c' H' p hi;have hL:=SV b k _ _ _ _ _ _ _ s h ha;obtain⟨R0,PH⟩:=yo hF XP hu hm ht hi hL.1;obtain⟨R,W,h1,h2⟩:=Wa hF hJ XP k b _ _ _ _ _ _ _ s (hu.shape PH.shape) h ha;refine⟨_,_,PH.srj h1,fun i hi=> ?_⟩;rw[h2 i hi,Zl hi,LZ,or_assoc]
    ·cases h
   ·rename_i keys out UN n1 W1 sc' htold;split at h
    ·rename_i c' H' p hi;have hL:=SV b k _ _ _ _ _ _ _ s h ha;obtain⟨R0,PH⟩:=yn hF XP hu hm ht hi hL.1;obtain⟨R,W,h1,h2⟩:=Wa hF hJ XP k b _ _ _ _ _ _ _ s (hu.shape PH.shape) h ha;refine⟨_,_,PH.srj h1,fun i hi=> ?_⟩;rw[h2 i hi,Zl hi,LZ,or_assoc]
    ·cases h
   ·cases h
  ·exact plain h
end
end Go.CE

namespace Go.CE
open Go Go.RowKit

def J7(H:Qm)(n:Nat):List Nat:=(Le n).filter fun r=>Xu (Qq H r)
theorem pM{H:Qm}{n r:Nat}:r∈J7 H n<->r<n/\Xu (Qq H r)=true:=by simp[J7]
noncomputable def jM(n n1:Nat)(ρ:Nat->Nat)(μ μ':Mu)(fm:Nat->Option Obj):Mu:=fun i=>if i=n then some ⟨0,0,0,false,fm⟩else if n<i/\i<n1 then μ' (ρ i)else μ i
structure AN (n n' n1:Nat) (W:List Nat) (μ μ':Mu) (H H' H1:Qm) (w':World) (ρ:Nat->Nat) (fk:List Nat):Prop where
 le:n<n1
 id:∀i,i<n->ρ i=i
 rng:∀i,n<i->i<n1->n<=ρ i/\ρ i<n'
 inj:∀i j,n<i->i<n1->n<j->j<n1->ρ i=ρ j->i=j
 under:Under H1 n1
 XO:∀i,i<n->i ∉ W->Qq H1 i=Qq H i
 Jv:Qq H1 n=some QV
 obj:∀i o1,i<n1->(n<i\/i∈W/\i<n)->Qq H1 i=some o1->¬Wm o1/\(live o1->∃o,Qq H' (ρ i)=some o/\live o/\∀im,μ' (ρ i)=some im->OR μ' w' im o->OR (jM n n1 ρ μ μ' (Yo μ' H' w' (J7 H' n'++fk))) w' im o1)
 fz:∀k∈fk,n<=k/\k<n'/\(∃o,Qq H' k=some o/\live o)/\∀i,n<i->i<n1->ρ i≠k
theorem Post.merge{B n n' n1:Nat}{W:List Nat}{μ μ':Mu}{H H' H1:Qm}{w w':World}{ρ:Nat->Nat}{fk:List Nat}(Q7:Ok B (fun i=>i<n) μ (Qq H) w)(hf:∀i,n<=i->μ i=none)(hp:Post B (fun i=>i<n) n n' W μ μ' H H' w w')(k:AN n n' n1 W μ μ' H H' H1 w' ρ fk):
 Post B (fun i=>i<n) n n1 W μ (jM n n1 ρ μ μ' (Yo μ' H' w' (J7 H' n'++fk))) H H1 w w':=by
 have le1:=k.le;have hlow:∀i,i<n->jM n n1 ρ μ μ' (Yo μ' H' w' (J7 H' n'++fk)) i=μ i:=fun i hi=>by unfold jM;rw[if_neg (by omega),if_neg (by omega)]
 have hhigh:∀i,n<i->i<n1->jM n n1 ρ μ μ' (Yo μ' H' w' (J7 H' n'++fk)) i=μ' (ρ i):=fun i h1 h2=>by unfold jM;rw[if_neg (by omega),if_pos ⟨h1,h2⟩]
 have hmid:jM n n1 ρ μ μ' (Yo μ' H' w' (J7 H' n'++fk)) n=some ⟨0,0,0,false,Yo μ' H' w' (J7 H' n'++fk)⟩:=by unfold jM;rw[if_pos rfl]
 have hext:Ext μ (jM n n1 ρ μ μ' (Yo μ' H' w' (J7 H' n'++fk))):=by
  intro i im QD;rcases LF i n with h|h
  ·rw[hlow i h];exact QD
  ·rw[hf i h]at QD;cases QD
 generalize hM:jM n n1 ρ μ μ' (Yo μ' H' w' (J7 H' n'++fk))=μ1 at *;have obj:=k.obj;rw[hM]at obj
 -- an object of the new heap: an XO one Pd was left, the region, or one of the run
 have other:∀i o im,i<n->i ∉ W->Qq H i=some o->live o->μ i=some im->w'.heap[im.Zq]? =w.heap[im.Zq]? :=by
  intro i o im hi hw ho hl QD;refine hp.frame _ (Q7.low i o im hi ho hl QD).1 fun q hq hqn Z4 QO hb=> ?_
  obtain⟨_,⟨oq,hoq,hlq⟩,im2,Wz,hr⟩:=hp.wr q hq hqn;rw[QO]at Wz;cases Wz;by_cases hra:im.rw=true
  ·exact Q7.inj q i oq o Z4 im hqn hi (fun e=>hw (e ▸ hq)) hoq ho hlq hl QO QD hr hra hb
  ·have a:=(Q7.low i o im hi ho hl QD).2.2 (by simpa using hra);have b:=(Q7.low q oq Z4 hqn hoq hlq QO).2.1 hr;omega
 have hS':∀i,i<n1->i≠n->(ρ i<n\/n<=ρ i/\ρ i<n'):=by
  intro i hi Kz;rcases LF i n with h|h
  ·exact .inl (by rw[k.id i h];exact h)
  ·exact .inr (k.rng i (by omega) hi)
 have hmuR:∀i,i<n1->i≠n->μ1 i=μ' (ρ i):=by
  intro i hi Kz;rcases LF i n with h|h
  ·rw[hlow i h,k.id i h,hp.ext i (by omega)]
  ·exact hhigh i (by omega) hi
 have Uc:∀i,(i<n\/n<=i/\i<n1)->i<n1:=fun i hi=>hi.elim (fun e=>by omega) (fun e=>e.2)
 have liveH':∀i o1,i<n1->Qq H1 i=some o1->live o1->i≠n/\∃o,Qq H' (ρ i)=some o/\live o:=by
  intro i o1 hi ho hl;have Kz:i≠n:=fun e=>by rw[e,k.Jv]at ho;cases ho;exact hl.elim
  refine⟨Kz, ?_⟩;by_cases h:n<i\/i∈W/\i<n
  ·obtain⟨o,h1,h2,_⟩:=(obj i o1 hi h ho).2 hl;exact⟨o,h1,h2⟩
  ·have h1:i<n:=by omega
   have h2:i ∉ W:=fun e=>h (.inr ⟨e,h1⟩)
   rw[k.XO i h1 h2]at ho;exact⟨o1,by rw[k.id i h1,hp.keep i h1 h2];exact ho,hl⟩
 have hinj:∀i j,i<n1->j<n1->i≠n->j≠n->ρ i=ρ j->i=j:=by
  intro i j hi hj J4 hjn e;rcases LF i n with h|h <;> rcases LF j n with h'|h'
  ·rw[k.id i h,k.id j h']at e;exact e
  ·have:=k.rng j (by omega) hj;rw[k.id i h]at e;omega
  ·have:=k.rng i (by omega) hi;rw[k.id j h']at e;omega
  ·exact k.inj i j (by omega) hi (by omega) hj e
 have regH1:∀i o,i<n1->Qq H1 i=some o->Wm o->i=n\/(i<n/\i ∉ W/\Qq H i=some o/\Qq H' i=some o):=by
  intro i o hi ho hr;by_cases Kz:i=n
  ·exact .inl Kz
  ·by_cases h:n<i\/i∈W/\i<n
   ·exact absurd hr (obj i o hi h ho).1
   ·have h1:i<n:=by omega
    have h2:i ∉ W:=fun e=>h (.inr ⟨e,h1⟩)
    rw[k.XO i h1 h2]at ho;exact .inr ⟨h1,h2,ho,by rw[hp.keep i h1 h2];exact ho⟩
 have deadW:∀q,q∈W->q<n->(∀o,Qq H' q=some o->¬live o)->∀o,Qq H1 q=some o->¬live o:=by
  intro q hq hqn hd o ho hl;obtain⟨_,o',h5,h6⟩:=liveH' q o (by omega) ho hl;rw[k.id q hqn]at h5;exact hd o' h5 h6
 -- what stands in the region
 have fmCase:∀b x,Yo μ' H' w' (J7 H' n'++fk) b=some x->w'.heap[b]? =some x/\((∃r o im,r<n'/\Qq H' r=some o/\Wm o/\μ' r=some im/\im.fm b=some x)\/∃q o im,q∈fk/\Qq H' q=some o/\live o/\μ' q=some im/\im.Zq=b):=by
  intro b x h;have hw:=WL h;refine⟨hw, ?_⟩;unfold Yo at h;split at h
  ·rename_i hc;obtain⟨i,hi,o,im,ho,QD,UP⟩:=hc;rcases List.mem_append.1 hi with hi|hi
   ·obtain⟨Xi,WG⟩:=pM.1 hi;obtain⟨o',Ko,hr'⟩:=ZE WG;rw[ho]at Ko;cases Ko;rcases UP with ⟨_,Kz⟩|⟨hl,_⟩
    ·cases hx:im.fm b with
     |none=>exact absurd hx Kz
     |some y=>
      obtain⟨Z4,QO,hf'⟩:=hp.ok.Jv i o (by rcases LF i n with h|h;exact .inl h;exact .inr ⟨h,Xi⟩) ho hr'
      rw[QD]at QO;cases QO;have:=hf' b y hx;rw[hw]at this;cases this;exact .inl ⟨i,o,im,Xi,ho,hr',QD,hx⟩
    ·exact absurd hl (by cases o <;> first|exact id|exact hr'.elim)
   ·obtain⟨h1,h2,⟨o',Ko,hl'⟩,_⟩:=k.fz i hi;rw[ho]at Ko;cases Ko;rcases UP with ⟨hr,_⟩|⟨hl,hb⟩
    ·exact absurd hl' (by cases o <;> first|exact id|exact hr.elim)
    ·exact .inr ⟨i,o,im,hi,ho,hl,QD,hb⟩
  ·cases h
 have hin':∀r,r<n'->(r<n\/n<=r/\r<n'):=fun r h=>by omega
 refine⟨⟨fun i o hi ho hl=> ?_,fun i o im hi ho hl QD=> ?_,fun i j oi oj a b hi hj Rm ZZ ZY T5 Uj ha hb hra WG=> ?_,fun i o hi ho hr=> ?_,fun i j oi oj a b x hi hj ZZ ZY J3 Uj ha hb WG hx=> ?_⟩,by omega,fun i hi=> ?_,fun i hi hw=>k.XO i hi hw,hp.grow,hp.frame,hp.wr,fun i im o h1 h2 ho hl QD=> ?_,fun i im o hi ho hr QD b x hx=> ?_,hp.os,hp.tape,hp.output⟩
 ·have hi1:=Uc i hi;have Kz:=(liveH' i o hi1 ho hl).1;by_cases h:n<i\/i∈W/\i<n
  ·obtain⟨o',h1,h2,h4⟩:=(obj i o hi1 h ho).2 hl;obtain⟨im,QD,ZQ⟩:=hp.ok.rel (ρ i) o' (hS' i hi1 Kz) h1 h2;exact⟨im,by rw[hmuR i hi1 Kz];exact QD,h4 im QD ZQ⟩
  ·have h1:i<n:=by omega
   have h2:i ∉ W:=fun e=>h (.inr ⟨e,h1⟩)
   rw[k.XO i h1 h2]at ho;obtain⟨im,QD,ZQ⟩:=Q7.rel i o h1 ho hl;exact⟨im,hext _ _ QD,ZQ.keep hext (other i o im h1 h2 ho hl QD)⟩
 ·have hi1:=Uc i hi;obtain⟨Kz,o',h1,h2⟩:=liveH' i o hi1 ho hl;rw[hmuR i hi1 Kz]at QD;exact hp.ok.low (ρ i) o' im (hS' i hi1 Kz) h1 h2 QD
 ·have hi1:=Uc i hi;have hj1:=Uc j hj;obtain⟨hni,o1,h1,h2⟩:=liveH' i oi hi1 ZZ T5;obtain⟨hnj,o2,h3,h4⟩:=liveH' j oj hj1 ZY Uj;rw[hmuR i hi1 hni]at ha;rw[hmuR j hj1 hnj]at hb;exact hp.ok.inj (ρ i) (ρ j) o1 o2 a b (hS' i hi1 hni) (hS' j hj1 hnj) (fun e=>Rm (hinj i j hi1 hj1 hni hnj e)) h1 h3 h2 h4 ha hb hra WG
 ·rcases regH1 i o (Uc i hi) ho hr with J4|⟨h1,h2,h3,h4⟩
  ·rw[J4];exact⟨_,hmid,fun b x h=>WL h⟩
  ·obtain⟨im,QD,hf'⟩:=hp.ok.Jv i o (.inl h1) h4 hr;rw[hp.ext i (by omega)]at QD;exact⟨im,hext _ _ QD,hf'⟩
 ·have hj1:=Uc j hj;obtain⟨hnj,o2,h3,h4⟩:=liveH' j oj hj1 ZY Uj;rw[hmuR j hj1 hnj]at hb;rcases regH1 i oi (Uc i hi) ZZ J3 with J4|⟨h1,h2,h5,h6⟩
  ·rw[J4,hmid]at ha;cases ha;obtain⟨_,UP⟩:=fmCase _ _ hx;rcases UP with ⟨r,o,im,Xi,ho,hr,QD,hfx⟩|⟨q,o,im,hq,ho,hl,QD,hbb⟩
   ·exact hp.ok.sep r (ρ j) o o2 im b x (hin' r Xi) (hS' j hj1 hnj) ho h3 hr h4 QD hb WG hfx
   ·obtain⟨q1,q2,_,q3⟩:=k.fz q hq;have Kz:q≠ρ j:=by
     intro e;rcases LF j n with h|h
     ·rw[k.id j h]at e;omega
     ·exact q3 j (by omega) hj1 e.symm
    have Rl:=(hp.fresh q im o q1 q2 ho hl QD).1;exact hp.ok.inj q (ρ j) o o2 im b (hin' q q2) (hS' j hj1 hnj) Kz ho h3 hl h4 QD hb Rl WG hbb
  ·rw[hlow i h1]at ha;exact hp.ok.sep i (ρ j) oi o2 a b x (.inl h1) (hS' j hj1 hnj) h6 h3 J3 h4 (by rw[hp.ext i (by omega)];exact ha) hb WG hx
 ·rw[<-hM];unfold jM;rw[if_neg (by omega),if_neg (by omega)]
 ·obtain⟨Kz,o',h3,h4⟩:=liveH' i o h2 ho hl;rw[hmuR i h2 Kz]at QD;obtain⟨a,b⟩:=k.rng i (by omega) h2;obtain⟨hr,X8⟩:=hp.fresh (ρ i) im o' a b h3 h4 QD;exact⟨hr,X8.imp id fun⟨q,hq,hqn,hb,hd⟩=>⟨q,hq,hqn,hb,deadW q hq hqn hd⟩⟩
 ·have hi1:i<n1:=by omega
  rcases regH1 i o hi1 ho hr with J4|⟨h1,h2,_⟩
  ·rw[J4,hmid]at QD;cases QD;obtain⟨_,UP⟩:=fmCase _ _ hx;rcases UP with ⟨r,o,im,Xi,ho,hr,QD,hfx⟩|⟨q,o,im,hq,ho,hl,QD,hbb⟩
   ·by_cases hx:n<=r/\r<n'\/r∈W/\r<n
    ·rcases hp.rf r im o hx ho hr QD b x hfx with c|c|⟨q,hq,hqn,hb,hd⟩
     ·exact .inl c
     ·exact .inr (.inl c)
     ·exact .inr (.inr ⟨q,hq,hqn,hb,deadW q hq hqn hd⟩)
    ·have h:r<n:=by omega
     rw[hp.keep r h fun e=>hx (.inr ⟨e,h⟩)]at ho;rw[hp.ext r (by omega)]at QD;exact .inr (.inl ⟨r,im,o,h,h,ho,hr,QD,hfx⟩)
   ·obtain⟨q1,q2,_,_⟩:=k.fz q hq;rcases(hp.fresh q im o q1 q2 ho hl QD).2 with c|⟨q',hq',hqn,⟨Z4,QO,hb'⟩,hd⟩
    ·exact .inl (by omega)
    ·exact .inr (.inr ⟨q',hq',hqn,⟨Z4,QO,by omega⟩,deadW q' hq' hqn hd⟩)
  ·rcases hi with hi|hi
   ·omega
   ·exact absurd hi.1 h2
end Go.CE

namespace Go.CE
open Go Go.RowKit

section
variable (H:Qm) (m:Nat) (pos:Nat->Option Nat) (fz:List Fz)
def coS(v:Value):Option (Value×List Prop):=bif simple v then some (v,[])else match v with
 | .func (.via r ⟨[]⟩ 0 true) ⟨[t]⟩ ⟨[]⟩=>bif Xu (Qq H r) && WE t then some (Qk ((pos r).getD m) t,[])else none
 | .pointer (some ⟨k,o,none⟩)=>match pos k with
   |some j=>some (.pointer (some ⟨j,o,none⟩),[])
   |none=>match ji fz k,Qq H k with
    |some x,some (.cells cs _ (0,0))=>bif x.rs.all fun r=>Xu (Qq H r)then some (Qk m (ZU o x.cs),[X1 x.rs cs x.cs])else none
    |_,_=>some (.chan none,[])
 | .slice (some ⟨k,o,none⟩) n z=>match pos k with
   |some j=>some (.slice (some ⟨j,o,none⟩) n z,[])
   |none=>match o,ji fz k,Qq H k with
    |0,some x,some (.cells cs _ (0,0))=>bif x.rs.all fun r=>Xu (Qq H r)then some (Qk m (Xo n x.cs),[X1 x.rs cs x.cs])else none
    |_,_,_=>some (.chan none,[])
 | .map (some r)=>match pos r with
   |some j=>some (.map (some j),[])
   |none=>some (.chan none,[])
 | .func (.yield l) ⟨[]⟩ ⟨[]⟩=>match pos l with
   |some j=>some (.func (.yield j) #[] #[],[])
   |none=>some (.chan none,[])
 | .chan none=>some (.chan none,[])
 |_=>none
def rj(f:Value->Option (Value×List Prop)):List Value->Option (List Value×List Prop)
 |[]=>some ([],[])
 |v::l=>match f v with
  |some (t,L)=>match rj f l with
   |some (ts,L2)=>some (t::ts,L++L2)
   |none=>none
  |none=>none
def tC:Nat->Value->Option (Value×List Prop)
 |0,v=>coS H m pos fz v
 |f+1,v=>match v with
  | .agg xs=>match rj (tC f) xs.toList with
    |some (l,L)=>some (.agg l.toArray,L)
    |none=>none
  | .tuple xs=>match rj (tC f) xs.toList with
    |some (l,L)=>some (.tuple l.toArray,L)
    |none=>none
  | .iface t x=>match tC f x with
    |some (x,L)=>some (.iface t x,L)
    |none=>none
  | .func (.func g) xs ys=>match rj (tC f) xs.toList with
    |some (l,L)=>match rj (tC f) ys.toList with
     |some (k,L2)=>some (.func (.func g) l.toArray k.toArray,L++L2)
     |none=>none
    |none=>none
  |v=>coS H m pos fz v
def Qce(rs:List Nat)(v v1:Value):Prop:=(simple v=true/\v1=v)\/∃r∈rs,∃t,v=Qk r t/\v1=Qk m t/\WE t=true
def QE(rs:List Nat)(cs cs1:Array Value):Prop:=cs.size=cs1.size/\∀(i:Nat) v v1,cs[i]? =some v->cs1[i]? =some v1->Qce m rs v v1
end
theorem RB{m:Nat}{rs:List Nat}{cs:Array Value}(h:∀v∈cs,simple v=true):QE m rs cs cs:=⟨rfl,fun i v v1 h1 h2=>by
 rw[h1]at h2;cases h2;exact .inl ⟨h v (LJ h1),rfl⟩⟩
inductive ju (m:Nat) (rs:List (Nat×Nat)) (Pb:List (Nat×Array Value)) (ow:List (Nat×Nat)):Value->Value->Prop
 |simple {v}:CE.simple v=true->ju m rs Pb ow v v
 |Jv {r j t}:(r,j)∈rs->WE t=true->ju m rs Pb ow (Qk r t) (Qk j t)
 |own {k cs n c}:(k,cs)∈Pb->ju m rs Pb ow (.slice (some ⟨k,0,none⟩) n c) (Qk m (Xo n cs))
 |nil:ju m rs Pb ow (.slice none 0 0) (Qk m (Xo 0 #[]))
 |keep {k j n c}:(k,j)∈ow->ju m rs Pb ow (.slice (some ⟨k,0,none⟩) n c) (.slice (some ⟨j,0,none⟩) n c)
def AllX(m:Nat)(rs:List (Nat×Nat))(Pb:List (Nat×Array Value))(ow:List (Nat×Nat)):List Value->List Value->Prop
 |[],[]=>True
 |v::l,u::k=>ju m rs Pb ow v u/\AllX m rs Pb ow l k
 |_,_=>False
def QX(m:Nat)(rs:List (Nat×Nat))(Pb:List (Nat×Array Value))(ow:List (Nat×Nat))(cs cs1:Array Value):Prop:=AllX m rs Pb ow cs.toList cs1.toList
theorem AllX.get{m:Nat}{rs:List (Nat×Nat)}{Pb:List (Nat×Array Value)}{ow:List (Nat×Nat)}:∀{l k:List Value},AllX m rs Pb ow l k->k.length=l.length/\∀(i:Nat) v u,l[i]? =some v->k[i]? =some u->ju m rs Pb ow v u
 |[],[],_=>⟨rfl,fun i v u h=>by simp at h⟩
 |v::l,u::k,h=>by
  obtain⟨a,b⟩:=AllX.get h.2;refine⟨by simp[a],fun i x y hx hy=> ?_⟩;cases i with
  |zero=>
   simp only[Lq,YO]at hx hy;subst hx hy;exact h.1
  |succ i=>exact b i x y (by simpa using hx) (by simpa using hy)
 |[],_::_,h=>h.elim
 |_::_,[],h=>h.elim
theorem AllX.append{m:Nat}{rs:List (Nat×Nat)}{Pb:List (Nat×Array Value)}{ow:List (Nat×Nat)}:∀{l k l2 k2:List Value},AllX m rs Pb ow l k->AllX m rs Pb ow l2 k2->AllX m rs Pb ow (l++l2) (k++k2)
 |[],[],_,_,_,h2=>h2
 |_::_,_::_,_,_,h,h2=>⟨h.1,AllX.append h.2 h2⟩
 |[],_::_,_,_,h,_=>h.elim
 |_::_,[],_,_,h,_=>h.elim
section
variable {B:Nat} {S:Nat->Prop} {H:Qm} {m:Nat} {pos:Nat->Option Nat} {fz:List Fz} {μ μ1:Mu} {w:World} {n':Nat} {fk:List Nat} {im1:c7}
structure yM (H:Qm) (m:Nat) (pos:Nat->Option Nat) (fz:List Fz) (μ μ1:Mu) (w:World) (n':Nat) (fk:List Nat) (im1:c7):Prop where
 ok:∃B S,Ok B S μ (Qq H) w/\∀i,i<n'->S i
 under:Under H n'
 here:∀k j,pos k=some j->μ1 j=μ k
 Jv:μ1 m=some im1
 fm:im1.fm=Yo μ H w (J7 H n'++fk)
 sub:∀x∈fz,x.k∈fk
theorem ib:∀(l:List Fz) (k:Nat) (x:Fz),ji l k=some x->x∈l/\x.k=k
 |[],k,x,h=>by cases h
 |y::l,k,x,h=>by
  simp only[ji]at h;cases e:Lf y.k k with
  |true=>
   rw[e]at h;simp only[cond_true,YO]at h;subst h;exact⟨by simp,YE e⟩
  |false=>
   rw[e]at h;obtain⟨h1,h2⟩:=ib l k x h;exact⟨Lj _ h1,h2⟩
theorem Eb(hu:Under H n'){r:Nat}(h:Xu (Qq H r)=true):r<n':=by
 obtain⟨o,ho,_⟩:=ZE h;exact hu.lt ho
theorem g9(c:yM H m pos fz μ μ1 w n' fk im1){r:Nat}(hr:Xu (Qq H r)=true){im:c7}(QD:μ r=some im){b:Nat}{x:Obj}(hx:im.fm b=some x):im1.fm b=some x:=by
 obtain⟨B,S,Q7,hS⟩:=c.ok;rw[c.fm];have Xi:=Eb c.under hr;exact kg Q7 (Lg _ (pM.2 ⟨Xi,hr⟩)) (hS r Xi) hr QD hx
theorem jk(c:yM H m pos fz μ μ1 w n' fk im1){rs:List Nat}(WA:(rs.all fun r=>Xu (Qq H r))=true){v v1 v':Value}(h:pj rs v v1)(hv:VR μ v v'):TRv im1.fm v1 v':=by
 rcases h with ⟨h1,rfl⟩|⟨r,hr,rfl,_⟩
 ·rw[simple_eq h1 hv];exact .simple h1
 ·obtain⟨im,QD,ht⟩:=hv.top_inv;exact ht.mono fun b x hx=>g9 c (List.all_eq_true.1 WA r hr) QD hx
theorem SG(c:yM H m pos fz μ μ1 w n' fk im1){v v' t:Value}{L:List Prop}(h:coS H m pos fz v=some (t,L))(hL:Qz L)(hv:VR μ v v'):VR μ1 t v':=by
 obtain⟨B,S,Q7,hS⟩:=c.ok;have addr:∀{k j o:Nat} {a':Addr},pos k=some j->AR μ ⟨k,o,none⟩ a'->AR μ1 ⟨j,o,none⟩ a':=by
  rintro k j o a' hp ⟨im,h1,h2,h3⟩;exact⟨im,by rw[c.here k j hp];exact h1,rfl,h3⟩
 unfold coS at h;cases hs:simple v with
 |true=>
  rw[hs]at h;simp only[cond_true,YO,YR]at h;obtain⟨rfl,rfl⟩:=h;rw[simple_eq hs hv];exact ZR hs
 |false=>
  rw[hs]at h;simp only[cond_false]at h;split at h
  ·rename_i r t0;cases hg:(Xu (Qq H r) && WE t0)with
   |false=>rw[hg]at h;cases h
   |true=>
    rw[hg]at h;simp only[cond_true,YO,YR]at h;obtain⟨rfl,rfl⟩:=h;simp only[YB]at hg;obtain⟨im,QD,ht⟩:=VR.top_inv (r:=r) (t:=t0) hv;cases hp:pos r with
    |none=>exact .top hg.2 c.Jv (ht.mono fun b x hx=>g9 c hg.1 QD hx)
    |some j=>exact .top hg.2 (by rw[Option.getD_some,c.here r j hp];exact QD) ht
  ·rename_i k o;split at h
   ·rename_i j hj;simp only[YO,YR]at h;obtain⟨rfl,rfl⟩:=h;cases hv with
    |ptr har=>exact .ptr (addr hj har)
   ·split at h
    ·rename_i x cs ty hx hg;cases hr:(x.rs.all fun r=>Xu (Qq H r))with
     |false=>rw[hr]at h;cases h
     |true=>
      rw[hr]at h;simp only[cond_true,YO,YR]at h;obtain⟨rfl,rfl⟩:=h;obtain⟨⟨h2,h3⟩,_⟩:=hL;obtain⟨hxm,hxk⟩:=ib _ _ _ hx;have hkf:k∈fk:=hxk ▸ c.sub x hxm;obtain⟨im,arr,QD,_,hoff,harr,hle,_,hcells⟩:=ca Q7 (hS k (c.under.lt hg)) hg;cases hv with
      |ptr har=>
       obtain⟨im2,Wz,_,rfl⟩:=har;rw[QD]at Wz;cases Wz;rw[hoff];refine .top rfl c.Jv (TRv.ptr (o:=0) (by rw[c.fm];exact(kh (Lt _ hkf) hg trivial QD).trans harr) (fun i hi=>by omega) fun i v v' hv ZW=> ?_);simp only[Lv]at ZW;have hi:i<cs.size:=by rw[h2];exact(Array.getElem?_eq_some_iff.1 hv).1
       obtain⟨u,Tz,hu2⟩:=hcells i cs[i] (by simp[hi]);rw[ZW]at Tz;cases Tz;exact jk c hr (h3 i _ _ (by simp[hi]) hv) hu2
    ·simp only[YO,YR]at h;obtain⟨rfl,rfl⟩:=h;cases hv;exact .Yi (fun b e=>by cases e) rfl rfl
  ·rename_i k o n z;split at h
   ·rename_i j hj;simp only[YO,YR]at h;obtain⟨rfl,rfl⟩:=h;cases hv with
    |slice har a b d=>
     refine .slice (addr hj har) a b fun hz im QD Rl hoff=>d hz im ?_ Rl hoff
     rw[<-c.here k j hj];exact QD
   ·split at h
    ·rename_i x cs ty hx hg;cases hr:(x.rs.all fun r=>Xu (Qq H r))with
     |false=>rw[hr]at h;cases h
     |true=>
      rw[hr]at h;simp only[cond_true,YO,YR]at h;obtain⟨rfl,rfl⟩:=h;obtain⟨⟨h2,h3⟩,_⟩:=hL;obtain⟨hxm,hxk⟩:=ib _ _ _ hx;have hkf:k∈fk:=hxk ▸ c.sub x hxm;obtain⟨im,arr,QD,_,hoff,harr,hle,_,hcells⟩:=ca Q7 (hS k (c.under.lt hg)) hg;cases hv with
      |slice har a b _=>
       obtain⟨im2,Wz,_,rfl⟩:=har;rw[QD]at Wz;cases Wz;rw[hoff];refine .top rfl c.Jv (TRv.slice (o:=0) a b (by rw[c.fm];exact(kh (Lt _ hkf) hg trivial QD).trans harr) (fun i hi=>by omega) fun i v v' hv ZW=> ?_);simp only[Lv]at ZW;have hi:i<cs.size:=by rw[h2];exact(Array.getElem?_eq_some_iff.1 hv).1
       obtain⟨u,Tz,hu2⟩:=hcells i cs[i] (by simp[hi]);rw[ZW]at Tz;cases Tz;exact jk c hr (h3 i _ _ (by simp[hi]) hv) hu2
    ·simp only[YO,YR]at h;obtain⟨rfl,rfl⟩:=h;cases hv;exact .Yi (fun b e=>by cases e) rfl rfl
  ·rename_i r;split at h
   ·rename_i j hj;simp only[YO,YR]at h;obtain⟨rfl,rfl⟩:=h;cases hv with
    |map hr=>exact .map (by rw[c.here r j hj];exact hr)
   ·simp only[YO,YR]at h;obtain⟨rfl,rfl⟩:=h;cases hv;exact .Yi (fun b e=>by cases e) rfl rfl
  ·rename_i l;split at h
   ·rename_i j hj;simp only[YO,YR]at h;obtain⟨rfl,rfl⟩:=h;cases hv with
    |yield hl=>exact .yield (by rw[c.here l j hj];exact hl)
   ·simp only[YO,YR]at h;obtain⟨rfl,rfl⟩:=h;cases hv;exact .Yi (fun b e=>by cases e) rfl rfl
  ·simp only[YO,YR]at h;obtain⟨rfl,rfl⟩:=h;cases hv with
   |Yi a b c=>exact .Yi a b c
  ·cases h
theorem il{f:Value->Option (Value×List Prop)}(hf:∀v v' t L,f v=some (t,L)->Qz L->VR μ v v'->VR μ1 t v'):∀(l ts:List Value) (L:List Prop) (l':List Value),rj f l=some (ts,L)->Qz L->l.length=l'.length->(∀(i:Nat) v v',l[i]? =some v->l'[i]? =some v'->VR μ v v')->
 ts.length=l'.length/\∀(i:Nat) v v',ts[i]? =some v->l'[i]? =some v'->VR μ1 v v'
 |[],ts,L,l',h,hL,hl,hv=>by
  simp only[rj,YO,YR]at h;obtain⟨rfl,rfl⟩:=h;exact⟨hl,fun i v v' h=>by simp at h⟩
 |v::l,ts,L,[],h,hL,hl,hv=>by simp at hl
 |v::l,ts,L,v'::l',h,hL,hl,hv=>by
  simp only[rj]at h;split at h
  ·rename_i t L1 h1;split at h
   ·rename_i ts2 L2 h2;simp only[YO,YR]at h;obtain⟨rfl,rfl⟩:=h;obtain⟨a,b⟩:=Xb hL;have k1:=hf v v' t L1 h1 a (hv 0 v v' rfl rfl);obtain⟨k2,k3⟩:=il hf l ts2 L2 l' h2 b (by simpa using hl) fun i u u' x y=>hv (i+1) u u' (by simpa using x) (by simpa using y)
    refine⟨by simp[k2],fun i u u' x y=> ?_⟩;cases i with
    |zero=>
     simp only[Lq,YO]at x y;subst x y;exact k1
    |succ i=>exact k3 i u u' (by simpa using x) (by simpa using y)
   ·cases h
  ·cases h
theorem VX(c:yM H m pos fz μ μ1 w n' fk im1):∀(f:Nat) (v v' t:Value) (L:List Prop),tC H m pos fz f v=some (t,L)->Qz L->VR μ v v'->VR μ1 t v'
 |0,v,v',t,L,h,hL,hv=>SG c h hL hv
 |f+1,v,v',t,L,h,hL,hv=>by
  have arr:∀{xs xs':Array Value} {l:List Value} {L:List Prop},rj (tC H m pos fz f) xs.toList=some (l,L)->Qz L->xs.size=xs'.size->(∀(i:Nat) v v',xs[i]? =some v->xs'[i]? =some v'->VR μ v v')->l.toArray.size=xs'.size/\∀(i:Nat) v v',l.toArray[i]? =some v->xs'[i]? =some v'->VR μ1 v v':=by
   intro xs xs' l L h hL hs hx;obtain⟨a,b⟩:=il (fun v v' t L=>VX c f v v' t L) xs.toList l L xs'.toList h hL (by simpa using hs) fun i v v' x y=>hx i v v' (by simpa using x) (by simpa using y)
   exact⟨by simpa using a,fun i v v' x y=>b i v v' (by simpa using x) (by simpa using y)⟩
  cases v with
  |agg xs=>
   simp only[tC]at h;split at h
   ·rename_i l L1 hl;simp only[YO,YR]at h;obtain⟨rfl,rfl⟩:=h;cases hv with
    |agg h1 h2=>exact .agg (arr hl hL h1 h2).1 (arr hl hL h1 h2).2
   ·cases h
  |tuple xs=>
   simp only[tC]at h;split at h
   ·rename_i l L1 hl;simp only[YO,YR]at h;obtain⟨rfl,rfl⟩:=h;cases hv with
    |tuple h1 h2=>exact .tuple (arr hl hL h1 h2).1 (arr hl hL h1 h2).2
   ·cases h
  |iface ty x=>
   simp only[tC]at h;split at h
   ·rename_i l L1 hl;simp only[YO,YR]at h;obtain⟨rfl,rfl⟩:=h;cases hv with
    |iface hv=>exact .iface (VX c f _ _ _ _ hl hL hv)
   ·cases h
  |func fn xs ys=>
   cases fn with
   |func g=>
    simp only[tC]at h;split at h
    ·rename_i l L1 hl;split at h
     ·rename_i k L2 hk;simp only[YO,YR]at h;obtain⟨rfl,rfl⟩:=h;obtain⟨a,b⟩:=Xb hL;cases hv with
      |func h1 h2 h3 h4=>
       have k1:=arr hl a h1 h3;have k2:=arr hk b h2 h4;exact .func k1.1 k2.1 k1.2 k2.2
     ·cases h
    ·cases h
   |_=>exact SG (fz:=fz) c (by exact h) hL hv
  |_=>exact SG (fz:=fz) c (by exact h) hL hv
end
inductive KS where
 |auto
 |cells (rs:List Nat) (cs:Array Value)
 |same
 |dead
 |rows (rs:List (Nat×Nat)) (ks:List Nat) (ow:List (Nat×Nat)) (cs:Array Value)
def I7(pos:Nat->Option Nat)(p:Nat×Nat):Bool:=match pos p.1 with
 |some j=>Lf j p.2
 |none=>false
def Mb(H:Qm)(pos:Nat->Option Nat)(fz:List Fz):List Nat->Option (List (Nat×Array Value)×List Prop)
 |[]=>some ([],[])
 |k::l=>match pos k,ji fz k,Qq H k with
  |none,some x,some (.cells cs _ (0,0))=>bif x.rs.all fun r=>Xu (Qq H r)then match Mb H pos fz l with
   |some (Pb,L)=>some ((k,x.cs)::Pb,X1 x.rs cs x.cs::L)
   |none=>none
    else none
  |_,_,_=>none
theorem y7{H:Qm}{m:Nat}{pos:Nat->Option Nat}{fz:List Fz}:∀(ks:List Nat) (Pb:List (Nat×Array Value)) (L:List Prop),Mb H pos fz ks=some (Pb,L)->Qz L->∀k cs n c,(k,cs)∈Pb->∃L',coS H m pos fz (.slice (some ⟨k,0,none⟩) n c)=some (Qk m (Xo n cs),L')/\Qz L'
 |[],Pb,L,h,hL,k,cs,n,c,hm=>by
  simp only[Mb,YO,YR]at h;obtain⟨rfl,rfl⟩:=h;simp at hm
 |k0::l,Pb,L,h,hL,k,cs,n,c,hm=>by
  simp only[Mb]at h;split at h
  ·rename_i x cs0 t0 h1 h2 h3;cases hr:(x.rs.all fun r=>Xu (Qq H r))with
   |false=>rw[hr]at h;cases h
   |true=>
    rw[hr]at h;simp only[cond_true]at h;split at h
    ·rename_i frs2 L2 h4;simp only[YO,YR]at h;obtain⟨rfl,rfl⟩:=h;rcases List.mem_cons.1 hm with e|e
     ·simp only[YR]at e;obtain⟨rfl,rfl⟩:=e;refine⟨[X1 x.rs cs0 x.cs], ?_,hL.1,trivial⟩;unfold coS;have hs:simple (.slice (some ⟨k,0,none⟩) n c)=false:=rfl;rw[hs];simp only[cond_false,h1,h2,h3,hr,cond_true]
     ·exact y7 l frs2 L2 h4 hL.2 k cs n c e
    ·cases h
  ·cases h
def coO(H:Qm)(m:Nat)(pos:Nat->Option Nat)(fz:List Fz):Option Obj->KS->Option (Obj×List Prop)
 |some (.cells cs t fl),.auto=>match rj (tC H m pos fz 3) cs.toList with
  |some (l,L)=>some (.cells l.toArray t fl,L)
  |none=>none
 |some (.cells cs t fl),.cells rs cs1=>bif rs.all fun r=>Xu (Qq H r)then some (.cells cs1 t fl,[QE m rs cs cs1])else none
 |some (.cells cs t fl),.rows rs ks ow cs1=>bif (rs.all fun p=>Xu (Qq H p.1) && Lf ((pos p.1).getD m) p.2) && ow.all (I7 pos)then match Mb H pos fz ks with
  |some (Pb,L)=>some (.cells cs1 t fl,QX m rs Pb ow cs cs1::L)
  |none=>none
   else none
 |some (.map es PT),.same=>some (.map es PT,[QT es])
 |some (.loop r),.auto=>match rj (tC H m pos fz 3) r.tmps.toList with
  |some (l,L)=>some (.loop {r with tmps:=l.toArray},L)
  |none=>none
 |some (.deferred ds),.same=>some (.deferred ds,[])
 |some (.pending _ _),.dead=>some (.pending #[] 0,[])
 |_,_=>none
theorem SH{H:Qm}{m:Nat}{pos:Nat->Option Nat}{fz:List Fz}{μ μ1:Mu}{w:World}{n':Nat}{fk:List Nat}{im1:c7}(c:yM H m pos fz μ μ1 w n' fk im1){o:Option Obj}{s:KS}{o1:Obj}{L:List Prop}(h:coO H m pos fz o s=some (o1,L))(hL:Qz L):
 (∃x,o=some x)/\¬Wm o1/\(live o1->∃x,o=some x/\live x/\∀im,OR μ w im x->OR μ1 w im o1):=by
 have cells:∀{cs cs1:Array Value} {t:TypeId} {fl:Nat×Nat},cs1.size=cs.size->(∀(i:Nat) v v1 v',cs[i]? =some v->cs1[i]? =some v1->VR μ v v'->VR μ1 v1 v')->∀im,OR μ w im (.cells cs t fl)->OR μ1 w im (.cells cs1 t fl):=by
  intro cs cs1 t fl hs hc im ZQ;have get:∀(i:Nat) v1,cs1[i]? =some v1->∃v,cs[i]? =some v:=fun i v1 h=>by
   have:=(Array.getElem?_eq_some_iff.1 h).1;exact⟨cs[i],by simp[show i<cs.size by omega]⟩
  rcases ZQ with ⟨h1,h2,h3,arr,h4,h5,h6,h7⟩|⟨h1,h2⟩
  ·refine .inl ⟨h1,h2,h3,arr,h4,by omega,h6,fun i v1 hv1=> ?_⟩;obtain⟨v,hv⟩:=get i v1 hv1;obtain⟨v',a,b⟩:=h7 i v hv;exact⟨v',a,hc i v v1 v' hv hv1 b⟩
  ·refine .inr ⟨h1,fun i v1 hv1=> ?_⟩;obtain⟨v,hv⟩:=get i v1 hv1;obtain⟨v',a,b⟩:=h2 i v hv;exact⟨v',a,hc i v v1 v' hv hv1 b⟩
 unfold coO at h;split at h
 ·rename_i cs t fl;split at h
  ·rename_i l L1 hl;simp only[YO,YR]at h;obtain⟨rfl,rfl⟩:=h;have key:∀(l ts:List Value) (L:List Prop),rj (tC H m pos fz 3) l=some (ts,L)->Qz L->ts.length=l.length/\∀(i:Nat) v v1 v',l[i]? =some v->ts[i]? =some v1->VR μ v v'->VR μ1 v1 v':=by
    intro l;induction l with
    |nil=>
     intro ts L h hL;simp only[rj,YO,YR]at h;obtain⟨rfl,rfl⟩:=h;exact⟨rfl,fun i v v1 v' h=>by simp at h⟩
    |cons v l ih=>
     intro ts L h hL;simp only[rj]at h;split at h
     ·rename_i t L1 h1;split at h
      ·rename_i ts2 L2 h2;simp only[YO,YR]at h;obtain⟨rfl,rfl⟩:=h;obtain⟨a,b⟩:=Xb hL;obtain⟨k1,k2⟩:=ih ts2 L2 h2 b;refine⟨by simp[k1],fun i u u1 u' x y hr=> ?_⟩;cases i with
       |zero=>
        simp only[Lq,YO]at x y;subst x y;exact VX c 3 _ _ _ _ h1 a hr
       |succ i=>exact k2 i u u1 u' (by simpa using x) (by simpa using y) hr
      ·cases h
     ·cases h
   obtain⟨k1,k2⟩:=key _ _ _ hl hL;refine⟨⟨_,rfl⟩,id,fun _=> ?_⟩;exact⟨_,rfl,trivial,cells (by simpa using k1) fun i v v1 v' x y=>k2 i v v1 v' (by simpa using x) (by simpa using y)⟩
  ·cases h
 ·rename_i cs t fl rs cs1;cases hr:(rs.all fun r=>Xu (Qq H r))with
  |false=>rw[hr]at h;cases h
  |true=>
   rw[hr]at h;simp only[cond_true,YO,YR]at h;obtain⟨rfl,rfl⟩:=h;obtain⟨⟨h1,h2⟩,_⟩:=hL;refine⟨⟨_,rfl⟩,id,fun _=> ?_⟩;refine⟨_,rfl,trivial,cells h1.symm fun i v v1 v' x y hv=> ?_⟩;rcases h2 i v v1 x y with ⟨hs,rfl⟩|⟨r,hrm,t,rfl,rfl,ht⟩
   ·rw[simple_eq hs hv];exact ZR hs
   ·obtain⟨im,QD,htr⟩:=hv.top_inv;exact .top ht c.Jv (htr.mono fun b x hx=>g9 c (List.all_eq_true.1 hr r hrm) QD hx)
 ·rename_i cs t fl rs ks ow cs1;cases hr0:((rs.all fun p=>Xu (Qq H p.1) && Lf ((pos p.1).getD m) p.2) && ow.all (I7 pos))with
  |false=>rw[hr0]at h;cases h
  |true=>
   rw[hr0]at h;simp only[cond_true]at h;simp only[YB]at hr0;obtain⟨hr,how⟩:=hr0;split at h
   ·rename_i Pb L2 hks;simp only[YO,YR]at h;obtain⟨rfl,rfl⟩:=h;obtain⟨hx,hL2⟩:=hL;obtain⟨h1,h2⟩:=AllX.get hx;refine⟨⟨_,rfl⟩,id,fun _=> ?_⟩;refine⟨_,rfl,trivial,cells (by simpa using h1) fun i v v1 v' x y hv=> ?_⟩;have hc:=h2 i v v1 (by simpa using x) (by simpa using y);cases hc with
    |simple hs=>rw[simple_eq hs hv];exact ZR hs
    |Jv hm ht=>
     rename_i r j t0;have:=List.all_eq_true.1 hr _ hm;simp only[YB]at this;have e:coS H m pos fz (Qk r t0)=some (Qk j t0,[]):=by
      have hs:simple (Qk r t0)=false:=rfl;unfold coS;rw[hs];simp only[cond_false,Qk,this.1,ht,Bool.and_self,cond_true,YE this.2]
     exact SG c e trivial hv
    |own hm=>
     obtain⟨L',e,hL'⟩:=y7 ks Pb L2 hks hL2 _ _ _ _ hm;exact SG c e hL' hv
    |nil=>
     cases hv;exact .top rfl c.Jv .nil
    |keep hm=>
     have hk:=List.all_eq_true.1 how _ hm;unfold I7 at hk;split at hk
     ·rename_i j0 hj0;have hk:=YE hk;have e:=c.here _ _ hj0;rw[hk]at e;cases hv with
      |slice har h1 h2 h3=>
       obtain⟨im,hi,_,rfl⟩:=har;refine .slice ⟨im,e.trans hi,rfl,rfl⟩ h1 h2 fun hs Z4 QO=> ?_
       rw[e]at QO;exact h3 hs Z4 QO
     ·cases hk
   ·cases h
 ·rename_i es PT;simp only[YO,YR]at h;obtain⟨rfl,rfl⟩:=h;obtain⟨hp,_⟩:=hL;refine⟨⟨_,rfl⟩,id,fun _=> ?_⟩;refine⟨_,rfl,trivial,fun im ZQ=> ?_⟩;obtain⟨h1,K0,h2,h3,h4⟩:=ZQ;refine⟨h1,K0,h2,h3,fun i e e' x y=> ?_⟩;obtain⟨p,q,r,s⟩:=h4 i e e' x y;have hs:=hp i e x;exact⟨p,q,r,by rw[SM hs s];exact Pc hs⟩
 ·rename_i r;split at h
  ·rename_i l L1 hl;simp only[YO,YR]at h;obtain⟨rfl,rfl⟩:=h;refine⟨⟨_,rfl⟩,id,fun _=> ?_⟩;refine⟨_,rfl,trivial,fun im ZQ=> ?_⟩;obtain⟨h1,tm,df,h2,h3⟩:=ZQ;obtain⟨a,b⟩:=il (fun v v' t L=>VX c 3 v v' t L) r.tmps.toList l L1 tm.toList hl hL (by simpa using h3.1) fun i v v' x y=>h3.2 i v v' (by simpa using x) (by simpa using y)
   exact⟨h1,tm,df,h2,by simpa using a,fun i v v' x y=>b i v v' (by simpa using x) (by simpa using y)⟩
  ·cases h
 ·rename_i ds;simp only[YO,YR]at h;obtain⟨rfl,rfl⟩:=h;exact⟨⟨_,rfl⟩,id,fun _=>⟨_,rfl,trivial,fun im ZQ=>ZQ⟩⟩
 ·simp only[YO,YR]at h;obtain⟨rfl,rfl⟩:=h;exact⟨⟨_,rfl⟩,id,fun hl=>hl.elim⟩
 ·cases h
end Go.CE
