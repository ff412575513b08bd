/- TW 3: operations on trees. -/
import Derived.Test.YtncjjangllkokaaZRP08
set_option linter.all false
namespace Go.CE
open Go Go.RowKit

inductive Qai where
 | old (h:Hint)
 | tidx (k:Nat) (es:Array Value)
 | tarr (k:Nat) (es:Array Value)
 | tslc (k m':Nat) (cs':Array Value)
 | tapp (cs':Array Value)
 | tapp0
 | tcpy (cs':Array Value)
 | pure (out:Value) (fz:List Fz)
 | pureK (out:Value) (fz:List Fz)
 | bin (v:Value)
 | call (keys:List Nat) (out:OO) (ups:Qan) (n':Nat) (W:List Nat)
 | eval (s:Rs)
 | wri (κ R:List Nat) (ps qs:List Bool) (out:OO) (outs news:List Obj)
def killL (H:Qan):List Nat->Qan
 | []=> H
 | k::K=> QiF (killL H K) (some k)
def Qje:Option Obj->Bool
 | some (.cells _ _ (0,0))=> true
 | _=> false
def QvM (P:Program) (T:Tm) (o:Oper):Option (Value×Nat):=match o.op with
 | .call c=> match c.callee with
   | .builtin .len=> match c.args.toList,c.argTypes.toList with
     | [x],[t]=> match evC T x with
       | some v=> match QqO v,und P t with
         | some (r,k,_),some (.slice _)=> some (.int .i64 k,r)
         | _,_=> none
       | none=> none
     | _,_=> none
   | _=> none
 | .fieldAddr s x f=> match evC T x with
   | some v=> match Qx4 v with
     | some (r,off,cs)=> match QbC P s f (.pointer (some ⟨0,off,none⟩)) with
       | some (.pointer (some ⟨0,off',none⟩))=> some (Qaq r (ptT off' cs),r)
       | _=> none
     | none=> none
   | none=> none
 | .load t x=> match evC T x with
   | some v=> match Qx4 v with
     | some (r,off,cs)=> match QeT P t cs off with
       | some v=> bif okT 4 v then some (Qau r 4 v,r) else none
       | none=> none
     | none=> none
   | none=> none
 | _=> none
def QdY:Value->Bool
 | .slice none 0 0 | .chan (some 0)=> true
 | _=> false
def Qh8 (P:Program) (T:Tm) (o:Oper):Option (Value×Nat×Nat×Array Value×TypeId×Nat×Nat×Value):=match o.op with
 | .call c=> match c.callee with
   | .builtin .append=> match c.args.toList,c.argTypes.toList with
     | [s,x],[t,t']=> match evC T s,evC T x with
       | some sv,some xv=> match QqO xv,und P t with
         | some (r,k,cs),some (.slice e)=> match inf P e with
           | some i=> match i.zero,i.size with
             | some zv,z+1=> bif Nat.beq t t' && QdY sv && Nat.beq zv.cells.size (z+1) then some (sv,r,k,cs,e,z+1,i.bytes,zv) else none
             | _,_=> none
           | none=> none
         | _,_=> none
       | _,_=> none
     | _,_=> none
   | _=> none
 | _=> none
def Qm2 (P:Program) (T:Tm) (o:Oper):Option (Nat×Nat×Nat×Nat×Nat×Array Value×Nat):=match o.op with
 | .call c=> match c.callee with
   | .builtin .copy=> match c.args.toList,c.argTypes.toList with
     | [s,x],[t,_]=> match evC T s,evC T x with
       | some (.slice (some ⟨b,off,none⟩) k _),some xv=> match QqO xv,und P t with
         | some (r,m,cs2),some (.slice e)=> match QdK P e with
           | some z=> some (b,off,k,r,m,cs2,z)
           | none=> none
         | _,_=> none
       | _,_=> none
     | _,_=> none
   | _=> none
 | _=> none
def Qrs (P:Program) (op:BinOp) (t:TypeId) (a b v:Value):Prop:=∀(x y:Operand) (w:World),(do eqGuard op t x y a b;binOp op t a b:Sem Value).run P w=.ok v w
def opT (P:Program) (F:FuncId->Bool) (J:World->Prop) (B:Lo) (T:Tm) (o:Oper) (H:Qan) (n:Nat):Option Qai->Option Told
 | none=> match QvM P T o with
   | some (v,r)=> bif Nat.blt r n && QaJ (Qao H r) then some ⟨⟨.ret v,H,n,[r],[]⟩,none⟩ else none
   | none=> opH P F B T o H n none
 | some (.old h)=> opH P F B T o H n (some h)
 | some (.tidx k es)=> match o.op with
   | .indexAddr t x i=> match evC T x,evC T i with
     | some v,some (.int _ q)=> match QqO v,und P t with
       | some (r,m,cs),some (.slice e)=> match QdK P e with
         | some z=> bif Nat.blt r n && QaJ (Qao H r) then some ⟨⟨.ret (Qaq r (ptT 0 es)),H,n,[r],[]⟩,some (q=(k:Int)/\k < m/\cs.extract (k * z) (k * z+z)=es)⟩ else none
         | none=> none
       | _,_=> none
     | _,_=> none
   | _=> none
 | some (.tarr k es)=> match o.op with
   | .indexAddr t x i=> match evC T x,evC T i with
     | some v,some (.int _ q)=> match Qx4 v,und P t with
       | some (r,off,cs),some (.array m e)=> match QdK P e with
         | some z=> bif Nat.blt r n && QaJ (Qao H r) then some ⟨⟨.ret (Qaq r (ptT 0 es)),H,n,[r],[]⟩,some (q=(k:Int)/\k < m/\cs.extract (off+k * z) (off+k * z+z)=es)⟩ else none
         | none=> none
       | _,_=> none
     | _,_=> none
   | _=> none
 | some (.tslc k m' cs')=> match o.op with
   | .slice t x (some lo) none none=> match evC T x,evC T lo with
     | some v,some (.int _ q)=> match QqO v,und P t with
       | some (r,m,cs),some (.slice e)=> match QdK P e with
         | some z=> bif Nat.blt r n && QaJ (Qao H r) then some ⟨⟨.ret (Qaq r (slT m' cs')),H,n,[r],[]⟩,some (q=(k:Int)/\k < m/\m'=m - k/\cs.extract (k * z) cs.size=cs')⟩ else none
         | none=> none
       | _,_=> none
     | _,_=> none
   | _=> none
 | some (.tapp cs')=> match Qh8 P T o with
   | some (_,r,k,cs,e,z,by',_)=> bif Nat.blt r n && QaJ (Qao H r) then
    some ⟨⟨.ret (.slice (some ⟨n,0,none⟩) k z),(n,.cells cs' e (0,0))::H,n+1,[r],[]⟩,some (0 < k/\k<=maxLen/\k * by'<=140737488355328/\cs.size=k * z/\cs.map (Qce r)=cs'/\(cs.all fun v=> simple v || QcT v)=true/\ones cs'=true)⟩ else none
   | none=> none
 | some .tapp0=> match Qh8 P T o with
   | some (sv,r,k,_,_,_,_,_)=> bif Nat.blt r n && QaJ (Qao H r) then some ⟨⟨.ret sv,H,n,[r],[]⟩,some (k=0)⟩ else none
   | none=> none
 | some (.tcpy cs')=> match Qm2 P T o with
   | some (b,off,k,r,m,cs2,z)=> match Qao H b with
     | some (.cells cs te (0,0))=> bif Nat.blt r n && QaJ (Qao H r) && Nat.blt b n then
      some ⟨⟨.ret (.int .i64 (Nat.min m k)),QeO H b (.cells cs' te (0,0)),n,[b,r],[b]⟩,some (0 < m/\off+Nat.min m k * z<=cs.size/\Nat.min m k * z<=cs2.size/\(cs2.all fun v=> simple v || QcT v)=true/\ones ((cs2.extract 0 (Nat.min m k * z)).map (Qce r))=true/\splice cs off ((cs2.extract 0 (Nat.min m k * z)).map (Qce r))=cs')⟩ else none
     | _=> none
   | none=> none
 | some (.eval s)=> some ⟨s,some (opS P F QaK (fun _ _ _=> none) T o H n=some s)⟩
 | some (.bin v)=> match o.op with
   | .binOp op t x y _=> match evC T x,evC T y with
     | some a,some b=> bif af a && af b && af v then some ⟨⟨.ret v,H,n,[],[]⟩,some (Qrs P op t a b v)⟩ else none
     | _,_=> none
   | _=> none
 | some (.call keys out ups n' W)=> match o.op with
   | .call _=> match Qlt P F (evC T) o H n with
     | some ⟨.enter g args,H1,n1,R,W1⟩=> bif Nat.beq n1 n && W1.isEmpty then
      match QbQ P g args with
      | some c1=> some ⟨⟨out,ups++H1,n',R++keys,W⟩,some (FJ P B c1 H1 n out (ups++H1) n' keys W)⟩
      | none=> none
       else none
     | some ⟨.round l fn tm a b,H1,n1,R,W1⟩=> bif Nat.beq n1 n && W1.isEmpty && Nat.ble tm.size 16000 then some ⟨⟨out,ups++H1,n',R++keys,W⟩,some (FJ P B ⟨fn,ofList tm.size tm.toList,[.code a,.beginRound,.code b],[],.run,some l⟩ H1 n out (ups++H1) n' keys W)⟩ else none
     | _=> none
   | _=> none
 | some (.pure out fz)=> match o.op with
   | .call _=> match Qlt P F (evC T) o H n with
     | some ⟨.enter g args,H1,n1,R,W1⟩=> bif Nat.beq n1 n && W1.isEmpty then
      match QdE (QcU H1 fz 3) args.toList with
      | some (ts,R2,L)=> bif R2.all fun i=> Nat.blt i n then
       bif Qii 2 out then some ⟨⟨.ret out,H1,n,R++R2,[]⟩,some (Qa2 L/\Qaw P J g ts.toArray out)⟩
       else bif (R2.all fun i=> QaJ (Qao H1 i)) && okT 4 out then some ⟨⟨.ret (Qau n 4 out),(n,QbH)::H1,n+1,R++R2,[]⟩,some (Qa2 L/\Qaw P J g ts.toArray out)⟩ else none
        else none
      | none=> none
       else none
     | _=> none
   | _=> none
 | some (.pureK out fz)=> match o.op with
   | .call _=> match Qlt P F (evC T) o H n with
     | some ⟨.enter g args,H1,n1,R,W1⟩=> bif Nat.beq n1 n && W1.isEmpty then
      match QdE (QcU H1 fz 3) args.toList with
      | some (ts,R2,L)=> bif (R2.all fun i=> Nat.blt i n) && (R2.all fun i=> QaJ (Qao H1 i) || Qje (Qao H1 i)) && okT 4 out then
       some ⟨⟨.ret (Qau n 4 out),(n,QbH)::killL H1 (R2.filter fun i=> Qje (Qao H1 i)),n+1,R++R2,R2.filter fun i=> Qje (Qao H1 i)⟩,some (Qa2 L/\Qaw P J g ts.toArray out)⟩ else none
      | none=> none
       else none
     | _=> none
   | _=> none
 | some (.wri κ R ps qs out outs news)=> match o.op with
   | .call _=> match Qlt P F (evC T) o H n with
     | some ⟨.enter g args,H1,n1,R0,W1⟩=> bif Nat.beq n1 n && W1.isEmpty then
      match Q43 H1 n κ R ps qs args out outs news with
      | some (as,bs,o1,ups,L)=> some ⟨⟨o1,ups++H1,n+1+news.length,R0++(κ++R),κ⟩,some (Qa2 L/\WriC P J g as.toArray bs out outs news)⟩
      | none=> none
       else none
     | _=> none
   | _=> none
section
variable {P:Program} {F:FuncId->Bool} {J:World->Prop} {B:Lo} {T:Tm} {o:Oper} {H:Qan} {n:Nat}
theorem QeC (hF:∀g,F g=true->Qa3 P g=true) {c:Call} (hop:o.op=.call c) (hu:Under H n) {g:FuncId} {args:Array Value} {H1 H2:Qan} {R keys W:List Nat} {n':Nat} {out:OO} (hcr:Qlt P F (evC T) o H n=some ⟨.enter g args,H1,n,R,[]⟩) (hcj:Qrx P B g args H1 n out H2 n' keys W):
 Ql9 P B o (evC T) H n out H2 n' (R++keys) W/\Shape H n H2 n' (R++keys) W:=by
 have horc:QdD P B (fun g' a' H' m'=> open Classical in if g'=g/\a'=args/\H'=H1/\m'=n then some ⟨out,H2,n',keys,W⟩ else none):=by
  intro g' a' H' m' s _ h;simp only at h;split at h
  ·rename_i q;obtain ⟨rfl,rfl,rfl,rfl⟩:=q;simp only [YO] at h;subst h;exact hcj
  ·cases h
 have:=QdV hF Qeq horc hu (T:=T) (o:=o) (s:=⟨out,H2,n',R++keys,W⟩) (by simp [opS,hop,hcr]);exact this
theorem FJ.callJ {g:FuncId} {args:Array Value} {c0:CF} {H':Qan} {n':Nat} {R W:List Nat} {out:OO} (hc:QbQ P g args=some c0) (h:FJ P B c0 H n out H' n' R W):Qrx P B g args H n out H' n' R W:=
 ⟨h.shape,fun S μ w args' cs hok hB hS hf ha hR=> h.sem S μ w (Frame.enter P g args' .normal) cs hok hB hS hf (QcE hc ha) hR⟩
theorem FJ.recS {c:CF} {H1:Qan} {n n':Nat} {out:OO} {ups:Qan} {W keys:List Nat} (h:FJ P B c H1 n out (ups++H1) n' keys W):Qut P B (QgI c H1 n ⟨out,ups++H1,n',keys,W⟩):=by
 intro c' H' m' s _ hs;unfold QgI at hs;split at hs
 ·rename_i q;obtain ⟨rfl,rfl,rfl⟩:=q;simp only [YO] at hs;subst hs;exact h
 ·cases hs
theorem Qh7 (hJ:∀w,B.has w->J w) {g:FuncId} {args:Array Value} {fz:List Fz} {H1:Qan} {ts:List Value} {R2:List Nat} {L:List Prop} {out:Value} (hst:QdE (QcU H1 fz 3) args.toList=some (ts,R2,L)) (hL:Qa2 L) (hp:Qaw P J g ts.toArray out)
 {S:Nat->Prop} {μ:Mu} {w:World} {args':Array Value} (hok:Ok B.B S μ (Qao H1) w) (hB:B.has w) (hv:VRs μ args args') (hS:∀r∈R2,S r):Calls P g args' w fun e w'=> ∃v',e=.returned v'/\Below w.heap.size w w'/\TRv (QpR (fmU μ H1 w R2) w w') out v':=by
 obtain ⟨a,b⟩:=Qft (fun v v' t R L h1 h2 h3 h4=> Qea hok 3 v v' t R L h1 h2 h3 h4) args.toList ts R2 L args'.toList hst hL hS (by simpa using hv.1) fun i v v' x y=> hv.2 i v v' (by simpa using x) (by simpa using y)
 exact hp (fmU μ H1 w R2) w args' (hJ w hB) (fun b x h=> Qcp h) ⟨by simpa using a,fun i v v' x y=> b i v v' (by simpa using x) (by simpa using y)⟩
theorem Qud (hJ:∀w,B.has w->J w) {g:FuncId} {args:Array Value} {fz:List Fz} {H1:Qan} {ts:List Value} {R2:List Nat} {L:List Prop} {out:Value} (hst:QdE (QcU H1 fz 3) args.toList=some (ts,R2,L)) (hL:Qa2 L) (hp:Qaw P J g ts.toArray out) (hpl:Qii 2 out=true) (hlt:(R2.all fun i=> Nat.blt i n)=true):
 Qrx P B g args H1 n (.ret out) H1 n R2 []:=by
 refine ⟨Shape.same _ _ _,fun S μ w args' cs hok hB hS _ ha hR=> ?_⟩;obtain ⟨e,w1,fr,⟨v',rfl,hb,ht⟩,hc,hf,hl⟩:=Qh7 hJ hst hL hp hok hB ha (fun r hr=> hR r hr (YL (List.all_eq_true.1 hlt r hr))) cs;refine ⟨.ret v',w1,μ,Post.ofBelow hok hb,.ret (Qlr 2 out v' hpl ht),fun _=> ⟨fr,hc,by rw [hf];rfl,hl⟩,fun c cs' e=> ?_⟩;subst e;exact Steps.trans hc (.one (step_leave_returned hl))
theorem Qqi (hJ:∀w,B.has w->J w) {g:FuncId} {args:Array Value} {fz:List Fz} {H1:Qan} {ts:List Value} {R2:List Nat} {L:List Prop} {out:Value} (hst:QdE (QcU H1 fz 3) args.toList=some (ts,R2,L)) (hL:Qa2 L) (hp:Qaw P J g ts.toArray out) (hlt:(R2.all fun i=> Nat.blt i n)=true)
 (hreg:(R2.all fun i=> QaJ (Qao H1 i))=true) (ho:okT 4 out=true):Qrx P B g args H1 n (.ret (Qau n 4 out)) ((n,QbH)::H1) (n+1) R2 []:=by
 refine ⟨Shape.new _ _ _ _,fun S μ w args' cs hok hB hS hf ha hR=> ?_⟩;have hSR:∀r∈R2,S r:=fun r hr=> hR r hr (YL (List.all_eq_true.1 hlt r hr))
 obtain ⟨e,w1,fr,⟨v',rfl,hb,ht⟩,hc,hfn,hl⟩:=Qh7 hJ hst hL hp hok hB ha hSR cs;have hfm:∀b x,QpR (fmU μ H1 w R2) w w1 b=some x->w1.heap[b]? =some x:=by
  intro b x h;unfold QpR at h;split at h
  ·rename_i hlt;rw [hb.block b hlt];exact Qcp h
  ·exact h
 have hpost:=Post.region (n:=n) hok hS (hf n (Nat.le_refl _) (by omega)) hb (QpR (fmU μ H1 w R2) w w1) hfm fun b x h=> by
  unfold QpR at h;split at h
  ·refine .inr ?_;have hw:=Qcp h;unfold fmU at h;split at h
   ·rename_i hc;obtain ⟨i,hi,o,im,ho,him,hcase⟩:=hc;obtain ⟨o',ho',hr'⟩:=Qby (List.all_eq_true.1 hreg i hi);rw [ho] at ho';cases ho';rcases hcase with ⟨_,hne⟩ | ⟨hl,_⟩
    ·cases hx:im.fm b with
     | none=> exact absurd hx hne
     | some y=>
       obtain ⟨im',him',hf'⟩:=hok.reg i o (hSR i hi) ho hr';rw [him] at him';cases him';have:=hf' b y hx;rw [hw] at this;cases this;exact ⟨i,im,o,hSR i hi,ho,hr',him,hx⟩
    ·exact absurd hl (by cases o <;> first | exact id | exact hr'.elim)
   ·cases h
  ·rename_i hge;exact .inl (Nat.le_of_not_lt hge)
 refine ⟨.ret v',w1,_,hpost,.ret (QfA QaF 4 out v' ho ht),fun _=> ⟨fr,hc,by rw [hfn];rfl,hl⟩,fun c cs' e=> ?_⟩;subst e;exact Steps.trans hc (.one (step_leave_returned hl))
theorem Qd6 (H:Qan) (K:List Nat) (i:Nat):Qao (killL H K) i=if i∈K/\(Qao H i).isSome then some (.pending #[] 0) else Qao H i:=by
 induction K with
 | nil=> simp [killL]
 | cons k K ih=>
   simp only [killL];rw [QcH,ih];by_cases e:i=k
   ·subst e;cases hs:Qao H i with
    | none=> simp
    | some o=> by_cases hm:i∈K <;> simp [hm]
   ·simp [e]
theorem Post.regionK {B n:Nat} {S:Nat->Prop} {μ:Mu} {H:Qan} {w w':World} (K:List Nat) (hok:Ok B S μ (Qao H) w) (hS:∀i,S i->i < n) (hf:μ n=none) (hbel:Below w.heap.size w w') (hK:∀k∈K,S k/\(∃o,Qao H k=some o/\live o)/\∃im,μ k=some im/\im.rw=true)
 (fm:Nat->Option Obj) (hfm:∀b x,fm b=some x->w'.heap[b]? =some x)
 (hfr:∀b x,fm b=some x->w.heap.size<=b\/(∃k kim ko,S k/\Qao H k=some ko/\Qcu ko/\μ k=some kim/\kim.fm b=some x)\/∃k∈K,∃im,μ k=some im/\im.blk=b):Post B S n (n+1) K μ (upd μ n ⟨0,0,0,false,fm⟩) H ((n,QbH)::killL H K) w w':=by
 have hp:=Post.ofBelow (n:=n) hok hbel;have hne:∀i,S i->i≠n:=fun i hi=> by have:=hS i hi;omega
 have hmu:∀i,S i->upd μ n ⟨0,0,0,false,fm⟩ i=μ i:=fun i hi=> by simp [upd,hne i hi]
 have hg0:∀i,S i->Qao ((n,QbH)::killL H K) i=Qao (killL H K) i:=fun i hi=> by rw [Qa4,if_neg (hne i hi)]
 have hgl:∀i o,S i->Qao ((n,QbH)::killL H K) i=some o->live o\/Qcu o->Qao H i=some o/\(live o->i ∉ K):=fun i o hi ho hl=> by
  rw [hg0 i hi,Qd6] at ho;split at ho
  ·cases ho;exact (hl.elim id id).elim
  ·rename_i hn;exact ⟨ho,fun _ hm=> hn ⟨hm,by rw [ho];rfl⟩⟩
 have hgn:Qao ((n,QbH)::killL H K) n=some QbH:=by rw [Qa4,if_pos rfl]
 have isn:∀i,(n<=i/\i < n+1)->i=n:=fun i hi=> by omega
 refine ⟨⟨fun i o hi ho hl=> ?_,fun i o im hi ho hl him=> ?_,fun i j oi oj a b hi hj hij hoi hoj hli hlj ha hb hra hrb=> ?_,fun i o hi ho hr=> ?_,fun i j oi oj a b x hi hj hoi hoj hri hlj ha hb hrb hx=> ?_⟩,by omega,fun i hi=> ?_,fun i hi hw=> ?_,hbel.size,fun b hb _=> hbel.block b hb,fun i hi _=> hK i hi,
  fun i im o h1 h2 ho hl him=> ?_,fun i im o hi ho hr him b x hx=> ?_,hbel.os,hbel.tape,hbel.output⟩
 ·rcases hi with hi | hi
  ·have ho:=(hgl i o hi ho (.inl hl)).1;obtain ⟨im,him,hr⟩:=hp.ok.rel i o (.inl hi) ho hl;exact ⟨im,by rw [hmu i hi];exact him,hr.keep (QdT hf) rfl⟩
  ·rw [isn i hi,hgn] at ho;cases ho;exact hl.elim
 ·rcases hi with hi | hi
  ·have ho:=(hgl i o hi ho (.inl hl)).1;rw [hmu i hi] at him;exact hp.ok.low i o im (.inl hi) ho hl him
  ·rw [isn i hi,hgn] at ho;cases ho;exact hl.elim
 ·rcases hi with hi | hi
  ·rcases hj with hj | hj
   ·have hoi:=(hgl i oi hi hoi (.inl hli)).1;have hoj:=(hgl j oj hj hoj (.inl hlj)).1;rw [hmu i hi] at ha;rw [hmu j hj] at hb;exact hok.inj i j oi oj a b hi hj hij hoi hoj hli hlj ha hb hra hrb
   ·rw [isn j hj,hgn] at hoj;cases hoj;exact hlj.elim
  ·rw [isn i hi,hgn] at hoi;cases hoi;exact hli.elim
 ·rcases hi with hi | hi
  ·have ho:=(hgl i o hi ho (.inr hr)).1;obtain ⟨im,him,h⟩:=hp.ok.reg i o (.inl hi) ho hr;exact ⟨im,by rw [hmu i hi];exact him,h⟩
  ·rw [isn i hi];exact ⟨_,QaF,hfm⟩
 ·have hjS:S j:=hj.elim id fun h=> by rw [isn j h,hgn] at hoj;cases hoj;exact hlj.elim
  obtain ⟨hoj,hjK⟩:=hgl j oj hjS hoj (.inl hlj);rw [hmu j hjS] at hb;rcases hi with hi | hi
  ·have hoi:=(hgl i oi hi hoi (.inr hri)).1;rw [hmu i hi] at ha;exact hok.sep i j oi oj a b x hi hjS hoi hoj hri hlj ha hb hrb hx
  ·rw [isn i hi,QaF] at ha;cases ha;rcases hfr _ _ hx with h | ⟨k,kim,ko,h1,h2,h3,h4,h5⟩ | ⟨k,hk,kim,h1,h2⟩
   ·have:=(hok.low j oj b hjS hoj hlj hb).1;omega
   ·exact hok.sep k j ko oj kim b x h1 hjS h2 hoj h3 hlj h4 hb hrb h5
   ·obtain ⟨k1,⟨ko,k2,k3⟩,kim',k4,k5⟩:=hK k hk;rw [h1] at k4;cases k4;have hkj:k≠j:=fun e=> hjK hlj (e ▸ hk)
    exact hok.inj k j ko oj kim b k1 hjS hkj k2 hoj k3 hlj h1 hb k5 hrb h2
 ·simp only [upd];rw [if_neg (by omega)]
 ·rw [Qa4,if_neg (by omega),Qd6,if_neg (fun h=> hw h.1)]
 ·rw [isn i ⟨h1,h2⟩,hgn] at ho;cases ho;exact hl.elim
 ·rcases hi with hi | hi
  ·have hin:=isn i hi;subst hin;rw [QaF] at him;cases him;rcases hfr b x hx with h | ⟨k,kim,ko,h1,h2⟩ | ⟨k,hk,kim,h1,h2⟩
   ·exact .inl h
   ·exact .inr (.inl ⟨k,kim,ko,h1,hS k h1,h2⟩)
   ·refine .inr (.inr ⟨k,hk,hS k (hK k hk).1,⟨kim,h1,h2⟩,fun o' ho'=> ?_⟩);have hks:=(hK k hk).1;obtain ⟨ko,k2,_⟩:=(hK k hk).2.1;rw [hg0 k hks,Qd6,if_pos ⟨hk,by rw [k2];rfl⟩] at ho';cases ho';exact id
  ·obtain ⟨hiK,hin⟩:=hi;have hks:=(hK i hiK).1;obtain ⟨ko,k2,_⟩:=(hK i hiK).2.1;rw [hg0 i hks,Qd6,if_pos ⟨hiK,by rw [k2];rfl⟩] at ho;cases ho;exact hr.elim
theorem Shape.killL {H:Qan} {n:Nat} {K R:List Nat} (o:Obj) (hK:∀k∈K,k < n) (hs:∀k∈K,k∈R):Shape H n ((n,o)::killL H K) (n+1) R K:=by
 refine ⟨by omega,fun i hi hw=> ?_,fun i hi=> ?_,hs,fun i hi=> by have:=hK i hi;omega⟩
 ·rw [Qa4,if_neg (by omega),Qd6,if_neg (fun h=> hw h.1)]
 ·rw [Qa4,if_neg (by omega),Qd6,if_neg (fun h=> by have:=hK i h.1;omega)]
theorem QtD {o:Option Obj} (h:Qje o=true):∃cs t,o=some (.cells cs t (0,0)):=by
 unfold Qje at h;split at h
 ·exact ⟨_,_,rfl⟩
 ·cases h
theorem Qpl (hJ:∀w,B.has w->J w) {g:FuncId} {args:Array Value} {fz:List Fz} {H1:Qan} {ts:List Value} {R2:List Nat} {L:List Prop} {out:Value} (hst:QdE (QcU H1 fz 3) args.toList=some (ts,R2,L)) (hL:Qa2 L) (hp:Qaw P J g ts.toArray out) (hlt:(R2.all fun i=> Nat.blt i n)=true)
 (hreg:(R2.all fun i=> QaJ (Qao H1 i) || Qje (Qao H1 i))=true) (ho:okT 4 out=true):Qrx P B g args H1 n (.ret (Qau n 4 out)) ((n,QbH)::killL H1 (R2.filter fun i=> Qje (Qao H1 i))) (n+1) R2 (R2.filter fun i=> Qje (Qao H1 i)):=by
 have hltn:∀r∈R2,r < n:=fun r hr=> YL (List.all_eq_true.1 hlt r hr)
 refine ⟨Shape.killL _ (fun k hk=> hltn k ((List.mem_filter.1 hk).1)) (fun k hk=> (List.mem_filter.1 hk).1),fun S μ w args' cs hok hB hS hf ha hR=> ?_⟩;have hSR:∀r∈R2,S r:=fun r hr=> hR r hr (hltn r hr)
 obtain ⟨e,w1,fr,⟨v',rfl,hb,ht⟩,hc,hfn,hl⟩:=Qh7 hJ hst hL hp hok hB ha hSR cs;have hfm:∀b x,QpR (fmU μ H1 w R2) w w1 b=some x->w1.heap[b]? =some x:=by
  intro b x h;unfold QpR at h;split at h
  ·rename_i hlt;rw [hb.block b hlt];exact Qcp h
  ·exact h
 have hK:∀k∈R2.filter fun i=> Qje (Qao H1 i),S k/\(∃o,Qao H1 k=some o/\live o)/\∃im,μ k=some im/\im.rw=true:=fun k hk=> by
  obtain ⟨h1,h2⟩:=List.mem_filter.1 hk;obtain ⟨cs0,t0,h3⟩:=QtD h2;obtain ⟨im,him,hor⟩:=hok.rel k _ (hSR k h1) h3 trivial;refine ⟨hSR k h1,⟨_,h3,trivial⟩,im,him, ?_⟩;rcases hor with ⟨_,h,_⟩ | ⟨h,_⟩
  ·exact h
  ·exact absurd rfl h
 have hpost:=Post.regionK (n:=n) (R2.filter fun i=> Qje (Qao H1 i)) hok hS (hf n (Nat.le_refl _) (by omega)) hb hK (QpR (fmU μ H1 w R2) w w1) hfm fun b x h=> by
  unfold QpR at h;split at h
  ·refine .inr ?_;have hw:=Qcp h;unfold fmU at h;split at h
   ·rename_i hc;obtain ⟨i,hi,o,im,ho,him,hcase⟩:=hc;have hor:=List.all_eq_true.1 hreg i hi;rw [Bool.or_eq_true] at hor;rcases hcase with ⟨hr',hne⟩ | ⟨hl,hblk⟩
    ·left;cases hx:im.fm b with
     | none=> exact absurd hx hne
     | some y=>
       obtain ⟨im',him',hf'⟩:=hok.reg i o (hSR i hi) ho hr';rw [him] at him';cases him';have:=hf' b y hx;rw [hw] at this;cases this;exact ⟨i,im,o,hSR i hi,ho,hr',him,hx⟩
    ·right;rcases hor with hor | hor
     ·obtain ⟨o',ho',hr'⟩:=Qby hor;rw [ho] at ho';cases ho';exact absurd hl (by cases o <;> first | exact id | exact hr'.elim)
     ·exact ⟨i,List.mem_filter.2 ⟨hi,hor⟩,im,him,hblk⟩
   ·cases h
  ·rename_i hge;exact .inl (Nat.le_of_not_lt hge)
 refine ⟨.ret v',w1,_,hpost,.ret (QfA QaF 4 out v' ho ht),fun _=> ⟨fr,hc,by rw [hfn];rfl,hl⟩,fun c cs' e=> ?_⟩;subst e;exact Steps.trans hc (.one (step_leave_returned hl))
theorem QdO {r:Nat} {v:Value} (hlt:r < n) (hreg:QaJ (Qao H r)=true) (hd:∀c,o.op≠.defer c)
 (h:∀(μ:Mu) (w:World) (ρ:Operand->Value) (im:Img),μ r=some im->(∀b x,im.fm b=some x->w.heap[b]? =some x)->(∀x∈o.op.operands,∀v,evC T x=some v->VR μ v (ρ x))->∃v',(execOp ρ o).run P w=.ok (.value v') w/\VR μ v v'):
 Ql9 P B o (evC T) H n (.ret v) H n [r] []:=fun S μ w fr _ _ _ _ _ hok hB _ _ hev hR hm ht ho hw=> by
 obtain ⟨x,hx,hr⟩:=Qby hreg;obtain ⟨im,him,hf⟩:=hok.reg r x (hR r (by simp) hlt) hx hr;obtain ⟨v',h1,h2⟩:=h μ w fr.eval im him hf hev;exact ⟨.ret v',w,μ,Post.refl hok,.ret h2,Qes hm ht ho hw hd h1⟩
theorem QtR {fm:Nat->Option Obj} {w:World} (hw:∀b x,fm b=some x->w.heap[b]? =some x) {off:Nat} {cs:Array Value} {u v:Value} {t:TypeId} (hu:TRv fm (ptT off cs) u) (h:QeT P t cs off=some v):∃v',(Instr.loadAt t u).run P w=.ok v' w/\TRv fm v v':=by
 obtain ⟨b,o,arr,ty,fl,rfl,h1,h2,h3⟩:=hu.ptr_inv;have hb:=hw _ _ h1;have hcell:∀i,i < cs.size->∃v',w.cell? ⟨b,o+i,none⟩=some v'/\∀v,cs[i]? =some v->TRv fm v v':=by
  intro i hi;have hlt:=h2 i hi;exact ⟨arr[o+i],by simp [World.cell?,hb,hlt],fun v hv=> h3 i v _ hv (by simp [hlt])⟩
 unfold QeT at h;cases hag:Qv7 P t with
 | none=> rw [hag] at h;cases h
 | some g=>
   rw [hag] at h;cases g with
   | true=>
     cases hz:QdK P t with
     | none=> rw [hz] at h;cases h
     | some z=>
       rw [hz] at h;dsimp only at h;cases hb2:Nat.ble (off+z) cs.size with
       | false=> rw [hb2] at h;cases h
       | true=>
         rw [hb2] at h;simp only [cond_true,YO] at h;subst h;have hle:=YL hb2;have hr:=run_loadCells (P:=P) w ⟨b,o+off,none⟩ z (fun j=> (w.cell? ⟨b,o+(off+j),none⟩).getD undef) (fun j hj=> by
          obtain ⟨v',hv',_⟩:=hcell (off+j) (by omega);rw [QbV,show o+off+j=o+(off+j) by omega,hv'];rfl)
         refine ⟨.agg _,by simp [Instr.loadAt,Instr.sureAddr,loadVar,Qde hag,Qbl hz,hr];rfl,.agg (by simp;omega) fun i v v' hv hv'=> ?_⟩;have hi:i < z:=by
          have:=(Array.getElem?_eq_some_iff.1 hv).1;simp at this;omega
         obtain ⟨u,h4,h5⟩:=hcell (off+i) (by omega);simp [hi,h4] at hv';subst hv';refine h5 v ?_;rw [Array.getElem?_extract] at hv;split at hv
         ·exact hv
         ·cases hv
   | false=>
     simp only at h;have hi:=(Array.getElem?_eq_some_iff.1 h).1;obtain ⟨v',hv',ht⟩:=hcell off hi;exact ⟨v',by simp [Instr.loadAt,Instr.sureAddr,loadVar,Qde hag,run_load,hv'],ht v h⟩
theorem QoI {v:Value} {r:Nat} (e:QvM P T o=some (v,r)) (hlt:r < n) (hreg:QaJ (Qao H r)=true):Ql9 P B o (evC T) H n (.ret v) H n [r] []:=by
 unfold QvM at e;split at e
 ·rename_i c hop;split at e
  ·rename_i hc;split at e
   ·rename_i x t ha ht;split at e
    ·rename_i u hx;split at e
     ·rename_i r0 k cs el htop hue;rw [Qb9] at hue;simp only [YO,YR] at e;obtain ⟨rfl,rfl⟩:=e;refine QdO hlt hreg (fun c h=> by rw [hop] at h;cases h) fun μ w ρ im him hf hev=> ?_
      have ea:c.args=#[x]:=by rw [<-ha]
      have et:c.argTypes=#[t]:=by rw [<-ht]
      have hv:=hev x (by simp [hop,Op.operands,Call.operands,hc,ea]) _ hx;rw [QgD htop] at hv;obtain ⟨im',_,htr⟩:=hv.top_inv;have hlen:∃a c,ρ x=.slice a k c:=by
       rcases htr.slice_inv with ⟨b,o',c',arr,t',fl,h1,_⟩ | ⟨rfl,_,a',c',h1,_⟩
       ·exact ⟨_,_,h1⟩
       ·exact ⟨_,_,h1⟩
      obtain ⟨a,cp,hv⟩:=hlen;refine ⟨.int .i64 k, ?_,.int _ _⟩;simp [execOp,hop,resolve,hc,invoke,builtin,ea,et,hv,Builtin.len_,run_underlying hue,goInt]
     ·cases e
    ·cases e
   ·cases e
  ·cases e
 ·rename_i s x f hop;split at e
  ·rename_i u hx;split at e
   ·rename_i r0 off cs htop;split at e
    ·rename_i off' hc;simp only [YO,YR] at e;obtain ⟨rfl,rfl⟩:=e;refine QdO hlt hreg (fun c h=> by rw [hop] at h;cases h) fun μ w ρ im him hf hev=> ?_
     have hv:=hev x (by simp [hop,Op.operands]) _ hx;rw [QmY htop] at hv;obtain ⟨im',him',htr⟩:=hv.top_inv;rw [him] at him';cases him';obtain ⟨b,o',arr,ty,fl,h1,h2,h3,h4⟩:=htr.ptr_inv;have hc2:∃d,off'=off+d/\QbC P s f (.pointer (some ⟨b,o'+off,none⟩))=some (.pointer (some ⟨b,o'+off+d,none⟩)):=by
      unfold QbC at hc ⊢;simp only at hc ⊢;split at hc
      ·split at hc
       ·split at hc
        ·simp only [YO,Value.pointer.injEq,Addr.mk.injEq,true_and,and_true] at hc;rename_i fd hfd _ _ hz;refine ⟨fd.offset,hc.symm, ?_⟩;simp_all
        ·cases hc
       ·cases hc
      ·cases hc
     obtain ⟨d,rfl,hc2⟩:=hc2;obtain ⟨_,hr⟩:=Qga (P:=P) hc2 w;refine ⟨.pointer (some ⟨b,o'+off+d,none⟩),by simp [execOp,hop,h1,hr],.top rfl him ?_⟩;rw [Nat.add_assoc];exact .ptr h2 h3 h4
    ·cases e
   ·cases e
  ·cases e
 ·rename_i t x hop;split at e
  ·rename_i u hx;split at e
   ·rename_i r0 off cs htop;split at e
    ·rename_i v0 hc;cases hok:okT 4 v0 with
     | false=> rw [hok] at e;cases e
     | true=>
       rw [hok] at e;simp only [cond_true,YO,YR] at e;obtain ⟨rfl,rfl⟩:=e;refine QdO hlt hreg (fun c h=> by rw [hop] at h;cases h) fun μ w ρ im him hf hev=> ?_
       have hv:=hev x (by simp [hop,Op.operands]) _ hx;rw [QmY htop] at hv;obtain ⟨im',him',htr⟩:=hv.top_inv;rw [him] at him';cases him';obtain ⟨v',h1,h2⟩:=QtR hf htr hc;exact ⟨v',by simp [execOp,hop,h1],QfA him 4 v0 v' hok h2⟩
    ·cases e
   ·cases e
  ·cases e
 ·cases e
theorem QrO {P:Program} {t e:TypeId} {b off m c z k:Nat} {q:Int} {kk:IntKind} (hu:und P t=some (.slice e)) (hz:QdK P e=some z) (hq:q=(k:Int)) (hk:k < m) (hc:m<=c) (w:World):
 (Instr.sliceAt t (.slice (some ⟨b,off,none⟩) m c) (some (.int kk q)) none none).run P w=.ok (.slice (some ⟨b,off+k * z,none⟩) (m - k) (c - k)) w:=by
 rw [Qb9] at hu;subst hq;have hb:Q0D m (some (.int kk (k:Int))) none=some (k,m):=by
  simp only [Q0D,bnd,decide_eq_true (show (0:Int)<=(k:Int) by omega),decide_eq_true (show (k:Int)<=(m:Int) by omega),Bool.and_self,cond_true,Int.toNat_natCast]
 obtain ⟨hr,_,_⟩:=Qne (P:=P) (μ:=fun _=> none) (sl:=true) (lo':=some (.int kk (k:Int))) (hi':=none) hb (show VR _ _ _ from .int _ _) trivial hc w;simp only [Instr.sliceAt,Instr.slice,Sem.run_bind,run_underlying hu,Result.andThen_ok,hr,Qbl hz,Sem.run_pure,Option.map_some,QbV];rw [if_neg (by omega)]
theorem Qk6 {sv:Value} {r k z by':Nat} {cs:Array Value} {e:TypeId} {zv:Value} (h:Qh8 P T o=some (sv,r,k,cs,e,z,by',zv)):
 ∃c s x t i,o.op=.call c/\c.callee=.builtin .append/\c.args=#[s,x]/\c.argTypes=#[t,t]/\evC T s=some sv/\evC T x=some (Qaq r (slT k cs))/\QdY sv=true/\P.underlying t=some (.slice e)/\P.info? e=some i/\i.zero=some zv/\i.size=z/\i.bytes=by'/\zv.cells.size=z/\0 < z:=by
 unfold Qh8 at h;split at h
 ·rename_i c hop;split at h
  ·rename_i hc;split at h
   ·rename_i s x t t' ha ht;split at h
    ·rename_i sv' xv hs hx;split at h
     ·rename_i r' k' cs' e' htop hu;split at h
      ·rename_i i hi;split at h
       ·rename_i zv' z' hz hsz;cases hq:(Nat.beq t t' && QdY sv' && Nat.beq zv'.cells.size (z'+1)) with
        | false=> rw [hq] at h;cases h
        | true=>
          rw [hq] at h;simp only [cond_true,YO,YR] at h;obtain ⟨rfl,rfl,rfl,rfl,rfl,rfl,rfl,rfl⟩:=h;simp only [YB] at hq;obtain ⟨⟨q1,q2⟩,q3⟩:=hq;obtain rfl:=YE q1;rw [Qb9] at hu;rw [QeX] at hi;exact ⟨c,s,x,t,i,hop,hc,by rw [<-ha],by rw [<-ht],hs,by rw [hx,QgD htop],q2,hu,hi,hz,hsz,rfl,YE q3,by omega⟩
       ·cases h
      ·cases h
     ·cases h
    ·cases h
   ·cases h
  ·cases h
 ·cases h
theorem Qjr {μ:Mu} {s s':Value} (h:QdY s=true) (hs:VR μ s s'):∃a,s'=.slice a 0 0:=by
 unfold QdY at h;split at h
 ·cases hs;exact ⟨_,rfl⟩
 ·cases hs;exact ⟨_,rfl⟩
 ·cases h
theorem QpO {sv:Value} {r k z by':Nat} {cs cs':Array Value} {e:TypeId} {zv:Value} (h:Qh8 P T o=some (sv,r,k,cs,e,z,by',zv)) (hlt:r < n) (hreg:QaJ (Qao H r)=true)
 (hp:0 < k/\k<=maxLen/\k * by'<=140737488355328/\cs.size=k * z/\cs.map (Qce r)=cs'/\(cs.all fun v=> simple v || QcT v)=true/\ones cs'=true):
 Ql9 P B o (evC T) H n (.ret (.slice (some ⟨n,0,none⟩) k z)) ((n,.cells cs' e (0,0))::H) (n+1) [r] []:=by
 intro S μ w fr _ _ _ _ _ hok hB hS hf hev hR hm ht ho hw;obtain ⟨c,s,x,t,i,hop,hc,ea,et,hs,hx,hbn,hu,hi,hz,hsz,hby,hzs,hzp⟩:=Qk6 h;obtain ⟨p1,p2,p3,p4,p5,p6,p7⟩:=hp;obtain ⟨xr,hxr,hr⟩:=Qby hreg;obtain ⟨im,him,hfm⟩:=hok.reg r xr (hR r (by simp) hlt) hxr hr;have hvs:=hev s (by simp [hop,Op.operands,Call.operands,hc,ea]) _ hs;have hvx:=hev x (by simp [hop,Op.operands,Call.operands,hc,ea]) _ hx;obtain ⟨a,hsa⟩:=Qjr hbn hvs;obtain ⟨im',him',htr⟩:=hvx.top_inv;rw [him] at him';cases him';rcases htr.slice_inv with ⟨b,o',c',arr,ty,fl,h1,h2,h3,h4,h5,h6⟩ | ⟨h0,_⟩
 ·have hb:=hfm _ _ h4;obtain ⟨news,hnews⟩:∃news,news=(arr.toList.drop o').take (k * z):=⟨_,rfl⟩
  have hnl:news.length=k * z:=by
   rw [hnews,List.length_take,List.length_drop,Array.length_toList];have:∀j,j < k * z->o'+j < arr.size:=fun j hj=> h5 j (by omega)
   have:=this (k * z - 1) (by have:=Nat.mul_pos p1 hzp;omega);have:=Nat.mul_pos p1 hzp;omega
  have Qao:∀(j:Nat) u,news[j]? =some u->arr[o'+j]? =some u:=by
   intro j u hj;rw [hnews,List.getElem?_take] at hj;split at hj
   ·rw [List.getElem?_drop] at hj;simpa using hj
   ·cases hj
  have hcell:∀(j:Nat) u,news[j]? =some u->w.cell? ((⟨b,o',none⟩:Addr).add j)=some u:=by
   intro j u hj;rw [QbV];have:=Qao j u hj;simp [World.cell?,hb];exact this
  have hV:VRs μ cs' news.toArray:=by
   refine ⟨by rw [<-p5];simp [hnl,p4],fun j v v' hv hv'=> ?_⟩;rw [<-p5,Array.getElem?_map] at hv;cases hy:cs[j]? with
   | none=> rw [hy] at hv;cases hv
   | some y=>
     rw [hy] at hv;simp only [Option.map_some,YO] at hv;subst hv;exact Qht him (Array.all_eq_true'.1 p6 y (Array.mem_of_getElem? hy)) (h6 j y v' hy (Qao j v' (by simpa using hv')))
  have hrun:∃C,k<=C/\C<=maxLen/\(Builtin.append_ #[t,t] o.type #[fr.eval s,fr.eval x]).run P w=.ok (.slice (some ⟨w.heap.size,0,none⟩) k C) (w.drew.alloc (.cells (news.toArray++Builtin.zeroCells zv.cells (C - k)) e)):=by
   have hk63:(k:Int)<=9223372036854775807:=by simp only [maxLen] at p2;omega
   have hr0:=run_append_nil (P:=P) w t o.type e i zv hu hi hz ⟨b,o',none⟩ k c' news (by rw [hnl,hsz]) hcell p1 hk63 (by rw [hby];omega);refine ⟨grownCap w k 0 e,grownCap_ge w k 0 e,grownCap_le_maxLen w k 0 e p2, ?_⟩;rw [hsa,h1];cases a with
   | none=> exact hr0
   | some a=> rw [Qlo hu hi hz w a ⟨b,o',none⟩ k c' news (by rw [hnl,hsz]) hcell p1 p2 (by rw [hby];exact p3)];exact hr0
  obtain ⟨C,hC1,hC2,hrun⟩:=hrun;have hfn:=hf n (Nat.le_refl _) (by omega);have harr:(news.toArray++Builtin.zeroCells zv.cells (C - k)).size=C * z:=by
   rw [Array.size_append,size_zeroCells,hzs,List.size_toArray,hnl,<-Nat.add_mul];congr 1;omega
  refine ⟨.ret (.slice (some ⟨w.heap.size,0,none⟩) k C),_,_,QjH hok hS hfn none (fun _ h=> by cases h) w.heap.size (news.toArray++Builtin.zeroCells zv.cells (C - k)).size _ hB.le (by simp) (.inl (Nat.le_refl _)) (by simp) (fun b hb _=> Below.heap_alloc w.drew _ b hb) (.ofCells (heap_alloc_new w.drew _) ?_ rfl fun j v hv=> ?_) ⟨rfl,rfl,rfl⟩,.ret ?_,Qes hm ht ho hw (fun c h=> by rw [hop] at h;cases h) (w':=w.drew.alloc _) ?_⟩
  ·rw [Array.size_append];have:=hV.1;simp only [List.size_toArray] at this ⊢;omega
  ·obtain ⟨u,e1,e2⟩:=hV.get hv;have hj:j < news.toArray.size:=(Array.getElem?_eq_some_iff.1 e1).1;exact ⟨u,by rw [Array.getElem?_append_left hj];exact e1,e2.mono (QdT hfn)⟩
  ·refine .slice ⟨_,QaF,rfl,rfl⟩ hC1 hC2 (fun _ im him _ _=> ?_);rw [QaF] at him;cases him;exact harr.symm
  ·simp [execOp,hop,resolve,hc,invoke,builtin,ea,et,hrun]
 ·omega
theorem Qoa {sv:Value} {r k z by':Nat} {cs:Array Value} {e:TypeId} {zv:Value} (h:Qh8 P T o=some (sv,r,k,cs,e,z,by',zv)) (hlt:r < n) (hreg:QaJ (Qao H r)=true) (hk:k=0):
 Ql9 P B o (evC T) H n (.ret sv) H n [r] []:=by
 obtain ⟨c,s,x,t,i,hop,hc,ea,et,hs,hx,hbn,hu,hi,hz,hsz,hby,hzs,hzp⟩:=Qk6 h;refine QdO hlt hreg (fun c h=> by rw [hop] at h;cases h) fun μ w ρ im him hf hev=> ?_
 have hvs:=hev s (by simp [hop,Op.operands,Call.operands,hc,ea]) _ hs;have hvx:=hev x (by simp [hop,Op.operands,Call.operands,hc,ea]) _ hx;obtain ⟨a,hsa⟩:=Qjr hbn hvs;obtain ⟨im',him',htr⟩:=hvx.top_inv;rw [him] at him';cases him';subst hk;have hxx:∃b d,ρ x=.slice b 0 d:=by
  rcases htr.slice_inv with ⟨b,o',c',arr,ty,fl,h1,_⟩ | ⟨_,_,a',c',h1,_⟩
  ·exact ⟨_,_,h1⟩
  ·exact ⟨_,_,h1⟩
 obtain ⟨b,d,hxx⟩:=hxx;refine ⟨.slice a 0 0, ?_,by rw [<-hsa];exact hvs⟩;have hszp:QdK P e=some z:=by simp [QdK,QeX,hi,hsz]
 have hr:=Qky (ty:=o.type) hu hszp w a b 0 0 d (Nat.le_refl _);simp [execOp,hop,resolve,hc,invoke,builtin,ea,et,hsa,hxx,hr]
theorem Qrt {b off k r m z:Nat} {cs2:Array Value} (h:Qm2 P T o=some (b,off,k,r,m,cs2,z)):
 ∃c s x t t2 e s1,o.op=.call c/\c.callee=.builtin .copy/\c.args=#[s,x]/\c.argTypes=#[t,t2]/\evC T s=some (.slice (some ⟨b,off,none⟩) k s1)/\evC T x=some (Qaq r (slT m cs2))/\P.underlying t=some (.slice e)/\QdK P e=some z:=by
 unfold Qm2 at h;split at h
 ·rename_i c hop;split at h
  ·rename_i hc;split at h
   ·rename_i s x t t2 ha ht;split at h
    ·rename_i b' off' k' s1 xv hs hx;split at h
     ·rename_i r' m' cs' e' htop hu;split at h
      ·rename_i z' hz;simp only [YO,YR] at h;obtain ⟨rfl,rfl,rfl,rfl,rfl,rfl,rfl⟩:=h;rw [Qb9] at hu;exact ⟨c,s,x,t,t2,e',s1,hop,hc,by rw [<-ha],by rw [<-ht],hs,by rw [hx,QgD htop],hu,hz⟩
      ·cases h
     ·cases h
    ·cases h
   ·cases h
  ·cases h
 ·cases h
theorem Qo8 {b off k r m z:Nat} {cs cs2 cs':Array Value} {te:TypeId} (h:Qm2 P T o=some (b,off,k,r,m,cs2,z)) (hg:Qao H b=some (.cells cs te (0,0))) (hlt:r < n) (hreg:QaJ (Qao H r)=true) (hbn:b < n)
 (hp:0 < m/\off+Nat.min m k * z<=cs.size/\Nat.min m k * z<=cs2.size/\(cs2.all fun v=> simple v || QcT v)=true/\ones ((cs2.extract 0 (Nat.min m k * z)).map (Qce r))=true/\splice cs off ((cs2.extract 0 (Nat.min m k * z)).map (Qce r))=cs'):
 Ql9 P B o (evC T) H n (.ret (.int .i64 (Nat.min m k))) (QeO H b (.cells cs' te (0,0))) n [b,r] [b]:=by
 intro S μ w fr _ _ _ _ _ hok hB hS hf hev hR hm ht ho hw;obtain ⟨c,s,x,t,t2,e,s1,hop,hc,ea,et,hs,hx,hu,hz⟩:=Qrt h;obtain ⟨p0,h1,h2,p4,h3,rfl⟩:=hp;obtain ⟨xr,hxr,hr⟩:=Qby hreg;obtain ⟨imr,himr,hfm⟩:=hok.reg r xr (hR r (by simp) hlt) hxr hr;have hb:S b:=hR b (by simp) hbn;obtain ⟨im,him,hor⟩:=hok.rel b _ hb hg trivial;have hvs:=hev s (by simp [hop,Op.operands,Call.operands,hc,ea]) _ hs;have hvx:=hev x (by simp [hop,Op.operands,Call.operands,hc,ea]) _ hx;obtain ⟨imr',himr',htr⟩:=hvx.top_inv;rw [himr] at himr';cases himr';generalize hsv:fr.eval s=sv at hvs;cases hvs with
 | slice har q1 q2 q3=>
   obtain ⟨im',him',_,rfl⟩:=har;simp only at him';rw [him] at him';cases him';rcases htr.slice_inv with ⟨b2,o',c',arr2,ty,fl,g1,g2,g3,g4,g5,g6⟩ | ⟨h0,_⟩
   ·have hb2:=hfm _ _ g4;have hcell:∀j,j < Nat.min m k * z->w.cell? ((⟨b2,o',none⟩:Addr).add j)=some (arr2.getD (o'+j) undef):=by
     intro j hj;have hlt2:=g5 j (by omega);rw [QbV];simp [World.cell?,hb2,hlt2]
    have hload:=run_loadCells (P:=P) w ⟨b2,o',none⟩ (Nat.min m k * z) (fun j=> arr2.getD (o'+j) undef) hcell;generalize hxsd:(((Array.range (Nat.min m k * z)).map fun j=> arr2.getD (o'+j) undef):Array Value)=xs0;obtain ⟨xs,hload,hxs⟩:∃xs,(loadCells ⟨b2,o',none⟩ (Nat.min m k * z)).run P w=.ok xs w/\VRs μ ((cs2.extract 0 (Nat.min m k * z)).map (Qce r)) xs:=by
     refine ⟨_,hload,⟨by simp;omega,fun i v v' hv hv'=> ?_⟩⟩;rw [Array.getElem?_map] at hv;cases hy:(cs2.extract 0 (Nat.min m k * z))[i]? with
     | none=> rw [hy] at hv;cases hv
     | some y=>
       rw [hy] at hv;simp only [Option.map_some,YO] at hv;subst hv;rw [Array.getElem?_extract] at hy;split at hy
       ·rename_i hlt3;have hi:i < Nat.min m k * z:=by omega
        have hy2:cs2[i]? =some y:=by simpa using hy
        simp [hi] at hv';have hlt2:=g5 i (by omega);refine Qht himr (Array.all_eq_true'.1 p4 y (Array.mem_of_getElem? hy2)) (g6 i y v' hy2 ?_);rw [<-hv'];simp [hlt2]
       ·cases hy
    have hxsz:xs.size=Nat.min m k * z:=by rw [<-hxs.1];simp;omega
    have hexsz:((cs2.extract 0 (Nat.min m k * z)).map (Qce r)).size=Nat.min m k * z:=by simp;omega
    rcases hor with ⟨_,hrw,hoo,arr,ha,hle,hcap,hcs⟩ | ⟨hz0,_⟩
    ·have hst:=run_storeCells_at (P:=P) im.blk off te xs.toList 0 arr w ha (by simp [hxsz];omega) (hxs.ones h3);simp only [Nat.add_zero] at hst;refine ⟨.ret (.int .i64 (Nat.min m k)),w.setRow im.blk (CE.splice arr off xs),μ,Post.write hok hS b _ (.cells (CE.splice cs off ((cs2.extract 0 (Nat.min m k * z)).map (Qce r))) te (0,0)) im hb hg trivial him hrw (w':=w.setRow im.blk (CE.splice arr off xs)) ?_ ?_ ?_ ⟨rfl,rfl,rfl⟩,.ret (.int _ _),Qes hm ht ho hw (fun c h=> by rw [hop] at h;cases h) ?_⟩
     ·simp [World.setRow]
     ·intro y hy;exact setRow_other w im.blk y _ hy
     ·refine .inl ⟨rfl,hrw,hoo,CE.splice arr off xs,setRow_heap w im.blk arr _ te _ ha, ?_, ?_, ?_⟩
      ·rw [QbU (by rw [hexsz];omega),QbU (by rw [hxsz];omega)];exact hle
      ·rw [QbU (by rw [hxsz];omega)];exact hcap
      ·exact VRs.splice (by rw [hexsz];omega) hle hcs hxs
     ·simp [execOp,hop,resolve,hc,invoke,builtin,ea,et,hsv,g1,Builtin.copy_,Builtin.lenOf,Builtin.firstCells,Sem.run_bind,Sem.run_pure,Result.andThen_ok,run_underlying hu,Qbl hz,hload,hoo,hst,CE.splice,goInt]
    ·exact absurd rfl hz0
   ·omega
theorem QoU (hF:∀g,F g=true->Qa3 P g=true) (hJ:∀w,B.has w->J w) (hu:Under H n) {h:Option Qai} {a:Told} (e:opT P F J B T o H n h=some a) (hp:∀p,a.p=some p->p):
 Ql9 P B o (evC T) H n a.s.out a.s.H a.s.n a.s.R a.s.W/\Shape H n a.s.H a.s.n a.s.R a.s.W:=by
 unfold opT at e;split at e
 ·split at e
  ·rename_i v r htr;cases hq:(Nat.blt r n && QaJ (Qao H r)) with
   | false=> rw [hq] at e;cases e
   | true=>
     rw [hq] at e;simp only [cond_true,YO] at e;subst e;simp only [YB] at hq;exact ⟨QoI htr (YL hq.1) hq.2,Shape.same _ _ _⟩
  ·exact QpD hF hu e hp
 ·exact QpD hF hu e hp
 ·rename_i k es;split at e
  ·rename_i t x i hop;split at e
   ·rename_i u kk q hx hi;split at e
    ·rename_i r m cs el htop hue;split at e
     ·rename_i z hz;cases hq:(Nat.blt r n && QaJ (Qao H r)) with
      | false=> rw [hq] at e;cases e
      | true=>
        rw [hq] at e;simp only [cond_true,YO] at e;subst e;simp only [YB] at hq;obtain ⟨hlt,hreg⟩:=hq;obtain ⟨hqk,hkm,hes⟩:=hp _ rfl;refine ⟨QdO (YL hlt) hreg (fun c h=> by rw [hop] at h;cases h) fun μ w ρ im him hf hev=> ?_,Shape.same _ _ _⟩;have hv:=hev x (by simp [hop,Op.operands]) _ hx;have hiv:=Qpn (hev i (by simp [hop,Op.operands]) _ hi);rw [QgD htop] at hv;obtain ⟨im',him',htr⟩:=hv.top_inv;rw [him] at him';cases him';have hcase:=htr.slice_inv;rcases hcase with ⟨b,o',c',arr,ty,fl,h1,h2,h3,h4,h5,h6⟩ | ⟨rfl,_⟩
        ·have hess:k * z+es.size<=cs.size\/es.size=0:=by rw [<-hes];simp;omega
         refine ⟨.pointer (some ⟨b,o'+k * z,none⟩),by simp [execOp,hop,h1,hiv,Qpb hue hz hqk hkm],.top rfl him ?_⟩;refine TRv.ptr (o:=o'+k * z) (off:=0) h4 (fun i hi=> ?_) fun i v v' hv hv'=> ?_
         ·have:=h5 (k * z+i) (by omega);omega
         ·rw [<-hes,Array.getElem?_extract] at hv;split at hv
          ·refine h6 (k * z+i) v v' hv ?_;rw [<-hv',Nat.add_assoc]
          ·cases hv
        ·omega
     ·cases e
    ·cases e
   ·cases e
  ·cases e
 ·rename_i k es;split at e
  ·rename_i t x i hop;split at e
   ·rename_i u kk q hx hi;split at e
    ·rename_i r off cs m el htop hue;split at e
     ·rename_i z hz;cases hq:(Nat.blt r n && QaJ (Qao H r)) with
      | false=> rw [hq] at e;cases e
      | true=>
        rw [hq] at e;simp only [cond_true,YO] at e;subst e;simp only [YB] at hq;obtain ⟨hlt,hreg⟩:=hq;obtain ⟨hqk,hkm,hes⟩:=hp _ rfl;refine ⟨QdO (YL hlt) hreg (fun c h=> by rw [hop] at h;cases h) fun μ w ρ im him hf hev=> ?_,Shape.same _ _ _⟩;have hv:=hev x (by simp [hop,Op.operands]) _ hx;have hiv:=Qpn (hev i (by simp [hop,Op.operands]) _ hi);rw [QmY htop] at hv;obtain ⟨im',him',htr⟩:=hv.top_inv;rw [him] at him';cases him';obtain ⟨b,o',arr,ty,fl,h1,h2,h3,h4⟩:=htr.ptr_inv;refine ⟨.pointer (some ⟨b,o'+off+k * z,none⟩),by simp [execOp,hop,h1,hiv,Qin hue hz hqk hkm],.top rfl him ?_⟩;rw [Nat.add_assoc o'];refine TRv.ptr (o:=o'+(off+k * z)) (off:=0) h2 (fun i hi=> ?_) fun i v v' hv hv'=> ?_
        ·have hsz:es.size<=cs.size - (off+k * z):=by rw [<-hes];simp;omega
         have:=h3 (off+k * z+i) (by omega);omega
        ·rw [<-hes,Array.getElem?_extract] at hv;split at hv
         ·refine h4 (off+k * z+i) v v' hv ?_;rw [<-hv',Nat.add_assoc o']
         ·cases hv
     ·cases e
    ·cases e
   ·cases e
  ·cases e
 ·rename_i k m' cs';split at e
  ·rename_i t x lo hop;split at e
   ·rename_i u kk q hx hi;split at e
    ·rename_i r m cs el htop hue;split at e
     ·rename_i z hz;cases hq:(Nat.blt r n && QaJ (Qao H r)) with
      | false=> rw [hq] at e;cases e
      | true=>
        rw [hq] at e;simp only [cond_true,YO] at e;subst e;simp only [YB] at hq;obtain ⟨hlt,hreg⟩:=hq;obtain ⟨hqk,hkm,hm',hes⟩:=hp _ rfl;refine ⟨QdO (YL hlt) hreg (fun c h=> by rw [hop] at h;cases h) fun μ w ρ im him hf hev=> ?_,Shape.same _ _ _⟩;have hv:=hev x (by simp [hop,Op.operands]) _ hx;have hiv:=Qpn (hev lo (by simp [hop,Op.operands]) _ hi);rw [QgD htop] at hv;obtain ⟨im',him',htr⟩:=hv.top_inv;rw [him] at him';cases him';have hcase:=htr.slice_inv;rcases hcase with ⟨b,o',c',arr,ty,fl,h1,h2,h3,h4,h5,h6⟩ | ⟨rfl,_⟩
        ·refine ⟨.slice (some ⟨b,o'+k * z,none⟩) (m - k) (c' - k),by simp [execOp,hop,h1,hiv,QrO hue hz hqk hkm h2],.top rfl him ?_⟩;rw [hm'];refine TRv.slice (o:=o'+k * z) (by omega) (by omega) h4 (fun i hi=> ?_) fun i v v' hv hv'=> ?_
         ·rw [<-hes,Array.size_extract] at hi;have:=h5 (k * z+i) (by omega);omega
         ·rw [<-hes,Array.getElem?_extract] at hv;split at hv
          ·refine h6 (k * z+i) v v' hv ?_;rw [<-hv',Nat.add_assoc]
          ·cases hv
        ·omega
     ·cases e
    ·cases e
   ·cases e
  ·cases e
 ·rename_i cs';split at e
  ·rename_i u1 r k cs el z by' u2 hta
   cases hq:(Nat.blt r n && QaJ (Qao H r)) with
   | false=> rw [hq] at e;cases e
   | true=>
     rw [hq] at e;simp only [cond_true,YO] at e;subst e;simp only [YB] at hq;exact ⟨QpO hta (YL hq.1) hq.2 (hp _ rfl),Shape.new _ _ _ _⟩
  ·cases e
 ·split at e
  ·rename_i sv r k cs el z by' u2 hta
   cases hq:(Nat.blt r n && QaJ (Qao H r)) with
   | false=> rw [hq] at e;cases e
   | true=>
     rw [hq] at e;simp only [cond_true,YO] at e;subst e;simp only [YB] at hq;exact ⟨Qoa hta (YL hq.1) hq.2 (hp _ rfl),Shape.same _ _ _⟩
  ·cases e
 ·rename_i cs';split at e
  ·rename_i b off k r m cs2 z hta;split at e
   ·rename_i cs te hg;cases hq:(Nat.blt r n && QaJ (Qao H r) && Nat.blt b n) with
    | false=> rw [hq] at e;cases e
    | true=>
      rw [hq] at e;simp only [cond_true,YO] at e;subst e;simp only [YB] at hq;have hb:=YL hq.2;exact ⟨Qo8 hta hg (YL hq.1.1) hq.1.2 hb (hp _ rfl),(Shape.set _ hb).moreR (fun i hi=> by simp at hi ⊢;exact .inl hi)⟩
   ·cases e
  ·cases e
 ·rename_i s;simp only [YO] at e;subst e;exact QdV hF Qeq (Qaz P B) hu (hp _ rfl)
 ·rename_i v;split at e
  ·rename_i op t x y yt hop;split at e
   ·rename_i a b hx hy;cases hq:(af a && af b && af v) with
    | false=> rw [hq] at e;cases e
    | true=>
      rw [hq] at e;simp only [cond_true,YO] at e;subst e;simp only [YB] at hq;have hb:=hp _ rfl;refine ⟨Qdi (fun c h=> by rw [hop] at h;cases h) fun μ w ρ _ hev=> ?_,Shape.same _ _ _⟩;have e1:=QiB hq.1.1 (hev x (by simp [hop,Op.operands]) _ hx);have e2:=QiB hq.1.2 (hev y (by simp [hop,Op.operands]) _ hy);refine ⟨v, ?_,Qhu hq.2⟩;simp only [execOp,hop,e1,e2];rw [Sem.run_bind,hb x y w];rfl
   ·cases e
  ·cases e
 ·rename_i keys out ups n' W;split at e
  ·rename_i c hop;split at e
   ·rename_i g args H1 n1 R W1 hcr;cases hn:(Nat.beq n1 n && W1.isEmpty) with
    | false=> rw [hn] at e;cases e
    | true=>
      rw [hn] at e;simp only [cond_true] at e;simp only [YB,List.isEmpty_iff] at hn;obtain ⟨hn1,rfl⟩:=hn;have hn1:=YE hn1;subst hn1;split at e
      ·rename_i c1 hc1;simp only [YO] at e;subst e;exact QeC hF hop hu hcr ((hp _ rfl).callJ hc1)
      ·cases e
   ·rename_i l fn tm cda cdb H1 n1 R W1 hcr;cases hn:(Nat.beq n1 n && W1.isEmpty && Nat.ble tm.size 16000) with
    | false=> rw [hn] at e;cases e
    | true=>
      rw [hn] at e;simp only [cond_true,YO] at e;subst e;simp only [YB,List.isEmpty_iff] at hn;obtain ⟨⟨hn1,rfl⟩,hsz⟩:=hn;have hn1:=YE hn1;subst hn1;have hrec:=FJ.recS (hp _ rfl);have:=QdV hF hrec (Qaz P B) hu (T:=T) (o:=o) (s:=⟨out,ups++H1,n',R++keys,W⟩) (by
       simp [opS,hop,hcr,hsz,Qfx])
      exact this
   ·cases e
  ·cases e
 ·rename_i out fz;split at e
  ·rename_i c hop;split at e
   ·rename_i g args H1 n1 R W1 hcr;cases hn:(Nat.beq n1 n && W1.isEmpty) with
    | false=> rw [hn] at e;cases e
    | true=>
      rw [hn] at e;simp only [cond_true] at e;simp only [YB,List.isEmpty_iff] at hn;obtain ⟨hn1,rfl⟩:=hn;have hn1:=YE hn1;subst hn1;split at e
      ·rename_i ts R2 L hst;cases hlt:(R2.all fun i=> Nat.blt i n1) with
       | false=> rw [hlt] at e;cases e
       | true=>
         rw [hlt] at e;simp only [cond_true] at e;cases hpl:Qii 2 out with
         | true=>
           rw [hpl] at e;simp only [cond_true,YO] at e;subst e;obtain ⟨hL,hpc⟩:=hp _ rfl;exact QeC hF hop hu hcr (Qud hJ hst hL hpc hpl hlt)
         | false=>
           rw [hpl] at e;simp only [cond_false] at e;cases hq:((R2.all fun i=> QaJ (Qao H1 i)) && okT 4 out) with
           | false=> rw [hq] at e;cases e
           | true=>
             rw [hq] at e;simp only [cond_true,YO] at e;subst e;simp only [YB] at hq;obtain ⟨hL,hpc⟩:=hp _ rfl;exact QeC hF hop hu hcr (Qqi hJ hst hL hpc hlt hq.1 hq.2)
      ·cases e
   ·cases e
  ·cases e
 ·rename_i out fz;split at e
  ·rename_i c hop;split at e
   ·rename_i g args H1 n1 R W1 hcr;cases hn:(Nat.beq n1 n && W1.isEmpty) with
    | false=> rw [hn] at e;cases e
    | true=>
      rw [hn] at e;simp only [cond_true] at e;simp only [YB,List.isEmpty_iff] at hn;obtain ⟨hn1,rfl⟩:=hn;have hn1:=YE hn1;subst hn1;split at e
      ·rename_i ts R2 L hst;cases hq:((R2.all fun i=> Nat.blt i n1) && (R2.all fun i=> QaJ (Qao H1 i) || Qje (Qao H1 i)) && okT 4 out) with
       | false=> rw [hq] at e;cases e
       | true=>
         rw [hq] at e;simp only [cond_true,YO] at e;subst e;simp only [YB] at hq;obtain ⟨hL,hpc⟩:=hp _ rfl;exact QeC hF hop hu hcr (Qpl hJ hst hL hpc hq.1.1 hq.1.2 hq.2)
      ·cases e
   ·cases e
  ·cases e
 ·rename_i κ R ps qs out outs news;split at e
  ·rename_i c hop;split at e
   ·rename_i g args H1 n1 R0 W1 hcr;cases hn:(Nat.beq n1 n && W1.isEmpty) with
    | false=> rw [hn] at e;cases e
    | true=>
      rw [hn] at e;simp only [cond_true] at e;simp only [YB,List.isEmpty_iff] at hn;obtain ⟨hn1,rfl⟩:=hn;have hn1:=YE hn1;subst hn1;split at e
      ·rename_i as bs o1 ups L hw;simp only [YO] at e;subst e;obtain ⟨hL,hwr⟩:=hp _ rfl;exact QeC hF hop hu hcr (hwr.callJ hJ κ R ps qs hw hL rfl rfl)
      ·cases e
   ·cases e
  ·cases e
end
end Go.CE

namespace Go.CE
open Go Go.RowKit

abbrev Qax:=List (Nat×Qai)
def Q3O (sc:Qax) (q:Nat):Option Qai×Qax:=match sc with
 | (k,h)::l=> bif Nat.beq k q then (some h,l) else (none,sc)
 | []=> (none,[])
structure RRT where
 recs:List Rec
 T:Tm
 H:Qan
 n:Nat
 sc:Qax
 q:Nat
 L:List Prop
 pan:Option (Value×List Nat×List Nat)
def QmQ (P:Program) (F:FuncId->Bool) (J:World->Prop) (B:Lo) (ops:Array Oper):List Oper->Tm->Qan->Nat->Qax->Nat->List Prop->Option RRT
 | [],T,H,n,sc,q,L=> some ⟨[],T,H,n,sc,q,L,none⟩
 | o::l,T,H,n,sc,q,L=>
   bif Qg4 T o.dst then
    bif Region.wanted o (QaU ops T) then
     match Q3O sc q with
     | (h,sc')=> match opT P F J B T o H n h with
       | some ⟨⟨.ret v,H1,n1,R,W⟩,p⟩=> match QmQ P F J B ops l (QeV T o.dst v) H1 n1 sc' (q+1) (more p L) with
         | some r=> some {r with recs:=⟨o,true,v,T,H,H1,n,n1,R,W⟩::r.recs}
         | none=> none
       | some ⟨⟨.pan v,H1,n1,R,W⟩,p⟩=> some ⟨[],T,H1,n1,sc',q+1,more p L,some (v,R,W)⟩
       | none=> none
    else match QmQ P F J B ops l (QeV T o.dst undef) H n sc (q+1) L with
     | some r=> some {r with recs:=⟨o,false,undef,T,H,H,n,n,[],[]⟩::r.recs}
     | none=> none
   else none
def Q15 (P:Program) (F:FuncId->Bool) (B:Lo) (c:CF) (H:Qan) (n:Nat) (f:Operand) (params:Array Tmp) (assign body:Code) (k:List Item) (keys:List Nat) (out:OO) (ups:Qan) (n':Nat) (W:List Nat):Option (CF×Qan×Prop):=
 match evC c.tmps f with
 | some fv=> match Qdj c H n params assign body with
   | some (H1,l,ds,_)=> match Qhh F H1 fv #[.func (.yield l) #[] #[]] with
     | some (.enter g args,_)=> match QbQ P g args with
       | some c1=> match out with
         | .ret _=> some ({c with todo:=.endRangeFunc l::k,defers:=ds++c.defers},ups++H1,FJ P B c1 H1 (l+1) out (ups++H1) n' keys W)
         | .pan v=> some ({c with mode:=.pan v,defers:=ds++c.defers},ups++H1,FJ P B c1 H1 (l+1) out (ups++H1) n' keys W)
       | none=> none
     | _=> none
   | none=> none
 | none=> none
def Qam (P:Program) (F:FuncId->Bool) (J:World->Prop) (B:Lo):Nat->Nat->CF->Qan->Nat->Qax->Nat->List Nat->List Prop->Option ST
 | 0,_,c,H,n,_,_,W,L=> some ⟨.at c H n,W,L⟩
 | k+1,b,c,H,n,sc,q,W,L=>
   match c.mode,c.todo with
   | .run,.code (.region _ ops draw)::todo=> match QmQ P F J B ops ops.toList c.tmps H n sc q L with
     | some r=> match r.pan with
       | none=> bif !draw || (Qcw 0 ops.toList && indep ops 0 r.recs (QiG ops.toList [])) then Qam P F J B k b {c with tmps:=r.T,todo:=todo} r.H r.n r.sc r.q (Qdf b (QeY r.recs) W) r.L else none
       | some (v,_,W1)=> bif !draw || Qg0 ops r.recs r.T then Qam P F J B k b {c with tmps:=r.T,mode:=.pan v} r.H r.n r.sc r.q (Qdf b (QeY r.recs++W1) W) r.L else none
     | none=> none
   | .run,.code (.rangeFunc f params assign body)::todo=> match Q3O sc q with
     | (some (.old (.call keys out ups n1 W1)),sc')=> match Q1B P F B c H n f params assign body todo keys out ups n1 W1 with
       | some (c',H',p)=> Qam P F J B k b c' H' n1 sc' q (Qdf b W1 W) (p::L)
       | none=> none
     | (some (.call keys out ups n1 W1),sc')=> match Q15 P F B c H n f params assign body todo keys out ups n1 W1 with
       | some (c',H',p)=> Qam P F J B k b c' H' n1 sc' q (Qdf b W1 W) (p::L)
       | none=> none
     | _=> none
   | _,_=> match Qg9 P F QaK (fun _ _ _=> none) c H n with
     | some (.go c' H' n' _ W')=> Qam P F J B k b c' H' n' sc q (Qdf b W' W) L
     | some (.done out H' n' _ W')=> some ⟨.fin out H' n',Qdf b W' W,L⟩
     | none=> none
section
variable {P:Program} {F:FuncId->Bool} {J:World->Prop} {B:Lo}
theorem Qe4 {ops:Array Oper}:∀(l:List Oper) (T:Tm) (H:Qan) (n:Nat) (sc:Qax) (q:Nat) (L:List Prop) (r:RRT),QmQ P F J B ops l T H n sc q L=some r->Qa2 r.L->Qa2 L
 | [],T,H,n,sc,q,L,r,h,ha=> by
   simp only [QmQ,YO] at h;subst h;exact ha
 | o::l,T,H,n,sc,q,L,r,h,ha=> by
   simp only [QmQ] at h;cases hd:Qg4 T o.dst with
   | false=> rw [hd] at h;cases h
   | true=>
     rw [hd] at h;simp only [cond_true] at h;cases hw:Region.wanted o (QaU ops T) with
     | true=>
       rw [hw] at h;simp only [cond_true] at h;split at h
       ·rename_i v H1 n1 R W p hop;split at h
        ·rename_i r' hr;simp only [YO] at h;subst h;exact (QiK (Qe4 l _ _ _ _ _ _ r' hr ha)).2
        ·cases h
       ·simp only [YO] at h;subst h;exact (QiK ha).2
       ·cases h
     | false=>
       rw [hw] at h;simp only [cond_false] at h;split at h
       ·rename_i r' hr;simp only [YO] at h;subst h;exact Qe4 l _ _ _ _ _ _ r' hr ha
       ·cases h
def RegOk (P:Program) (B:Lo) (ops:Array Oper) (l:List Oper) (T:Tm) (H:Qan) (n:Nat) (r:RRT):Prop:=match r.pan with
 | none=> Qe1 r.recs T H n r.T r.H r.n/\r.recs.map (·.o)=l/\Under r.H r.n
 | some (v,R,W)=> ∃H1 n1 o l2,Qe1 r.recs T H n r.T H1 n1/\r.recs.map (·.o)++o::l2=l/\Region.wanted o (QaU ops r.T)=true/\Ql9 P B o (evC r.T) H1 n1 (.pan v) r.H r.n R W/\Shape H1 n1 r.H r.n R W/\Under r.H r.n
theorem RegOk.cons {ops:Array Oper} {l:List Oper} {T:Tm} {H:Qan} {n:Nat} {r:RRT} {x:Rec} (h:RegOk P B ops l (QeV T x.o.dst x.v) x.H' x.n' r) (hT:x.T=T) (hH:x.H=H) (hn:x.n=n):RegOk P B ops (x.o::l) T H n {r with recs:=x::r.recs}:=by
 unfold RegOk at h ⊢;cases hp:r.pan with
 | none=>
   rw [hp] at h;obtain ⟨h3,h4,h5⟩:=h;exact ⟨⟨hT,hH,hn,h3⟩,by simp [h4],h5⟩
 | some p=>
   obtain ⟨v,R,W⟩:=p;rw [hp] at h;obtain ⟨H1,n1,o,l2,h1,h2,h3⟩:=h;exact ⟨H1,n1,o,l2,⟨hT,hH,hn,h1⟩,by simp [h2],h3⟩
theorem QeP (hF:∀g,F g=true->Qa3 P g=true) (hJ:∀w,B.has w->J w) {ops:Array Oper} {len:Nat}:∀(l:List Oper) (T:Tm) (H:Qan) (n:Nat) (sc:Qax) (q:Nat) (L:List Prop) (r:RRT),T.len=len->Under H n->QmQ P F J B ops l T H n sc q L=some r->Qa2 r.L->
 (∀x∈r.recs,QpQ len x)/\(∀x∈r.recs,QgS P B ops x)/\RegOk P B ops l T H n r
 | [],T,H,n,sc,q,L,r,hl,hu,h,ha=> by
   simp only [QmQ,YO] at h;subst h;exact ⟨fun r hr=> by simp at hr,fun r hr=> by simp at hr,⟨rfl,rfl,rfl⟩,rfl,hu⟩
 | o::l,T,H,n,sc,q,L,r,hl,hu,h,ha=> by
   simp only [QmQ] at h;cases hd:Qg4 T o.dst with
   | false=> rw [hd] at h;cases h
   | true=>
     have hdst:=Qe6 hd;rw [hl] at hdst;rw [hd] at h;simp only [cond_true] at h;cases hw:Region.wanted o (QaU ops T) with
     | true=>
       rw [hw] at h;simp only [cond_true] at h;split at h
       ·rename_i v H1 n1 R W p hop;split at h
        ·rename_i r' hr;simp only [YO] at h;subst h;have hpL:=QiK (Qe4 l _ _ _ _ _ _ r' hr ha);obtain ⟨hdo,hsh⟩:=QoU hF hJ hu hop hpL.1;obtain ⟨h1,h2,h3⟩:=QeP hF hJ (ops:=ops) (len:=len) l (QeV T o.dst v) H1 n1 _ _ _ r' (by rw [Qdh];exact hl) (hu.shape hsh) hr ha;refine ⟨fun x hx=> ?_,fun x hx=> ?_,RegOk.cons (x:=⟨o,true,v,T,H,H1,n,n1,R,W⟩) h3 rfl rfl rfl⟩
         ·rcases List.mem_cons.1 hx with rfl | hx
          ·exact ⟨hsh.le,hsh.keep,hsh.top,hsh.sub,hsh.wlt,hdst⟩
          ·exact h1 x hx
         ·rcases List.mem_cons.1 hx with rfl | hx
          ·exact ⟨hw.symm,(fun _=> hdo),(fun e=> by cases e)⟩
          ·exact h2 x hx
        ·cases h
       ·rename_i v H1 n1 R W p hop;simp only [YO] at h;subst h;obtain ⟨hdo,hsh⟩:=QoU hF hJ hu hop (QiK ha).1;exact ⟨fun r hr=> by simp at hr,fun r hr=> by simp at hr,H,n,o,l,⟨rfl,rfl,rfl⟩,rfl,hw,hdo,hsh,hu.shape hsh⟩
       ·cases h
     | false=>
       rw [hw] at h;simp only [cond_false] at h;split at h
       ·rename_i r' hr;simp only [YO] at h;subst h;obtain ⟨h1,h2,h3⟩:=QeP hF hJ (ops:=ops) (len:=len) l (QeV T o.dst undef) H n _ _ _ r' (by rw [Qdh];exact hl) hu hr ha;refine ⟨fun x hx=> ?_,fun x hx=> ?_,RegOk.cons (x:=⟨o,false,undef,T,H,H,n,n,[],[]⟩) h3 rfl rfl rfl⟩
        ·rcases List.mem_cons.1 hx with rfl | hx
         ·exact ⟨Nat.le_refl _,fun _ _ _=> rfl,fun _ _=> rfl,fun i hi=> by simp at hi,fun i hi=> by simp at hi,hdst⟩
         ·exact h1 x hx
        ·rcases List.mem_cons.1 hx with rfl | hx
         ·exact ⟨hw.symm,(fun e=> by cases e),fun _=> ⟨rfl,rfl,rfl,rfl⟩⟩
         ·exact h2 x hx
       ·cases h
theorem Ql1 {c:CF} {H:Qan} {n:Nat} {id:Nat} {ops:Array Oper} {k:List Item} {recs:List Rec} {v:Value} {H':Qan} {n':Nat} {R W:List Nat} {T':Tm} (hm:c.mode=.run)
 (ht:c.todo=.code (.region id ops false)::k) (hs:∀x∈recs,QpQ c.tmps.len x) (hk:∀x∈recs,QgS P B ops x)
 (h:∃H1 n1 o l2,Qe1 recs c.tmps H n T' H1 n1/\recs.map (·.o)++o::l2=ops.toList/\Region.wanted o (QaU ops T')=true/\Ql9 P B o (evC T') H1 n1 (.pan v) H' n' R W/\Shape H1 n1 H' n' R W/\Under H' n'):
 GoJ P B c H n {c with tmps:=T',mode:=.pan v} H' n' (QgJ recs++R) (QeY recs++W):=by
 obtain ⟨H1,n1,o,l2,hch,hmap,hwant,hdo,hsh,_⟩:=h;have hown:=Qdd (l2:=o::l2) hmap rfl;have hlen:ops.size=recs.length+(l2.length+1):=by have:=congrArg List.length hmap;simp at this;omega
 have hat:ops[recs.length]? =some o:=by
  rw [<-Array.getElem?_toList,<-hmap,List.getElem?_append_right (by simp)];simp
 have hsh1:=Qb7 recs _ _ _ _ _ _ hch hs;have l1:=hsh1.le;have l3:=hsh.le;refine ⟨hsh1.trans hsh,fun S μ w fr cs Z hok hB hS hf hfr hR=> ?_⟩;obtain ⟨a,b,d⟩:=hfr.running hm;rw [ht] at d;obtain ⟨L',e,hL⟩:=d.code;have hf1:QiU μ n n1:=fun q x y=> hf q x (by omega)
 obtain ⟨μ1,A1,w1,hp,hT,hst⟩:=QhF (fr:=fr) (cs:=cs) (k:=L') a recs 0 c.tmps H n T' H1 n1 (List.range' recs.length (l2.length+1)) hch hs hk (fun j r hj=> by rw [Nat.zero_add];exact hown j r hj) rfl S μ w fr.tmps hok hB hS hf1
  (fun q hq hlt=> hR q (List.mem_append_left _ hq) hlt) b
 have hr:List.range' 0 recs.length++List.range' recs.length (l2.length+1)=List.range' 0 ops.size:=by
  rw [hlen];have:=List.range'_append_1 (s:=0) (m:=recs.length) (n:=l2.length+1);simpa using this
 rw [hr,List.range'_succ] at hst;obtain ⟨out',w2,μ2,hp2,ho,hst2⟩:=hdo _ μ1 w1 (QaO fr A1 ops (recs.length::List.range' (recs.length+1) l2.length) L') cs L' ops recs.length _ hp.ok (hB.post hok hp) (fun q hq=> hq.elim (fun e=> by have:=hS q e;omega) (fun e=> e.2))
  (fun q x y=> by rw [hp.ext q (by omega)];exact hf q (by omega) y) (fun x _ v hv=> Qua (fr:=QaO fr A1 ops (recs.length::List.range' (recs.length+1) l2.length) L') hT x v hv) (fun q hq hlt=> by
   rcases Nat.lt_or_ge q n with h1 | h1
   ·exact .inl (hR q (List.mem_append_right _ hq) h1)
   ·exact .inr ⟨h1,hlt⟩) a rfl hat (by rw [show (QaO fr A1 ops (recs.length::List.range' (recs.length+1) l2.length) L').tmps=A1 from rfl,Qd7 hT];exact hwant)
 have hpp:=hp.trans hp2;cases ho with
 | pan hv=>
   rename_i v';refine ⟨{QaO fr A1 ops (recs.length::List.range' (recs.length+1) l2.length) L' with mode:=.panicking [{v:=v',recovered:=false}]},w2,μ2,hpp,⟨hfr.fn,hT.mono (hp2.mu fun q x y=> by rw [hp.ext q (by omega)];exact hf q (by omega) y),(fun h=> by cases h),hfr.defers.mono (hpp.mu hf),.pan hv,hfr.kind,hfr.round.mono (hpp.mu hf)⟩,rfl,rfl,
    .head (QbB a e) (hst.trans (hst2.trans ?_))⟩
   simp only [OO.on,Frame.raise,QaO,a];exact Steps.refl _ _
theorem Qr0 (hF:∀g,F g=true->Qa3 P g=true) (hmix:P.follows .mixedOrders=true) {c c':CF} {H H':Qan} {n n':Nat} {f:Operand} {params:Array Tmp} {assign body:Code} {k:List Item} {keys W:List Nat} {out:OO} {ups:Qan} {p:Prop} (hu:Under H n) (hm:c.mode=.run) (ht:c.todo=.code (.rangeFunc f params assign body)::k)
 (h:Q15 P F B c H n f params assign body k keys out ups n' W=some (c',H',p)) (hp:p):∃R,GoJ P B c H n c' H' n' R W:=by
 unfold Q15 at h;split at h
 ·rename_i fv hfv;split at h
  ·rename_i H1 l ds R1 ho;split at h
   ·rename_i g args R2 hc;split at h
    ·rename_i c1 he;refine ⟨R1++R2++keys, ?_⟩;split at h
     ·rename_i v;simp only [YO,YR] at h;obtain ⟨rfl,rfl,rfl⟩:=h;have:Qg9 P F QaK (QgI c1 H1 (l+1) ⟨.ret v,ups++H1,n',keys,W⟩) c H n=some (.go {c with todo:=.endRangeFunc l::k,defers:=ds++c.defers} (ups++H1) n' (R1++R2++keys) W):=by
       unfold Qg9;simp only [hm,ht,hfv,ho,hc,he,Qfx]
      exact Qcr hF hmix (Qaz P B) (FJ.recS hp) hu this
     ·rename_i v;simp only [YO,YR] at h;obtain ⟨rfl,rfl,rfl⟩:=h;have:Qg9 P F QaK (QgI c1 H1 (l+1) ⟨.pan v,ups++H1,n',keys,W⟩) c H n=some (.go {c with mode:=.pan v,defers:=ds++c.defers} (ups++H1) n' (R1++R2++keys) W):=by
       unfold Qg9;simp only [hm,ht,hfv,ho,hc,he,Qfx]
      exact Qcr hF hmix (Qaz P B) (FJ.recS hp) hu this
    ·cases h
   ·cases h
  ·cases h
 ·cases h
theorem QfN (b:Nat):∀(fuel:Nat) (c:CF) (H:Qan) (n:Nat) (sc:Qax) (q:Nat) (W0:List Nat) (L:List Prop) (s:ST),Qam P F J B fuel b c H n sc q W0 L=some s->Qa2 s.L->Qa2 L:=by
 intro fuel;induction fuel with
 | zero=> intro c H n sc q W0 L s h ha;simp only [Qam,YO] at h;subst h;exact ha
 | succ k ih=>
   intro c H n sc q W0 L s h ha;simp only [Qam] at h;split at h
   ·split at h
    ·rename_i r' hr';split at h
     ·have h:=QdG h;exact Qe4 _ _ _ _ _ _ _ _ hr' (ih _ _ _ _ _ _ _ _ h ha)
     ·exact Qe4 _ _ _ _ _ _ _ _ hr' (ih _ _ _ _ _ _ _ _ (QdG h) ha)
    ·cases h
   ·split at h
    ·split at h
     ·exact (ih _ _ _ _ _ _ _ _ h ha).2
     ·cases h
    ·split at h
     ·exact (ih _ _ _ _ _ _ _ _ h ha).2
     ·cases h
    ·cases h
   ·split at h
    ·exact ih _ _ _ _ _ _ _ _ h ha
    ·simp only [YO] at h;subst h;exact ha
    ·cases h
theorem QbX (hF:∀g,F g=true->Qa3 P g=true) (hJ:∀w,B.has w->J w) (hmix:P.follows .mixedOrders=true):∀(fuel b:Nat) (c:CF) (H:Qan) (n:Nat) (sc:Qax) (q:Nat) (W0:List Nat) (L:List Prop) (s:ST),Under H n->Qam P F J B fuel b c H n sc q W0 L=some s->Qa2 s.L->
 ∃R W,SRJ P B c H n R W s.r/\∀i,i < b->(i∈s.W<->i∈W0\/i∈W)
 | 0,b,c,H,n,sc,q,W0,L,s,hu,h,ha=> by
   simp only [Qam,YO] at h;subst h;exact ⟨[],[],GoJ.refl c H n,fun i _=> by simp⟩
 | k+1,b,c,H,n,sc,q,W0,L,s,hu,h,ha=> by
   have plain:(match Qg9 P F QaK (fun _ _ _=> none) c H n with
    | some (.go c' H' n' _ W')=> Qam P F J B k b c' H' n' sc q (Qdf b W' W0) L
    | some (.done out H' n' _ W')=> some ⟨.fin out H' n',Qdf b W' W0,L⟩
    | none=> none)=some s->∃R W,SRJ P B c H n R W s.r/\∀i,i < b->(i∈s.W<->i∈W0\/i∈W):=by
    intro h;split at h
    ·rename_i c' H' n' R' W' hs;have hgo:GoJ P B c H n c' H' n' R' W':=Qcr hF hmix (Qaz P B) Qeq hu hs;obtain ⟨R,W,h1,h2⟩:=QbX hF hJ hmix k b c' H' n' sc q _ L s (hu.shape hgo.shape) h ha;refine ⟨_,_,hgo.srj h1,fun i hi=> ?_⟩;rw [h2 i hi,Qbv hi,List.mem_append,or_assoc]
    ·rename_i out H' n' R' W' hs;have hdone:FJ P B c H n out H' n' R' W':=Qcr hF hmix (Qaz P B) Qeq hu hs;simp only [YO] at h;subst h;exact ⟨R',W',hdone,fun i hi=> Qbv hi⟩
    ·cases h
   simp only [Qam] at h;split at h
   ·rename_i id ops draw todo hm ht;split at h
    ·rename_i r hr;cases hpan:r.pan with
     | none=>
       rw [hpan] at h;simp only at h;cases hd:(!draw || (Qcw 0 ops.toList && indep ops 0 r.recs (QiG ops.toList []))) with
       | false=> rw [hd] at h;cases h
       | true=>
         rw [hd] at h;simp only [cond_true] at h;have hL:Qa2 r.L:=by
          exact QfN b k _ _ _ _ _ _ _ s h ha
         obtain ⟨h1,h2,hreg⟩:=QeP hF hJ (len:=c.tmps.len) ops.toList c.tmps H n sc q L r rfl hu hr hL;unfold RegOk at hreg;rw [hpan] at hreg;obtain ⟨h3,h4,h5⟩:=hreg;have hgo:=Qo7 hmix hm ht h1 h2 h3 h4 hd;obtain ⟨R,W,k1,k2⟩:=QbX hF hJ hmix k b _ _ _ _ _ _ _ s h5 h ha;refine ⟨_,_,hgo.srj k1,fun i hi=> ?_⟩;rw [k2 i hi,Qbv hi,List.mem_append,or_assoc]
     | some p=>
       obtain ⟨v,R1,W1⟩:=p;rw [hpan] at h;simp only at h;cases hd:(!draw || Qg0 ops r.recs r.T) with
       | false=> rw [hd] at h;cases h
       | true=>
         rw [hd] at h;simp only [cond_true] at h;have hL:Qa2 r.L:=by
          exact QfN b k _ _ _ _ _ _ _ s h ha
         obtain ⟨h1,h2,hreg⟩:=QeP hF hJ (len:=c.tmps.len) ops.toList c.tmps H n sc q L r rfl hu hr hL;unfold RegOk at hreg;rw [hpan] at hreg;have hgo:GoJ P B c H n {c with tmps:=r.T,mode:=.pan v} r.H r.n (QgJ r.recs++R1) (QeY r.recs++W1):=by
          cases draw with
          | true=>
            obtain ⟨H1,n1,o,l2,x1,x2,x3,x4,x5,_⟩:=hreg;exact Qk1 hmix hm ht h1 h2 ⟨H1,n1,o,l2,x1,x2,x3,x4,x5⟩ (by simpa using hd)
          | false=> exact Ql1 hm ht h1 h2 hreg
         obtain ⟨_,_,_,_,_,_,_,_,_,h5⟩:=hreg;obtain ⟨R,W,k1,k2⟩:=QbX hF hJ hmix k b _ _ _ _ _ _ _ s h5 h ha;refine ⟨_,_,hgo.srj k1,fun i hi=> ?_⟩;rw [k2 i hi,Qbv hi,List.mem_append (s:=QeY r.recs++W1),or_assoc]
    ·cases h
   ·rename_i f params assign body todo hm ht;split at h
    ·rename_i keys out ups n1 W1 sc' htold;split at h
     ·rename_i c' H' p hi;have hL:=QfN b k _ _ _ _ _ _ _ s h ha;obtain ⟨R0,hgo⟩:=Qsu hF hmix hu hm ht hi hL.1;obtain ⟨R,W,h1,h2⟩:=QbX hF hJ hmix k b _ _ _ _ _ _ _ s (hu.shape hgo.shape) h ha;refine ⟨_,_,hgo.srj h1,fun i hi=> ?_⟩;rw [h2 i hi,Qbv hi,List.mem_append,or_assoc]
     ·cases h
    ·rename_i keys out ups n1 W1 sc' htold;split at h
     ·rename_i c' H' p hi;have hL:=QfN b k _ _ _ _ _ _ _ s h ha;obtain ⟨R0,hgo⟩:=Qr0 hF hmix hu hm ht hi hL.1;obtain ⟨R,W,h1,h2⟩:=QbX hF hJ hmix k b _ _ _ _ _ _ _ s (hu.shape hgo.shape) h ha;refine ⟨_,_,hgo.srj h1,fun i hi=> ?_⟩;rw [h2 i hi,Qbv hi,List.mem_append,or_assoc]
     ·cases h
    ·cases h
   ·exact plain h
end
end Go.CE

namespace Go.CE
open Go Go.RowKit

def QfU (H:Qan) (n:Nat):List Nat:=(List.range n).filter fun r=> QaJ (Qao H r)
theorem Qpy {H:Qan} {n r:Nat}:r∈QfU H n<->r < n/\QaJ (Qao H r)=true:=by simp [QfU]
noncomputable def muM (n n1:Nat) (ρ:Nat->Nat) (μ μ':Mu) (fm:Nat->Option Obj):Mu:=fun i=> if i=n then some ⟨0,0,0,false,fm⟩ else if n < i/\i < n1 then μ' (ρ i) else μ i
structure QxR (n n' n1:Nat) (W:List Nat) (μ μ':Mu) (H H' H1:Qan) (w':World) (ρ:Nat->Nat) (fk:List Nat):Prop where
 le:n < n1
 id:∀i,i < n->ρ i=i
 rng:∀i,n < i->i < n1->n<=ρ i/\ρ i < n'
 inj:∀i j,n < i->i < n1->n < j->j < n1->ρ i=ρ j->i=j
 under:Under H1 n1
 old:∀i,i < n->i ∉ W->Qao H1 i=Qao H i
 reg:Qao H1 n=some QbH
 obj:∀i o1,i < n1->(n < i\/i∈W/\i < n)->Qao H1 i=some o1->¬Qcu o1/\(live o1->∃o,Qao H' (ρ i)=some o/\live o/\∀im,μ' (ρ i)=some im->OR μ' w' im o->OR (muM n n1 ρ μ μ' (fmU μ' H' w' (QfU H' n'++fk))) w' im o1)
 fz:∀k∈fk,n<=k/\k < n'/\(∃o,Qao H' k=some o/\live o)/\∀i,n < i->i < n1->ρ i≠k
theorem Post.merge {B n n' n1:Nat} {W:List Nat} {μ μ':Mu} {H H' H1:Qan} {w w':World} {ρ:Nat->Nat} {fk:List Nat} (hok:Ok B (fun i=> i < n) μ (Qao H) w) (hf:∀i,n<=i->μ i=none) (hp:Post B (fun i=> i < n) n n' W μ μ' H H' w w') (k:QxR n n' n1 W μ μ' H H' H1 w' ρ fk):
 Post B (fun i=> i < n) n n1 W μ (muM n n1 ρ μ μ' (fmU μ' H' w' (QfU H' n'++fk))) H H1 w w':=by
 have le1:=k.le;have hlow:∀i,i < n->muM n n1 ρ μ μ' (fmU μ' H' w' (QfU H' n'++fk)) i=μ i:=fun i hi=> by unfold muM;rw [if_neg (by omega),if_neg (by omega)]
 have hhigh:∀i,n < i->i < n1->muM n n1 ρ μ μ' (fmU μ' H' w' (QfU H' n'++fk)) i=μ' (ρ i):=fun i h1 h2=> by unfold muM;rw [if_neg (by omega),if_pos ⟨h1,h2⟩]
 have hmid:muM n n1 ρ μ μ' (fmU μ' H' w' (QfU H' n'++fk)) n=some ⟨0,0,0,false,fmU μ' H' w' (QfU H' n'++fk)⟩:=by unfold muM;rw [if_pos rfl]
 have hext:Ext μ (muM n n1 ρ μ μ' (fmU μ' H' w' (QfU H' n'++fk))):=by
  intro i im him;rcases Nat.lt_or_ge i n with h | h
  ·rw [hlow i h];exact him
  ·rw [hf i h] at him;cases him
 generalize hM:muM n n1 ρ μ μ' (fmU μ' H' w' (QfU H' n'++fk))=μ1 at *;have obj:=k.obj;rw [hM] at obj
 -- an object of the new heap: an old one that was left, the region, or one of the run
 have other:∀i o im,i < n->i ∉ W->Qao H i=some o->live o->μ i=some im->w'.heap[im.blk]? =w.heap[im.blk]? :=by
  intro i o im hi hw ho hl him;refine hp.frame _ (hok.low i o im hi ho hl him).1 fun q hq hqn im' him' hb=> ?_
  obtain ⟨_,⟨oq,hoq,hlq⟩,im2,him2,hr⟩:=hp.wr q hq hqn;rw [him'] at him2;cases him2;by_cases hra:im.rw=true
  ·exact hok.inj q i oq o im' im hqn hi (fun e=> hw (e ▸ hq)) hoq ho hlq hl him' him hr hra hb
  ·have a:=(hok.low i o im hi ho hl him).2.2 (by simpa using hra);have b:=(hok.low q oq im' hqn hoq hlq him').2.1 hr;omega
 have hS':∀i,i < n1->i≠n->(ρ i < n\/n<=ρ i/\ρ i < n'):=by
  intro i hi hne;rcases Nat.lt_or_ge i n with h | h
  ·exact .inl (by rw [k.id i h];exact h)
  ·exact .inr (k.rng i (by omega) hi)
 have hmuR:∀i,i < n1->i≠n->μ1 i=μ' (ρ i):=by
  intro i hi hne;rcases Nat.lt_or_ge i n with h | h
  ·rw [hlow i h,k.id i h,hp.ext i (by omega)]
  ·exact hhigh i (by omega) hi
 have hall:∀i,(i < n\/n<=i/\i < n1)->i < n1:=fun i hi=> hi.elim (fun e=> by omega) (fun e=> e.2)
 have liveH':∀i o1,i < n1->Qao H1 i=some o1->live o1->i≠n/\∃o,Qao H' (ρ i)=some o/\live o:=by
  intro i o1 hi ho hl;have hne:i≠n:=fun e=> by rw [e,k.reg] at ho;cases ho;exact hl.elim
  refine ⟨hne, ?_⟩;by_cases h:n < i\/i∈W/\i < n
  ·obtain ⟨o,h1,h2,_⟩:=(obj i o1 hi h ho).2 hl;exact ⟨o,h1,h2⟩
  ·have h1:i < n:=by omega
   have h2:i ∉ W:=fun e=> h (.inr ⟨e,h1⟩)
   rw [k.old i h1 h2] at ho;exact ⟨o1,by rw [k.id i h1,hp.keep i h1 h2];exact ho,hl⟩
 have hinj:∀i j,i < n1->j < n1->i≠n->j≠n->ρ i=ρ j->i=j:=by
  intro i j hi hj hin hjn e;rcases Nat.lt_or_ge i n with h | h <;> rcases Nat.lt_or_ge j n with h' | h'
  ·rw [k.id i h,k.id j h'] at e;exact e
  ·have:=k.rng j (by omega) hj;rw [k.id i h] at e;omega
  ·have:=k.rng i (by omega) hi;rw [k.id j h'] at e;omega
  ·exact k.inj i j (by omega) hi (by omega) hj e
 have regH1:∀i o,i < n1->Qao H1 i=some o->Qcu o->i=n\/(i < n/\i ∉ W/\Qao H i=some o/\Qao H' i=some o):=by
  intro i o hi ho hr;by_cases hne:i=n
  ·exact .inl hne
  ·by_cases h:n < i\/i∈W/\i < n
   ·exact absurd hr (obj i o hi h ho).1
   ·have h1:i < n:=by omega
    have h2:i ∉ W:=fun e=> h (.inr ⟨e,h1⟩)
    rw [k.old i h1 h2] at ho;exact .inr ⟨h1,h2,ho,by rw [hp.keep i h1 h2];exact ho⟩
 have deadW:∀q,q∈W->q < n->(∀o,Qao H' q=some o->¬live o)->∀o,Qao H1 q=some o->¬live o:=by
  intro q hq hqn hd o ho hl;obtain ⟨_,o',h5,h6⟩:=liveH' q o (by omega) ho hl;rw [k.id q hqn] at h5;exact hd o' h5 h6
 -- what stands in the region
 have fmCase:∀b x,fmU μ' H' w' (QfU H' n'++fk) b=some x->w'.heap[b]? =some x/\((∃r o im,r < n'/\Qao H' r=some o/\Qcu o/\μ' r=some im/\im.fm b=some x)\/∃q o im,q∈fk/\Qao H' q=some o/\live o/\μ' q=some im/\im.blk=b):=by
  intro b x h;have hw:=Qcp h;refine ⟨hw, ?_⟩;unfold fmU at h;split at h
  ·rename_i hc;obtain ⟨i,hi,o,im,ho,him,hcase⟩:=hc;rcases List.mem_append.1 hi with hi | hi
   ·obtain ⟨hlt,hrb⟩:=Qpy.1 hi;obtain ⟨o',ho',hr'⟩:=Qby hrb;rw [ho] at ho';cases ho';rcases hcase with ⟨_,hne⟩ | ⟨hl,_⟩
    ·cases hx:im.fm b with
     | none=> exact absurd hx hne
     | some y=>
       obtain ⟨im',him',hf'⟩:=hp.ok.reg i o (by rcases Nat.lt_or_ge i n with h | h;exact .inl h;exact .inr ⟨h,hlt⟩) ho hr'
       rw [him] at him';cases him';have:=hf' b y hx;rw [hw] at this;cases this;exact .inl ⟨i,o,im,hlt,ho,hr',him,hx⟩
    ·exact absurd hl (by cases o <;> first | exact id | exact hr'.elim)
   ·obtain ⟨h1,h2,⟨o',ho',hl'⟩,_⟩:=k.fz i hi;rw [ho] at ho';cases ho';rcases hcase with ⟨hr,_⟩ | ⟨hl,hb⟩
    ·exact absurd hl' (by cases o <;> first | exact id | exact hr.elim)
    ·exact .inr ⟨i,o,im,hi,ho,hl,him,hb⟩
  ·cases h
 have hin':∀r,r < n'->(r < n\/n<=r/\r < n'):=fun r h=> by omega
 refine ⟨⟨fun i o hi ho hl=> ?_,fun i o im hi ho hl him=> ?_,fun i j oi oj a b hi hj hij hoi hoj hli hlj ha hb hra hrb=> ?_,fun i o hi ho hr=> ?_,fun i j oi oj a b x hi hj hoi hoj hri hlj ha hb hrb hx=> ?_⟩,by omega,fun i hi=> ?_,fun i hi hw=> k.old i hi hw,hp.grow,hp.frame,hp.wr,fun i im o h1 h2 ho hl him=> ?_,fun i im o hi ho hr him b x hx=> ?_,hp.os,hp.tape,hp.output⟩
 ·have hi1:=hall i hi;have hne:=(liveH' i o hi1 ho hl).1;by_cases h:n < i\/i∈W/\i < n
  ·obtain ⟨o',h1,h2,h4⟩:=(obj i o hi1 h ho).2 hl;obtain ⟨im,him,hor⟩:=hp.ok.rel (ρ i) o' (hS' i hi1 hne) h1 h2;exact ⟨im,by rw [hmuR i hi1 hne];exact him,h4 im him hor⟩
  ·have h1:i < n:=by omega
   have h2:i ∉ W:=fun e=> h (.inr ⟨e,h1⟩)
   rw [k.old i h1 h2] at ho;obtain ⟨im,him,hor⟩:=hok.rel i o h1 ho hl;exact ⟨im,hext _ _ him,hor.keep hext (other i o im h1 h2 ho hl him)⟩
 ·have hi1:=hall i hi;obtain ⟨hne,o',h1,h2⟩:=liveH' i o hi1 ho hl;rw [hmuR i hi1 hne] at him;exact hp.ok.low (ρ i) o' im (hS' i hi1 hne) h1 h2 him
 ·have hi1:=hall i hi;have hj1:=hall j hj;obtain ⟨hni,o1,h1,h2⟩:=liveH' i oi hi1 hoi hli;obtain ⟨hnj,o2,h3,h4⟩:=liveH' j oj hj1 hoj hlj;rw [hmuR i hi1 hni] at ha;rw [hmuR j hj1 hnj] at hb;exact hp.ok.inj (ρ i) (ρ j) o1 o2 a b (hS' i hi1 hni) (hS' j hj1 hnj) (fun e=> hij (hinj i j hi1 hj1 hni hnj e)) h1 h3 h2 h4 ha hb hra hrb
 ·rcases regH1 i o (hall i hi) ho hr with hin | ⟨h1,h2,h3,h4⟩
  ·rw [hin];exact ⟨_,hmid,fun b x h=> Qcp h⟩
  ·obtain ⟨im,him,hf'⟩:=hp.ok.reg i o (.inl h1) h4 hr;rw [hp.ext i (by omega)] at him;exact ⟨im,hext _ _ him,hf'⟩
 ·have hj1:=hall j hj;obtain ⟨hnj,o2,h3,h4⟩:=liveH' j oj hj1 hoj hlj;rw [hmuR j hj1 hnj] at hb;rcases regH1 i oi (hall i hi) hoi hri with hin | ⟨h1,h2,h5,h6⟩
  ·rw [hin,hmid] at ha;cases ha;obtain ⟨_,hcase⟩:=fmCase _ _ hx;rcases hcase with ⟨r,o,im,hlt,ho,hr,him,hfx⟩ | ⟨q,o,im,hq,ho,hl,him,hbb⟩
   ·exact hp.ok.sep r (ρ j) o o2 im b x (hin' r hlt) (hS' j hj1 hnj) ho h3 hr h4 him hb hrb hfx
   ·obtain ⟨q1,q2,_,q3⟩:=k.fz q hq;have hne:q≠ρ j:=by
     intro e;rcases Nat.lt_or_ge j n with h | h
     ·rw [k.id j h] at e;omega
     ·exact q3 j (by omega) hj1 e.symm
    have hrw:=(hp.fresh q im o q1 q2 ho hl him).1;exact hp.ok.inj q (ρ j) o o2 im b (hin' q q2) (hS' j hj1 hnj) hne ho h3 hl h4 him hb hrw hrb hbb
  ·rw [hlow i h1] at ha;exact hp.ok.sep i (ρ j) oi o2 a b x (.inl h1) (hS' j hj1 hnj) h6 h3 hri h4 (by rw [hp.ext i (by omega)];exact ha) hb hrb hx
 ·rw [<-hM];unfold muM;rw [if_neg (by omega),if_neg (by omega)]
 ·obtain ⟨hne,o',h3,h4⟩:=liveH' i o h2 ho hl;rw [hmuR i h2 hne] at him;obtain ⟨a,b⟩:=k.rng i (by omega) h2;obtain ⟨hr,hfr⟩:=hp.fresh (ρ i) im o' a b h3 h4 him;exact ⟨hr,hfr.imp id fun ⟨q,hq,hqn,hb,hd⟩=> ⟨q,hq,hqn,hb,deadW q hq hqn hd⟩⟩
 ·have hi1:i < n1:=by omega
  rcases regH1 i o hi1 ho hr with hin | ⟨h1,h2,_⟩
  ·rw [hin,hmid] at him;cases him;obtain ⟨_,hcase⟩:=fmCase _ _ hx;rcases hcase with ⟨r,o,im,hlt,ho,hr,him,hfx⟩ | ⟨q,o,im,hq,ho,hl,him,hbb⟩
   ·by_cases hx:n<=r/\r < n'\/r∈W/\r < n
    ·rcases hp.rf r im o hx ho hr him b x hfx with c | c | ⟨q,hq,hqn,hb,hd⟩
     ·exact .inl c
     ·exact .inr (.inl c)
     ·exact .inr (.inr ⟨q,hq,hqn,hb,deadW q hq hqn hd⟩)
    ·have h:r < n:=by omega
     rw [hp.keep r h fun e=> hx (.inr ⟨e,h⟩)] at ho;rw [hp.ext r (by omega)] at him;exact .inr (.inl ⟨r,im,o,h,h,ho,hr,him,hfx⟩)
   ·obtain ⟨q1,q2,_,_⟩:=k.fz q hq;rcases (hp.fresh q im o q1 q2 ho hl him).2 with c | ⟨q',hq',hqn,⟨im',him',hb'⟩,hd⟩
    ·exact .inl (by omega)
    ·exact .inr (.inr ⟨q',hq',hqn,⟨im',him',by omega⟩,deadW q' hq' hqn hd⟩)
  ·rcases hi with hi | hi
   ·omega
   ·exact absurd hi.1 h2
end Go.CE

namespace Go.CE
open Go Go.RowKit

section
variable (H:Qan) (m:Nat) (pos:Nat->Option Nat) (fz:List Fz)
def coS (v:Value):Option (Value×List Prop):=bif simple v then some (v,[]) else match v with
 | .func (.via r ⟨[]⟩ 0 true) ⟨[t]⟩ ⟨[]⟩=> bif QaJ (Qao H r) && QcT t then some (Qaq ((pos r).getD m) t,[]) else none
 | .pointer (some ⟨k,o,none⟩)=> match pos k with
   | some j=> some (.pointer (some ⟨j,o,none⟩),[])
   | none=> match Qo1 fz k,Qao H k with
     | some x,some (.cells cs _ (0,0))=> bif x.rs.all fun r=> QaJ (Qao H r) then some (Qaq m (ptT o x.cs),[Qcv x.rs cs x.cs]) else none
     | _,_=> some (.chan none,[])
 | .slice (some ⟨k,o,none⟩) n z=> match pos k with
   | some j=> some (.slice (some ⟨j,o,none⟩) n z,[])
   | none=> match o,Qo1 fz k,Qao H k with
     | 0,some x,some (.cells cs _ (0,0))=> bif x.rs.all fun r=> QaJ (Qao H r) then some (Qaq m (slT n x.cs),[Qcv x.rs cs x.cs]) else none
     | _,_,_=> some (.chan none,[])
 | .map (some r)=> match pos r with
   | some j=> some (.map (some j),[])
   | none=> some (.chan none,[])
 | .func (.yield l) ⟨[]⟩ ⟨[]⟩=> match pos l with
   | some j=> some (.func (.yield j) #[] #[],[])
   | none=> some (.chan none,[])
 | .chan none=> some (.chan none,[])
 | _=> none
def coL (f:Value->Option (Value×List Prop)):List Value->Option (List Value×List Prop)
 | []=> some ([],[])
 | v::l=> match f v with
   | some (t,L)=> match coL f l with
     | some (ts,L2)=> some (t::ts,L++L2)
     | none=> none
   | none=> none
def coV:Nat->Value->Option (Value×List Prop)
 | 0,v=> coS H m pos fz v
 | f+1,v=> match v with
   | .agg xs=> match coL (coV f) xs.toList with
     | some (l,L)=> some (.agg l.toArray,L)
     | none=> none
   | .tuple xs=> match coL (coV f) xs.toList with
     | some (l,L)=> some (.tuple l.toArray,L)
     | none=> none
   | .iface t x=> match coV f x with
     | some (x,L)=> some (.iface t x,L)
     | none=> none
   | .func (.func g) xs ys=> match coL (coV f) xs.toList with
     | some (l,L)=> match coL (coV f) ys.toList with
       | some (k,L2)=> some (.func (.func g) l.toArray k.toArray,L++L2)
       | none=> none
     | none=> none
   | v=> coS H m pos fz v
def Q4z (rs:List Nat) (v v1:Value):Prop:=(simple v=true/\v1=v)\/∃r∈rs,∃t,v=Qaq r t/\v1=Qaq m t/\QcT t=true
def Qbh (rs:List Nat) (cs cs1:Array Value):Prop:=cs.size=cs1.size/\∀(i:Nat) v v1,cs[i]? =some v->cs1[i]? =some v1->Q4z m rs v v1
end
theorem Qar {m:Nat} {rs:List Nat} {cs:Array Value} (h:∀v∈cs,simple v=true):Qbh m rs cs cs:=⟨rfl,fun i v v1 h1 h2=> by
 rw [h1] at h2;cases h2;exact .inl ⟨h v (Array.mem_of_getElem? h1),rfl⟩⟩
inductive Qpa (m:Nat) (rs:List (Nat×Nat)) (frs:List (Nat×Array Value)) (ow:List (Nat×Nat)):Value->Value->Prop
 | simple {v}:CE.simple v=true->Qpa m rs frs ow v v
 | reg {r j t}:(r,j)∈rs->QcT t=true->Qpa m rs frs ow (Qaq r t) (Qaq j t)
 | own {k cs n c}:(k,cs)∈frs->Qpa m rs frs ow (.slice (some ⟨k,0,none⟩) n c) (Qaq m (slT n cs))
 | nil:Qpa m rs frs ow (.slice none 0 0) (Qaq m (slT 0 #[]))
 | keep {k j n c}:(k,j)∈ow->Qpa m rs frs ow (.slice (some ⟨k,0,none⟩) n c) (.slice (some ⟨j,0,none⟩) n c)
def AllX (m:Nat) (rs:List (Nat×Nat)) (frs:List (Nat×Array Value)) (ow:List (Nat×Nat)):List Value->List Value->Prop
 | [],[]=> True
 | v::l,u::k=> Qpa m rs frs ow v u/\AllX m rs frs ow l k
 | _,_=> False
def Qbx (m:Nat) (rs:List (Nat×Nat)) (frs:List (Nat×Array Value)) (ow:List (Nat×Nat)) (cs cs1:Array Value):Prop:=AllX m rs frs ow cs.toList cs1.toList
theorem AllX.get {m:Nat} {rs:List (Nat×Nat)} {frs:List (Nat×Array Value)} {ow:List (Nat×Nat)}:∀{l k:List Value},AllX m rs frs ow l k->k.length=l.length/\∀(i:Nat) v u,l[i]? =some v->k[i]? =some u->Qpa m rs frs ow v u
 | [],[],_=> ⟨rfl,fun i v u h=> by simp at h⟩
 | v::l,u::k,h=> by
   obtain ⟨a,b⟩:=AllX.get h.2;refine ⟨by simp [a],fun i x y hx hy=> ?_⟩;cases i with
   | zero=>
     simp only [List.getElem?_cons_zero,YO] at hx hy;subst hx hy;exact h.1
   | succ i=> exact b i x y (by simpa using hx) (by simpa using hy)
 | [],_::_,h=> h.elim
 | _::_,[],h=> h.elim
theorem AllX.append {m:Nat} {rs:List (Nat×Nat)} {frs:List (Nat×Array Value)} {ow:List (Nat×Nat)}:∀{l k l2 k2:List Value},AllX m rs frs ow l k->AllX m rs frs ow l2 k2->AllX m rs frs ow (l++l2) (k++k2)
 | [],[],_,_,_,h2=> h2
 | _::_,_::_,_,_,h,h2=> ⟨h.1,AllX.append h.2 h2⟩
 | [],_::_,_,_,h,_=> h.elim
 | _::_,[],_,_,h,_=> h.elim
section
variable {B:Nat} {S:Nat->Prop} {H:Qan} {m:Nat} {pos:Nat->Option Nat} {fz:List Fz} {μ μ1:Mu} {w:World} {n':Nat} {fk:List Nat} {im1:Img}
structure Q1h (H:Qan) (m:Nat) (pos:Nat->Option Nat) (fz:List Fz) (μ μ1:Mu) (w:World) (n':Nat) (fk:List Nat) (im1:Img):Prop where
 ok:∃B S,Ok B S μ (Qao H) w/\∀i,i < n'->S i
 under:Under H n'
 here:∀k j,pos k=some j->μ1 j=μ k
 reg:μ1 m=some im1
 fm:im1.fm=fmU μ H w (QfU H n'++fk)
 sub:∀x∈fz,x.k∈fk
theorem Qjn:∀(l:List Fz) (k:Nat) (x:Fz),Qo1 l k=some x->x∈l/\x.k=k
 | [],k,x,h=> by cases h
 | y::l,k,x,h=> by
   simp only [Qo1] at h;cases e:Nat.beq y.k k with
   | true=>
     rw [e] at h;simp only [cond_true,YO] at h;subst h;exact ⟨by simp,YE e⟩
   | false=>
     rw [e] at h;obtain ⟨h1,h2⟩:=Qjn l k x h;exact ⟨List.mem_cons_of_mem _ h1,h2⟩
theorem Qv5 (hu:Under H n') {r:Nat} (h:QaJ (Qao H r)=true):r < n':=by
 obtain ⟨o,ho,_⟩:=Qby h;exact hu.lt ho
theorem QjF (c:Q1h H m pos fz μ μ1 w n' fk im1) {r:Nat} (hr:QaJ (Qao H r)=true) {im:Img} (him:μ r=some im) {b:Nat} {x:Obj} (hx:im.fm b=some x):im1.fm b=some x:=by
 obtain ⟨B,S,hok,hS⟩:=c.ok;rw [c.fm];have hlt:=Qv5 c.under hr;exact QnN hok (List.mem_append_left _ (Qpy.2 ⟨hlt,hr⟩)) (hS r hlt) hr him hx
theorem QkO (c:Q1h H m pos fz μ μ1 w n' fk im1) {rs:List Nat} (hreg:(rs.all fun r=> QaJ (Qao H r))=true) {v v1 v':Value} (h:Qqt rs v v1) (hv:VR μ v v'):TRv im1.fm v1 v':=by
 rcases h with ⟨h1,rfl⟩ | ⟨r,hr,rfl,_⟩
 ·rw [simple_eq h1 hv];exact .simple h1
 ·obtain ⟨im,him,ht⟩:=hv.top_inv;exact ht.mono fun b x hx=> QjF c (List.all_eq_true.1 hreg r hr) him hx
theorem Qfh (c:Q1h H m pos fz μ μ1 w n' fk im1) {v v' t:Value} {L:List Prop} (h:coS H m pos fz v=some (t,L)) (hL:Qa2 L) (hv:VR μ v v'):VR μ1 t v':=by
 obtain ⟨B,S,hok,hS⟩:=c.ok;have addr:∀{k j o:Nat} {a':Addr},pos k=some j->AR μ ⟨k,o,none⟩ a'->AR μ1 ⟨j,o,none⟩ a':=by
  rintro k j o a' hp ⟨im,h1,h2,h3⟩;exact ⟨im,by rw [c.here k j hp];exact h1,rfl,h3⟩
 unfold coS at h;cases hs:simple v with
 | true=>
   rw [hs] at h;simp only [cond_true,YO,YR] at h;obtain ⟨rfl,rfl⟩:=h;rw [simple_eq hs hv];exact Qb2 hs
 | false=>
   rw [hs] at h;simp only [cond_false] at h;split at h
   ·rename_i r t0;cases hg:(QaJ (Qao H r) && QcT t0) with
    | false=> rw [hg] at h;cases h
    | true=>
      rw [hg] at h;simp only [cond_true,YO,YR] at h;obtain ⟨rfl,rfl⟩:=h;simp only [YB] at hg;obtain ⟨im,him,ht⟩:=VR.top_inv (r:=r) (t:=t0) hv;cases hp:pos r with
      | none=> exact .top hg.2 c.reg (ht.mono fun b x hx=> QjF c hg.1 him hx)
      | some j=> exact .top hg.2 (by rw [Option.getD_some,c.here r j hp];exact him) ht
   ·rename_i k o;split at h
    ·rename_i j hj;simp only [YO,YR] at h;obtain ⟨rfl,rfl⟩:=h;cases hv with
     | ptr har=> exact .ptr (addr hj har)
    ·split at h
     ·rename_i x cs ty hx hg;cases hr:(x.rs.all fun r=> QaJ (Qao H r)) with
      | false=> rw [hr] at h;cases h
      | true=>
        rw [hr] at h;simp only [cond_true,YO,YR] at h;obtain ⟨rfl,rfl⟩:=h;obtain ⟨⟨h2,h3⟩,_⟩:=hL;obtain ⟨hxm,hxk⟩:=Qjn _ _ _ hx;have hkf:k∈fk:=hxk ▸ c.sub x hxm;obtain ⟨im,arr,him,_,hoff,harr,hle,_,hcells⟩:=QgU hok (hS k (c.under.lt hg)) hg;cases hv with
        | ptr har=>
          obtain ⟨im2,him2,_,rfl⟩:=har;rw [him] at him2;cases him2;rw [hoff];refine .top rfl c.reg (TRv.ptr (o:=0) (by rw [c.fm];exact (Qod (List.mem_append_right _ hkf) hg trivial him).trans harr) (fun i hi=> by omega) fun i v v' hv hv'=> ?_);simp only [Nat.zero_add] at hv';have hi:i < cs.size:=by rw [h2];exact (Array.getElem?_eq_some_iff.1 hv).1
          obtain ⟨u,hu1,hu2⟩:=hcells i cs[i] (by simp [hi]);rw [hv'] at hu1;cases hu1;exact QkO c hr (h3 i _ _ (by simp [hi]) hv) hu2
     ·simp only [YO,YR] at h;obtain ⟨rfl,rfl⟩:=h;cases hv;exact .junk (fun b e=> by cases e) rfl rfl
   ·rename_i k o n z;split at h
    ·rename_i j hj;simp only [YO,YR] at h;obtain ⟨rfl,rfl⟩:=h;cases hv with
     | slice har a b d=>
       refine .slice (addr hj har) a b fun hz im him hrw hoff=> d hz im ?_ hrw hoff
       rw [<-c.here k j hj];exact him
    ·split at h
     ·rename_i x cs ty hx hg;cases hr:(x.rs.all fun r=> QaJ (Qao H r)) with
      | false=> rw [hr] at h;cases h
      | true=>
        rw [hr] at h;simp only [cond_true,YO,YR] at h;obtain ⟨rfl,rfl⟩:=h;obtain ⟨⟨h2,h3⟩,_⟩:=hL;obtain ⟨hxm,hxk⟩:=Qjn _ _ _ hx;have hkf:k∈fk:=hxk ▸ c.sub x hxm;obtain ⟨im,arr,him,_,hoff,harr,hle,_,hcells⟩:=QgU hok (hS k (c.under.lt hg)) hg;cases hv with
        | slice har a b _=>
          obtain ⟨im2,him2,_,rfl⟩:=har;rw [him] at him2;cases him2;rw [hoff];refine .top rfl c.reg (TRv.slice (o:=0) a b (by rw [c.fm];exact (Qod (List.mem_append_right _ hkf) hg trivial him).trans harr) (fun i hi=> by omega) fun i v v' hv hv'=> ?_);simp only [Nat.zero_add] at hv';have hi:i < cs.size:=by rw [h2];exact (Array.getElem?_eq_some_iff.1 hv).1
          obtain ⟨u,hu1,hu2⟩:=hcells i cs[i] (by simp [hi]);rw [hv'] at hu1;cases hu1;exact QkO c hr (h3 i _ _ (by simp [hi]) hv) hu2
     ·simp only [YO,YR] at h;obtain ⟨rfl,rfl⟩:=h;cases hv;exact .junk (fun b e=> by cases e) rfl rfl
   ·rename_i r;split at h
    ·rename_i j hj;simp only [YO,YR] at h;obtain ⟨rfl,rfl⟩:=h;cases hv with
     | map hr=> exact .map (by rw [c.here r j hj];exact hr)
    ·simp only [YO,YR] at h;obtain ⟨rfl,rfl⟩:=h;cases hv;exact .junk (fun b e=> by cases e) rfl rfl
   ·rename_i l;split at h
    ·rename_i j hj;simp only [YO,YR] at h;obtain ⟨rfl,rfl⟩:=h;cases hv with
     | yield hl=> exact .yield (by rw [c.here l j hj];exact hl)
    ·simp only [YO,YR] at h;obtain ⟨rfl,rfl⟩:=h;cases hv;exact .junk (fun b e=> by cases e) rfl rfl
   ·simp only [YO,YR] at h;obtain ⟨rfl,rfl⟩:=h;cases hv with
    | junk a b c=> exact .junk a b c
   ·cases h
theorem Qln {f:Value->Option (Value×List Prop)} (hf:∀v v' t L,f v=some (t,L)->Qa2 L->VR μ v v'->VR μ1 t v'):∀(l ts:List Value) (L:List Prop) (l':List Value),coL f l=some (ts,L)->Qa2 L->l.length=l'.length->(∀(i:Nat) v v',l[i]? =some v->l'[i]? =some v'->VR μ v v')->
 ts.length=l'.length/\∀(i:Nat) v v',ts[i]? =some v->l'[i]? =some v'->VR μ1 v v'
 | [],ts,L,l',h,hL,hl,hv=> by
   simp only [coL,YO,YR] at h;obtain ⟨rfl,rfl⟩:=h;exact ⟨hl,fun i v v' h=> by simp at h⟩
 | v::l,ts,L,[],h,hL,hl,hv=> by simp at hl
 | v::l,ts,L,v'::l',h,hL,hl,hv=> by
   simp only [coL] at h;split at h
   ·rename_i t L1 h1;split at h
    ·rename_i ts2 L2 h2;simp only [YO,YR] at h;obtain ⟨rfl,rfl⟩:=h;obtain ⟨a,b⟩:=QaE hL;have k1:=hf v v' t L1 h1 a (hv 0 v v' rfl rfl);obtain ⟨k2,k3⟩:=Qln hf l ts2 L2 l' h2 b (by simpa using hl) fun i u u' x y=> hv (i+1) u u' (by simpa using x) (by simpa using y)
     refine ⟨by simp [k2],fun i u u' x y=> ?_⟩;cases i with
     | zero=>
       simp only [List.getElem?_cons_zero,YO] at x y;subst x y;exact k1
     | succ i=> exact k3 i u u' (by simpa using x) (by simpa using y)
    ·cases h
   ·cases h
theorem Qdl (c:Q1h H m pos fz μ μ1 w n' fk im1):∀(f:Nat) (v v' t:Value) (L:List Prop),coV H m pos fz f v=some (t,L)->Qa2 L->VR μ v v'->VR μ1 t v'
 | 0,v,v',t,L,h,hL,hv=> Qfh c h hL hv
 | f+1,v,v',t,L,h,hL,hv=> by
   have arr:∀{xs xs':Array Value} {l:List Value} {L:List Prop},coL (coV H m pos fz f) xs.toList=some (l,L)->Qa2 L->xs.size=xs'.size->(∀(i:Nat) v v',xs[i]? =some v->xs'[i]? =some v'->VR μ v v')->l.toArray.size=xs'.size/\∀(i:Nat) v v',l.toArray[i]? =some v->xs'[i]? =some v'->VR μ1 v v':=by
    intro xs xs' l L h hL hs hx;obtain ⟨a,b⟩:=Qln (fun v v' t L=> Qdl c f v v' t L) xs.toList l L xs'.toList h hL (by simpa using hs) fun i v v' x y=> hx i v v' (by simpa using x) (by simpa using y)
    exact ⟨by simpa using a,fun i v v' x y=> b i v v' (by simpa using x) (by simpa using y)⟩
   cases v with
   | agg xs=>
     simp only [coV] at h;split at h
     ·rename_i l L1 hl;simp only [YO,YR] at h;obtain ⟨rfl,rfl⟩:=h;cases hv with
      | agg h1 h2=> exact .agg (arr hl hL h1 h2).1 (arr hl hL h1 h2).2
     ·cases h
   | tuple xs=>
     simp only [coV] at h;split at h
     ·rename_i l L1 hl;simp only [YO,YR] at h;obtain ⟨rfl,rfl⟩:=h;cases hv with
      | tuple h1 h2=> exact .tuple (arr hl hL h1 h2).1 (arr hl hL h1 h2).2
     ·cases h
   | iface ty x=>
     simp only [coV] at h;split at h
     ·rename_i l L1 hl;simp only [YO,YR] at h;obtain ⟨rfl,rfl⟩:=h;cases hv with
      | iface hv=> exact .iface (Qdl c f _ _ _ _ hl hL hv)
     ·cases h
   | func fn xs ys=>
     cases fn with
     | func g=>
       simp only [coV] at h;split at h
       ·rename_i l L1 hl;split at h
        ·rename_i k L2 hk;simp only [YO,YR] at h;obtain ⟨rfl,rfl⟩:=h;obtain ⟨a,b⟩:=QaE hL;cases hv with
         | func h1 h2 h3 h4=>
           have k1:=arr hl a h1 h3;have k2:=arr hk b h2 h4;exact .func k1.1 k2.1 k1.2 k2.2
        ·cases h
       ·cases h
     | _=> exact Qfh (fz:=fz) c (by exact h) hL hv
   | _=> exact Qfh (fz:=fz) c (by exact h) hL hv
end
inductive KS where
 | auto
 | cells (rs:List Nat) (cs:Array Value)
 | same
 | dead
 | rows (rs:List (Nat×Nat)) (ks:List Nat) (ow:List (Nat×Nat)) (cs:Array Value)
def Q1n (pos:Nat->Option Nat) (p:Nat×Nat):Bool:=match pos p.1 with
 | some j=> Nat.beq j p.2
 | none=> false
def Q3E (H:Qan) (pos:Nat->Option Nat) (fz:List Fz):List Nat->Option (List (Nat×Array Value)×List Prop)
 | []=> some ([],[])
 | k::l=> match pos k,Qo1 fz k,Qao H k with
   | none,some x,some (.cells cs _ (0,0))=> bif x.rs.all fun r=> QaJ (Qao H r) then match Q3E H pos fz l with
    | some (frs,L)=> some ((k,x.cs)::frs,Qcv x.rs cs x.cs::L)
    | none=> none
     else none
   | _,_,_=> none
theorem QsG {H:Qan} {m:Nat} {pos:Nat->Option Nat} {fz:List Fz}:∀(ks:List Nat) (frs:List (Nat×Array Value)) (L:List Prop),Q3E H pos fz ks=some (frs,L)->Qa2 L->∀k cs n c,(k,cs)∈frs->∃L',coS H m pos fz (.slice (some ⟨k,0,none⟩) n c)=some (Qaq m (slT n cs),L')/\Qa2 L'
 | [],frs,L,h,hL,k,cs,n,c,hm=> by
   simp only [Q3E,YO,YR] at h;obtain ⟨rfl,rfl⟩:=h;simp at hm
 | k0::l,frs,L,h,hL,k,cs,n,c,hm=> by
   simp only [Q3E] at h;split at h
   ·rename_i x cs0 t0 h1 h2 h3;cases hr:(x.rs.all fun r=> QaJ (Qao H r)) with
    | false=> rw [hr] at h;cases h
    | true=>
      rw [hr] at h;simp only [cond_true] at h;split at h
      ·rename_i frs2 L2 h4;simp only [YO,YR] at h;obtain ⟨rfl,rfl⟩:=h;rcases List.mem_cons.1 hm with e | e
       ·simp only [YR] at e;obtain ⟨rfl,rfl⟩:=e;refine ⟨[Qcv x.rs cs0 x.cs], ?_,hL.1,trivial⟩;unfold coS;have hs:simple (.slice (some ⟨k,0,none⟩) n c)=false:=rfl;rw [hs];simp only [cond_false,h1,h2,h3,hr,cond_true]
       ·exact QsG l frs2 L2 h4 hL.2 k cs n c e
      ·cases h
   ·cases h
def Q04:Array MapEntry->Prop:=fun es=> ∀(i:Nat) e,es[i]? =some e->af e.val=true
def coO (H:Qan) (m:Nat) (pos:Nat->Option Nat) (fz:List Fz):Option Obj->KS->Option (Obj×List Prop)
 | some (.cells cs t fl),.auto=> match coL (coV H m pos fz 3) cs.toList with
   | some (l,L)=> some (.cells l.toArray t fl,L)
   | none=> none
 | some (.cells cs t fl),.cells rs cs1=> bif rs.all fun r=> QaJ (Qao H r) then some (.cells cs1 t fl,[Qbh m rs cs cs1]) else none
 | some (.cells cs t fl),.rows rs ks ow cs1=> bif (rs.all fun p=> QaJ (Qao H p.1) && Nat.beq ((pos p.1).getD m) p.2) && ow.all (Q1n pos) then match Q3E H pos fz ks with
  | some (frs,L)=> some (.cells cs1 t fl,Qbx m rs frs ow cs cs1::L)
  | none=> none
   else none
 | some (.map es clk),.same=> some (.map es clk,[Q04 es])
 | some (.loop r),.auto=> match coL (coV H m pos fz 3) r.tmps.toList with
   | some (l,L)=> some (.loop {r with tmps:=l.toArray},L)
   | none=> none
 | some (.deferred ds),.same=> some (.deferred ds,[])
 | some (.pending _ _),.dead=> some (.pending #[] 0,[])
 | _,_=> none
theorem Qfb {H:Qan} {m:Nat} {pos:Nat->Option Nat} {fz:List Fz} {μ μ1:Mu} {w:World} {n':Nat} {fk:List Nat} {im1:Img} (c:Q1h H m pos fz μ μ1 w n' fk im1) {o:Option Obj} {s:KS} {o1:Obj} {L:List Prop} (h:coO H m pos fz o s=some (o1,L)) (hL:Qa2 L):
 (∃x,o=some x)/\¬Qcu o1/\(live o1->∃x,o=some x/\live x/\∀im,OR μ w im x->OR μ1 w im o1):=by
 have cells:∀{cs cs1:Array Value} {t:TypeId} {fl:Nat×Nat},cs1.size=cs.size->(∀(i:Nat) v v1 v',cs[i]? =some v->cs1[i]? =some v1->VR μ v v'->VR μ1 v1 v')->∀im,OR μ w im (.cells cs t fl)->OR μ1 w im (.cells cs1 t fl):=by
  intro cs cs1 t fl hs hc im hor;have get:∀(i:Nat) v1,cs1[i]? =some v1->∃v,cs[i]? =some v:=fun i v1 h=> by
   have:=(Array.getElem?_eq_some_iff.1 h).1;exact ⟨cs[i],by simp [show i < cs.size by omega]⟩
  rcases hor with ⟨h1,h2,h3,arr,h4,h5,h6,h7⟩ | ⟨h1,h2⟩
  ·refine .inl ⟨h1,h2,h3,arr,h4,by omega,h6,fun i v1 hv1=> ?_⟩;obtain ⟨v,hv⟩:=get i v1 hv1;obtain ⟨v',a,b⟩:=h7 i v hv;exact ⟨v',a,hc i v v1 v' hv hv1 b⟩
  ·refine .inr ⟨h1,fun i v1 hv1=> ?_⟩;obtain ⟨v,hv⟩:=get i v1 hv1;obtain ⟨v',a,b⟩:=h2 i v hv;exact ⟨v',a,hc i v v1 v' hv hv1 b⟩
 unfold coO at h;split at h
 ·rename_i cs t fl;split at h
  ·rename_i l L1 hl;simp only [YO,YR] at h;obtain ⟨rfl,rfl⟩:=h;have key:∀(l ts:List Value) (L:List Prop),coL (coV H m pos fz 3) l=some (ts,L)->Qa2 L->ts.length=l.length/\∀(i:Nat) v v1 v',l[i]? =some v->ts[i]? =some v1->VR μ v v'->VR μ1 v1 v':=by
    intro l;induction l with
    | nil=>
      intro ts L h hL;simp only [coL,YO,YR] at h;obtain ⟨rfl,rfl⟩:=h;exact ⟨rfl,fun i v v1 v' h=> by simp at h⟩
    | cons v l ih=>
      intro ts L h hL;simp only [coL] at h;split at h
      ·rename_i t L1 h1;split at h
       ·rename_i ts2 L2 h2;simp only [YO,YR] at h;obtain ⟨rfl,rfl⟩:=h;obtain ⟨a,b⟩:=QaE hL;obtain ⟨k1,k2⟩:=ih ts2 L2 h2 b;refine ⟨by simp [k1],fun i u u1 u' x y hr=> ?_⟩;cases i with
        | zero=>
          simp only [List.getElem?_cons_zero,YO] at x y;subst x y;exact Qdl c 3 _ _ _ _ h1 a hr
        | succ i=> exact k2 i u u1 u' (by simpa using x) (by simpa using y) hr
       ·cases h
      ·cases h
   obtain ⟨k1,k2⟩:=key _ _ _ hl hL;refine ⟨⟨_,rfl⟩,id,fun _=> ?_⟩;exact ⟨_,rfl,trivial,cells (by simpa using k1) fun i v v1 v' x y=> k2 i v v1 v' (by simpa using x) (by simpa using y)⟩
  ·cases h
 ·rename_i cs t fl rs cs1;cases hr:(rs.all fun r=> QaJ (Qao H r)) with
  | false=> rw [hr] at h;cases h
  | true=>
    rw [hr] at h;simp only [cond_true,YO,YR] at h;obtain ⟨rfl,rfl⟩:=h;obtain ⟨⟨h1,h2⟩,_⟩:=hL;refine ⟨⟨_,rfl⟩,id,fun _=> ?_⟩;refine ⟨_,rfl,trivial,cells h1.symm fun i v v1 v' x y hv=> ?_⟩;rcases h2 i v v1 x y with ⟨hs,rfl⟩ | ⟨r,hrm,t,rfl,rfl,ht⟩
    ·rw [simple_eq hs hv];exact Qb2 hs
    ·obtain ⟨im,him,htr⟩:=hv.top_inv;exact .top ht c.reg (htr.mono fun b x hx=> QjF c (List.all_eq_true.1 hr r hrm) him hx)
 ·rename_i cs t fl rs ks ow cs1;cases hr0:((rs.all fun p=> QaJ (Qao H p.1) && Nat.beq ((pos p.1).getD m) p.2) && ow.all (Q1n pos)) with
  | false=> rw [hr0] at h;cases h
  | true=>
    rw [hr0] at h;simp only [cond_true] at h;simp only [YB] at hr0;obtain ⟨hr,how⟩:=hr0;split at h
    ·rename_i frs L2 hks;simp only [YO,YR] at h;obtain ⟨rfl,rfl⟩:=h;obtain ⟨hx,hL2⟩:=hL;obtain ⟨h1,h2⟩:=AllX.get hx;refine ⟨⟨_,rfl⟩,id,fun _=> ?_⟩;refine ⟨_,rfl,trivial,cells (by simpa using h1) fun i v v1 v' x y hv=> ?_⟩;have hc:=h2 i v v1 (by simpa using x) (by simpa using y);cases hc with
     | simple hs=> rw [simple_eq hs hv];exact Qb2 hs
     | reg hm ht=>
       rename_i r j t0;have:=List.all_eq_true.1 hr _ hm;simp only [YB] at this;have e:coS H m pos fz (Qaq r t0)=some (Qaq j t0,[]):=by
        have hs:simple (Qaq r t0)=false:=rfl;unfold coS;rw [hs];simp only [cond_false,Qaq,this.1,ht,Bool.and_self,cond_true,YE this.2]
       exact Qfh c e trivial hv
     | own hm=>
       obtain ⟨L',e,hL'⟩:=QsG ks frs L2 hks hL2 _ _ _ _ hm;exact Qfh c e hL' hv
     | nil=>
       cases hv;exact .top rfl c.reg .nil
     | keep hm=>
       have hk:=List.all_eq_true.1 how _ hm;unfold Q1n at hk;split at hk
       ·rename_i j0 hj0;have hk:=YE hk;have e:=c.here _ _ hj0;rw [hk] at e;cases hv with
        | slice har h1 h2 h3=>
          obtain ⟨im,hi,_,rfl⟩:=har;refine .slice ⟨im,e.trans hi,rfl,rfl⟩ h1 h2 fun hs im' him'=> ?_
          rw [e] at him';exact h3 hs im' him'
       ·cases hk
    ·cases h
 ·rename_i es clk;simp only [YO,YR] at h;obtain ⟨rfl,rfl⟩:=h;obtain ⟨hp,_⟩:=hL;refine ⟨⟨_,rfl⟩,id,fun _=> ?_⟩;refine ⟨_,rfl,trivial,fun im hor=> ?_⟩;obtain ⟨h1,es',h2,h3,h4⟩:=hor;refine ⟨h1,es',h2,h3,fun i e e' x y=> ?_⟩;obtain ⟨p,q,r,s⟩:=h4 i e e' x y;have hs:=hp i e x;exact ⟨p,q,r,by rw [QiB hs s];exact Qhu hs⟩
 ·rename_i r;split at h
  ·rename_i l L1 hl;simp only [YO,YR] at h;obtain ⟨rfl,rfl⟩:=h;refine ⟨⟨_,rfl⟩,id,fun _=> ?_⟩;refine ⟨_,rfl,trivial,fun im hor=> ?_⟩;obtain ⟨h1,tm,df,h2,h3⟩:=hor;obtain ⟨a,b⟩:=Qln (fun v v' t L=> Qdl c 3 v v' t L) r.tmps.toList l L1 tm.toList hl hL (by simpa using h3.1) fun i v v' x y=> h3.2 i v v' (by simpa using x) (by simpa using y)
   exact ⟨h1,tm,df,h2,by simpa using a,fun i v v' x y=> b i v v' (by simpa using x) (by simpa using y)⟩
  ·cases h
 ·rename_i ds;simp only [YO,YR] at h;obtain ⟨rfl,rfl⟩:=h;exact ⟨⟨_,rfl⟩,id,fun _=> ⟨_,rfl,trivial,fun im hor=> hor⟩⟩
 ·simp only [YO,YR] at h;obtain ⟨rfl,rfl⟩:=h;exact ⟨⟨_,rfl⟩,id,fun hl=> hl.elim⟩
 ·cases h
end Go.CE
