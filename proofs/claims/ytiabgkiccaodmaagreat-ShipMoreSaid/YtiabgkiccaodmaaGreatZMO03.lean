/- CE: what an operation leaves alone in the canonical heap. -/
import Derived.Test.YtiabgkiccaodmaaGreatZMO02
import Derived.RangeFuncRecord
import Derived.Tactics
import Derived.RangeFuncNested
set_option linter.all false
namespace Go.CE
open Go Go.RowKit
structure Shape (H:Qar) (n:Nat) (H':Qar) (n':Nat) (R W:List Nat):Prop where
 le:n<=n'
 keep:∀i,i < n->i ∉ W->Qaw H' i=Qaw H i
 top:∀i,n'<=i->Qaw H' i=Qaw H i
 sub:∀i,i∈W->i∈R
 wlt:∀i,i∈W->i < n'
theorem Shape.same (H:Qar) (n:Nat) (R:List Nat):Shape H n H n R []:=⟨Nat.le_refl _,fun _ _ _=> rfl,fun _ _=> rfl,fun _ h=> by simp at h,fun _ h=> by simp at h⟩
theorem Shape.trans {H H1 H2:Qar} {n n1 n2:Nat} {R1 R2 W1 W2:List Nat} (h:Shape H n H1 n1 R1 W1) (k:Shape H1 n1 H2 n2 R2 W2):Shape H n H2 n2 (R1++R2) (W1++W2):=by
 have:=h.le;have:=k.le;refine ⟨by omega,fun i hi hw=> ?_,fun i hi=> ?_,fun i hi=> ?_,fun i hi=> ?_⟩
 ·rw [k.keep i (by omega) (fun e=> hw (List.mem_append_right _ e)),h.keep i hi (fun e=> hw (List.mem_append_left _ e))]
 ·rw [k.top i hi,h.top i (by omega)]
 ·exact (List.mem_append.1 hi).elim (fun e=> List.mem_append_left _ (h.sub i e)) (fun e=> List.mem_append_right _ (k.sub i e))
 ·exact (List.mem_append.1 hi).elim (fun e=> by have:=h.wlt i e;omega) (k.wlt i)
theorem Shape.new (H:Qar) (n:Nat) (o:Obj) (R:List Nat):Shape H n ((n,o)::H) (n+1) R []:=
 ⟨by omega,fun i hi _=> by rw [QaD,if_neg (by omega)],fun i hi=> by rw [QaD,if_neg (by omega)],fun _ h=> by simp at h,fun _ h=> by simp at h⟩
theorem Shape.set {H:Qar} {n b:Nat} (o:Obj) (hb:b < n):Shape H n (Qgr H b o) n [b] [b]:=
 ⟨Nat.le_refl _,fun i _ hw=> by rw [Qif,if_neg (fun e=> hw (by simp [e.1]))],fun i hi=> by rw [Qif,if_neg (fun e=> by omega)],fun _ h=> h,fun _ h=> by simp at h;omega⟩
def Under (H:Qar) (n:Nat):Prop:=∀i,n<=i->Qaw H i=none
theorem Under.lt {H:Qar} {n i:Nat} {o:Obj} (h:Under H n) (hg:Qaw H i=some o):i < n:=by
 rcases Nat.lt_or_ge i n with hl | hl
 ·exact hl
 ·rw [h i hl] at hg;cases hg
theorem Under.shape {H H':Qar} {n n':Nat} {R W:List Nat} (h:Under H n) (hs:Shape H n H' n' R W):Under H' n':=fun i hi=> by
 rw [hs.top i hi];exact h i (Nat.le_trans hs.le hi)
theorem QoG {P:Program} {t:TypeId} {H:Qar} {n:Nat} {s x:Value} {r:CR} (hu:Under H n) (h:Qek P t H n s x=some r):Shape H n r.H r.n r.R r.W:=by
 unfold Qek at h;split at h
 ·split at h
  ·split at h
   ·split at h
    ·rename_i cs k ko ns m b hh hn;rw [<-Qcm h];have hko:∀q,ko=some q->q < n:=by
      intro q hq;subst hq;have hh':=hh;unfold QiZ at hh';split at hh'
      ·cases hh'
      ·split at hh'
       ·rename_i hg;have e:=(Qog hg hh).2.2.2.2.2;simp only [YO] at e;rw [e];exact hu.lt hg
       ·cases hh'
      ·cases hh'
     refine ⟨by simp,fun i hi hw=> ?_,fun i hi=> ?_,fun i hi=> List.mem_cons_of_mem _ hi,fun i hi=> ?_⟩
     ·simp only at hw ⊢;rw [QaD,if_neg (by omega),Qd4,if_neg];rintro ⟨⟨q,rfl,rfl⟩,_⟩;exact hw (by simp)
     ·simp only at hi ⊢;rw [QaD,if_neg (by omega),Qd4,if_neg];rintro ⟨⟨q,e,rfl⟩,_⟩;have:=hko _ e;omega
     ·simp only at hi ⊢;have:=hko i (by cases ko <;> simp_all);omega
    ·cases h
   ·cases h
  ·cases h
 ·cases h
theorem Qws {P:Program} {t t':TypeId} {H:Qar} {n:Nat} {s x:Value} {r:CR} (hu:Under H n) (h:Q6o P t t' H n s x=some r):Shape H n r.H r.n r.R r.W:=by
 unfold Q6o at h;cases htt:Nat.beq t t' with
 | false=>
   rw [htt] at h;simp only [cond_false] at h;unfold QvH at h;split at h
   ·split at h
    ·split at h
     ·rw [<-Qcm h];exact Shape.new _ _ _ _
     ·cases h
    ·cases h
   ·cases h
 | true=>
   rw [htt] at h;simp only [cond_true] at h;split at h
   ·rename_i r0 hca;simp only [YO] at h;subst h;exact QoG hu hca
   ·unfold Q2P at h;split at h
    ·split at h
     ·rw [<-Qcm h];exact Shape.same _ _ _
     ·cases h
    ·cases h
theorem QlH {P:Program} {F:FuncId->Bool} {o:Oper} {ev:Operand->Option Value} {H:Qar} {n:Nat} {r:CR} (hu:Under H n) (h:cop P F ev o H n=some r):Shape H n r.H r.n r.R r.W:=by
 have pureCase:∀{x:Option Value},mkPure x H n=some r->Shape H n r.H r.n r.R r.W:=by
  intro x h;obtain ⟨v,_,rfl⟩:=Qb4 h;exact Shape.same _ _ _
 unfold cop at h;split at h
 ·exact pureCase h
 ·exact pureCase h
 ·split at h
  ·exact pureCase h
  ·cases h
 ·split at h
  ·rw [<-Qcm h];exact Shape.new _ _ _ _
  ·cases h
 ·split at h
  ·simp only [YO] at h;subst h;exact Shape.new _ _ _ _
  ·cases h
 ·split at h
  ·exact pureCase h
  ·cases h
 ·split at h
  ·split at h
   ·simp only [YO] at h;subst h;exact Shape.new _ _ _ _
   ·cases h
  ·cases h
 ·split at h
  ·split at h
   ·simp only [YO] at h;subst h;exact Shape.same _ _ _
   ·cases h
  ·cases h
 ·-- store
  split at h
  ·split at h
   ·rename_i H' b hb;simp only [YO] at h;subst h;unfold QhD at hb;split at hb
    ·split at hb
     ·rename_i hg;split at hb
      ·have e:=Qcm hb;simp only [YR] at e;obtain ⟨rfl,rfl⟩:=e;exact Shape.set _ (hu.lt hg)
      ·cases hb
     ·cases hb
    ·cases hb
   ·cases h
  ·cases h
 ·split at h
  ·exact pureCase h
  ·cases h
 ·split at h
  ·exact pureCase h
  ·cases h
 ·split at h
  ·exact pureCase h
  ·cases h
 ·split at h
  ·exact pureCase h
  ·exact pureCase h
 ·split at h
  ·exact pureCase h
  ·cases h
 ·split at h
  ·split at h
   ·simp only [YO] at h;subst h;exact Shape.new _ _ _ _
   ·cases h
  ·cases h
 ·split at h
  ·exact pureCase h
  ·exact pureCase h
  ·exact pureCase h
 ·rename_i t x lo hi mx ho;cases hc:QjW P t (ev x) (evo ev lo) (ev hi) (ev mx) with
  | true=> rw [hc] at h;simp only [cond_true,YO] at h;subst h;exact Shape.same _ _ _
  | false=> rw [hc] at h;exact pureCase h
 ·split at h
  ·simp only [YO] at h;subst h;exact Shape.same _ _ _
  ·cases h
 ·simp only [YO] at h;subst h;exact Shape.new _ _ _ _
 ·split at h
  ·split at h
   ·simp only [YO] at h;subst h;exact Shape.same _ _ _
   ·cases h
  ·cases h
 ·-- mapUpdate
  split at h
  ·split at h
   ·rename_i H' b hb;simp only [YO] at h;subst h;unfold QeM at hb;split at hb
    ·split at hb
     ·rename_i hg;have hb:=Qf8 hb;split at hb
      ·split at hb
       ·have e:=Qcm hb;simp only [YR] at e;obtain ⟨rfl,rfl⟩:=e;exact Shape.set _ (hu.lt hg)
       ·cases hb
      ·simp only [YO,YR] at hb;obtain ⟨rfl,rfl⟩:=hb;exact Shape.set _ (hu.lt hg)
      ·cases hb
     ·cases hb
    ·cases hb
   ·cases h
  ·cases h
 ·split at h
  ·split at h
   ·simp only [YO] at h;subst h;exact Shape.same _ _ _
   ·exact pureCase h
  ·cases h
 ·split at h
  ·simp only [YO] at h;subst h;exact Shape.same _ _ _
  ·simp only [YO] at h;subst h;exact Shape.same _ _ _
  ·simp only [YO] at h;subst h;exact Shape.same _ _ _
  ·cases h
 ·split at h
  ·split at h
   ·split at h
    ·-- append
     exact Qws hu h
    ·cases h
   ·cases h
  ·split at h
   ·split at h
    ·simp only [YO] at h;subst h;exact Shape.same _ _ _
    ·simp only [YO] at h;subst h;exact Shape.same _ _ _
    ·exact pureCase h
   ·cases h
  ·split at h
   ·split at h
    ·-- copy
     unfold QsA at h;split at h
     ·split at h
      ·split at h
       ·split at h
        ·rename_i hg _;rw [<-Qcm h];obtain ⟨a1,a2,a3,a4,a5⟩:=Shape.set (H:=H) (n:=n) (.cells (splice _ _ _) _ (0,0)) (hu.lt hg);exact ⟨a1,a2,a3,fun i hi=> by simp at hi;subst hi;simp,a5⟩
        ·cases h
       ·cases h
      ·cases h
     ·cases h
    ·cases h
   ·cases h
  ·exact pureCase h
  ·split at h
   ·split at h
    ·simp only [YO] at h;subst h;exact Shape.same _ _ _
    ·cases h
   ·cases h
  ·cases h
 ·exact pureCase h
end Go.CE

namespace Go.CE
open Go Go.RowKit

inductive CM where
 | run
 | ret
 | pan (v:Value)
structure CF where
 fn:FuncId
 tmps:Tm
 todo:List Item
 defers:List Nat
 mode:CM
 roundOf:Option Nat
structure Rs where
 out:OO
 H:Qar
 n:Nat
 R:List Nat
 W:List Nat
def ofL:List Value->Nat->Tri->Tri
 | [],_,t=> t
 | v::l,i,t=> ofL l (i+1) (Tri.set 14 t i v)
def Qra (T:Tm):Array Value:=((List.range T.len).map (QbV T)).toArray
def ofList (len:Nat) (l:List Value):Tm:=⟨len,ofL l 0 .lf⟩
def Qc7 (P:Program) (f:FuncId) (args:Array Value):Option CF:=
 match nth P.funcs.toList f with
 | some fn=> match fn.body with
   | some c=> bif Nat.ble (args.size+(fn.ntmps - args.size)) 16000 then some ⟨f,ofList (args.size+(fn.ntmps - args.size)) args.toList,[.code c],[],.run,none⟩ else none
   | none=> none
 | none=> none
def Qf4 (H:Qar) (s:Rs):Rs:=
 match s.W,s.out with
 | [],.ret v=> bif af v then {s with H:=H} else s
 | _,_=> s
abbrev Orc:=FuncId->Array Value->Qar->Nat->Option Rs
def Qng (P:Program) (F:FuncId->Bool) (ev:Operand->Option Value) (o:Oper) (H:Qar) (n:Nat):Option CR:=
 match cop P F ev o H n with
 | some r=> bif r.R.all (fun i=> Nat.blt i n) then some r else none
 | none=> none
theorem Qpg {P:Program} {F:FuncId->Bool} {ev:Operand->Option Value} {o:Oper} {H:Qar} {n:Nat} {r:CR} (h:Qng P F ev o H n=some r):cop P F ev o H n=some r/\∀q∈r.R,q < n:=by
 unfold Qng at h;split at h
 ·rename_i r' hr;cases hq:r'.R.all (fun i=> Nat.blt i n) with
  | false=> rw [hq] at h;cases h
  | true=>
    rw [<-Qcm h];exact ⟨hr,fun q hq'=> YL (List.all_eq_true.1 hq q hq')⟩
 ·cases h
def opS (P:Program) (F:FuncId->Bool) (orc:Orc) (rec:CF->Qar->Nat->Option Rs) (T:Tm) (o:Oper) (H:Qar) (n:Nat):Option Rs:=
 match o.op with
 | .defer _=> none
 | .panic x=> match evC T x with
   | some (.iface t v)=> some ⟨.pan (.iface t v),H,n,[],[]⟩
   | _=> none
 | _=> match Qng P F (evC T) o H n with
   | some r=> match r.nx with
     | .val v=> some ⟨.ret v,r.H,r.n,r.R,r.W⟩
     | .enter g args=> match orc g args r.H r.n with
       | some s=> some ⟨s.out,s.H,s.n,r.R++s.R,r.W++s.W⟩
       | none=> match Qc7 P g args with
         | some c=> match rec c r.H r.n with
           | some s=> match Qf4 r.H s with
             | s=> some ⟨s.out,s.H,s.n,r.R++s.R,r.W++s.W⟩
           | none=> none
         | none=> none
     | .round l fn tm a b=> bif Nat.ble tm.size 16000 then match rec ⟨fn,ofList tm.size tm.toList,[.code a,.beginRound,.code b],[],.run,some l⟩ r.H r.n with
       | some s=> some ⟨s.out,s.H,s.n,r.R++s.R,r.W++s.W⟩
       | none=> none
       else none
   | none=> none
def Qiy (T:Tm):Option Tmp->Bool
 | some d=> Nat.blt d T.len && Nat.blt d 16000
 | none=> true
inductive RF where
 | ok (T:Tm) (H:Qar) (n:Nat)
 | pan (T:Tm) (v:Value) (H:Qar) (n:Nat) (R W:List Nat)
def QvT (P:Program) (F:FuncId->Bool) (orc:Orc) (rec:CF->Qar->Nat->Option Rs) (ops:Array Oper):List Oper->Tm->Qar->Nat->Option (List Rec×RF)
 | [],T,H,n=> some ([],.ok T H n)
 | o::l,T,H,n=>
   bif Qiy T o.dst then
    bif Region.wanted o (Qbs ops T) then
     match opS P F orc rec T o H n with
     | some s=> match s.out with
       | .ret v=> match QvT P F orc rec ops l (Qgy T o.dst v) s.H s.n with
         | some (rs,fin)=> some (⟨o,true,v,T,H,s.H,n,s.n,s.R,s.W⟩::rs,fin)
         | none=> none
       | .pan v=> some ([],.pan T v s.H s.n s.R s.W)
     | none=> none
    else match QvT P F orc rec ops l (Qgy T o.dst undef) H n with
     | some (rs,fin)=> some (⟨o,false,undef,T,H,H,n,n,[],[]⟩::rs,fin)
     | none=> none
   else none
def Qd1:Nat->List Oper->Bool
 | _,[]=> true
 | k,o::l=> o.after.all (fun e=> !Region.binds .any e || Nat.blt e.on k) && Qd1 (k+1) l
def QhU (P:Program) (H:Qar) (T:Tm):List ResultVar->Option (List Value×List Nat)
 | []=> some ([],[])
 | .tmp t::l=> match QhU P H T l with
   | some (vs,R)=> some (QbV T t::vs,R)
   | none=> none
 | .cell a t::l=> match Qjx P t H (QbV T a) with
   | some (v,b)=> match QhU P H T l with
     | some (vs,R)=> some (v::vs,b::R)
     | none=> none
   | none=> none
def oneOf:List Value->Value
 | [v]=> v
 | vs=> .tuple vs.toArray
def Q0m (P:Program) (f:FuncId) (H:Qar) (T:Tm):Option (Value×List Nat):=
 match nth P.funcs.toList f with
 | some fn=> match QhU P H T fn.results.toList with
   | some (vs,R)=> some (oneOf vs,R)
   | none=> none
 | none=> none
def Q7A (P:Program) (f:FuncId):Bool:=match nth P.funcs.toList f with | some _=> true | none=> false
inductive FS where
 | go (c:CF) (H:Qar) (n:Nat) (R W:List Nat)
 | done (out:OO) (H:Qar) (n:Nat) (R W:List Nat)
def Qh6 (c:CF) (H:Qar) (n:Nat) (jump:Option Code):Option FS:=
 match c.roundOf with
 | none=> match jump with
   | none | some .ret=> some (.go {c with mode:=.ret} H n [] [])
   | _=> none
 | some l=> match Qaw H l with
   | some (.loop r)=> some (.done (.ret (.bool jump.isNone)) (Qgr H l (.loop {r with state:=if jump.isNone then .ready else .done,pending:=jump})) n [l] [l])
   | _=> none
def Qeu (c:CF) (H:Qar) (n:Nat) (params:Array Tmp) (assign body:Code):Option (Qar×Nat×List Nat×List Nat):=
 match c.roundOf with
 | none=> some ((n+1,.loop ⟨.ready,none,c.fn,Qra c.tmps,params,assign,body,n⟩)::(n,.deferred (some []))::H,n+1,[n],[])
 | some l=> match Qaw H l with
   | some (.loop _)=> some ((n,.loop ⟨.ready,none,c.fn,Qra c.tmps,params,assign,body,n⟩)::H,n,[],[l])
   | _=> none
def Qiw (P:Program) (F:FuncId->Bool) (orc:Orc) (rec:CF->Qar->Nat->Option Rs) (c:CF) (H:Qar) (n:Nat):Option FS:=
 match c.mode with
 | .run=> match c.todo with
   | []=> Qh6 c H n none
   | .code .ret::_=> Qh6 c H n (some .ret)
   | .code .skip::k | .code (.label _)::k | .inBlock _::k | .inScope _::k=> some (.go {c with todo:=k} H n [] [])
   | .code (.seq a b)::k=> some (.go {c with todo:=.code a::.code b::k} H n [] [])
   | .code (.cond x a b)::k=> match evC c.tmps x with
     | some (.bool t)=> some (.go {c with todo:=.code (bif t then a else b)::k} H n [] [])
     | _=> none
   | .code (.block id b)::k=> some (.go {c with todo:=.code b::.inBlock id::k} H n [] [])
   | .code (.loop b)::k | .inLoop b::k=> some (.go {c with todo:=.code b::.inLoop b::k} H n [] [])
   | .code (.scope b)::k=> some (.go {c with todo:=.code b::.inScope b::k} H n [] [])
   | .code (.exit id)::k=> match exitTo id k with
     | some k'=> some (.go {c with todo:=k'} H n [] [])
     | none=> Qh6 c H n (some (.exit id))
   | .code (.goto l)::k=> match gotoIn l k with
     | some k'=> some (.go {c with todo:=k'} H n [] [])
     | none=> Qh6 c H n (some (.goto l))
   | .code (.region _ ops draw)::k=> match QvT P F orc rec ops ops.toList c.tmps H n with
     | some (recs,.ok T' H' n')=> bif !draw || (Qd1 0 ops.toList && indep ops 0 recs (QnF ops.toList [])) then some (.go {c with tmps:=T',todo:=k} H' n' (Qnr recs) (QiL recs)) else none
     | some (recs,.pan T' v H' n' R W)=> bif draw then none else some (.go {c with tmps:=T',mode:=.pan v} H' n' (Qnr recs++R) (QiL recs++W))
     | none=> none
   | .code (.rangeFunc f params assign body)::k=> match evC c.tmps f with
     | some fv=>
       match Qeu c H n params assign body with
       | some (H1,l,ds,R1)=> match QiH F H1 fv #[.func (.yield l) #[] #[]] with
         | some (.enter g args,R2)=> match Qc7 P g args with
           | some c1=> match rec c1 H1 (l+1) with
             | some s=> match s.out with
               | .ret _=> some (.go {c with todo:=.endRangeFunc l::k,defers:=ds++c.defers} s.H s.n (R1++R2++s.R) s.W)
               | .pan v=> some (.go {c with mode:=.pan v,defers:=ds++c.defers} s.H s.n (R1++R2++s.R) s.W)
             | none=> none
           | none=> none
         | _=> none
       | none=> none
     | none=> none
   | .endRangeFunc l::k=> match Qaw H l with
     | some (.loop r)=> bif !(decide (r.state=.busy)) then some (.go {c with todo:=(r.pending.map Item.code).toList++k} (Qgr H l (.loop {r with state:=.exhausted})) n [l] [l]) else none
     | _=> none
   | .beginRound::k=> match c.roundOf with
     | some l=> match Qaw H l with
       | some (.loop r)=> bif decide (r.state=.ready) then some (.go {c with todo:=k} (Qgr H l (.loop {r with state:=.busy})) n [l] [l]) else none
       | _=> none
     | none=> none
   | _=> none
 | m=> match c.defers with
   | d::ds=> match Qaw H d with
     | some (.deferred (some []))=> some (.go {c with defers:=ds} (Qgr H d (.deferred none)) n [d] [d])
     | _=> none
   | []=> match m with
     | .pan v=> bif Q7A P c.fn then some (.done (.pan v) H n [] []) else none
     | _=> match c.roundOf,Q0m P c.fn H c.tmps with
       | none,some (v,R)=> some (.done (.ret v) H n R [])
       | _,_=> none
def Qeb (b:Nat):List Nat->List Nat->List Nat
 | [],acc=> acc
 | x::l,acc=> Qeb b l (bif Nat.blt x b && !(acc.contains x) then x::acc else acc)
theorem QoI {b:Nat}:∀(l acc:List Nat) (i:Nat),(i∈Qeb b l acc->i∈acc\/(i∈l/\i < b))/\(i∈acc->i∈Qeb b l acc)/\(i∈l->i < b->i∈Qeb b l acc)
 | [],acc,i=> ⟨fun h=> .inl h,fun h=> h,fun h=> by simp at h⟩
 | x::l,acc,i=> by
   obtain ⟨h1,h2,h3⟩:=QoI l (bif Nat.blt x b && !(acc.contains x) then x::acc else acc) i;have hb:Nat.blt x b=true<->x < b:=⟨fun h=> YL h,fun h=> Nat.ble_eq_true_of_le h⟩
   simp only [Qeb];cases hc:(Nat.blt x b && !(acc.contains x)) with
   | true=>
     rw [hc] at h1 h2 h3;simp only [cond_true] at h1 h2 h3 ⊢;simp only [YB] at hc;refine ⟨fun h=> ?_,fun h=> h2 (List.mem_cons_of_mem _ h),fun h hl=> ?_⟩
     ·rcases h1 h with h | h
      ·rcases List.mem_cons.1 h with rfl | h
       ·exact .inr ⟨by simp,hb.1 hc.1⟩
       ·exact .inl h
      ·exact .inr ⟨List.mem_cons_of_mem _ h.1,h.2⟩
     ·rcases List.mem_cons.1 h with rfl | h
      ·exact h2 (by simp)
      ·exact h3 h hl
   | false=>
     rw [hc] at h1 h2 h3;simp only [cond_false] at h1 h2 h3 ⊢;refine ⟨fun h=> (h1 h).imp id fun h=> ⟨List.mem_cons_of_mem _ h.1,h.2⟩,h2,fun h hl=> ?_⟩;rcases List.mem_cons.1 h with rfl | h
     ·rw [hb.2 hl] at hc;simp only [Bool.true_and,Bool.not_eq_false',List.contains_iff_mem] at hc;exact h2 hc
     ·exact h3 h hl
def Q1Z (P:Program) (F:FuncId->Bool) (orc:Orc):Nat->Nat->CF->Qar->Nat->List Nat->List Nat->Option Rs
 | 0,_,_,_,_,_,_=> none
 | fuel+1,b,c,H,n,R,W=>
   match Qiw P F orc (fun c1 H1 n1=> Q1Z P F orc fuel n1 c1 H1 n1 [] []) c H n with
   | some (.go c' H' n' R' W')=> Q1Z P F orc fuel b c' H' n' (Qeb b R' R) (Qeb b W' W)
   | some (.done out H' n' R' W')=> some ⟨out,H',n',Qeb b R' R,Qeb b W' W⟩
   | none=> none
end Go.CE

namespace Go.CE
open Go Go.RowKit

inductive IR (μ:Mu):Item->Item->Prop
 | code (c):IR μ (.code c) (.code c)
 | inBlock (id):IR μ (.inBlock id) (.inBlock id)
 | inLoop (c):IR μ (.inLoop c) (.inLoop c)
 | inScope (c):IR μ (.inScope c) (.inScope c)
 | beginRound:IR μ .beginRound .beginRound
 | endRF {l im}:μ l=some im->IR μ (.endRangeFunc l) (.endRangeFunc im.blk)
inductive TodoR (μ:Mu):List Item->List Item->Prop
 | nil:TodoR μ [] []
 | cons {x x' l l'}:IR μ x x'->TodoR μ l l'->TodoR μ (x::l) (x'::l')
theorem IR.mono {μ μ':Mu} (e:Ext μ μ') {x x':Item} (h:IR μ x x'):IR μ' x x':=by
 cases h with
 | code c=> exact .code c
 | inBlock id=> exact .inBlock id
 | inLoop c=> exact .inLoop c
 | inScope c=> exact .inScope c
 | beginRound=> exact .beginRound
 | endRF h=> exact .endRF (e _ _ h)
theorem TodoR.mono {μ μ':Mu} (e:Ext μ μ') {l l':List Item} (h:TodoR μ l l'):TodoR μ' l l':=by
 induction h with
 | nil=> exact .nil
 | cons h _ ih=> exact .cons (h.mono e) ih
inductive DfR (μ:Mu):List Nat->List Deferred->Prop
 | nil:DfR μ [] []
 | cons {d im l l'}:μ d=some im->DfR μ l l'->DfR μ (d::l) ({target:=.collected im.blk,args:=#[]}::l')
theorem DfR.mono {μ μ':Mu} (e:Ext μ μ') {l:List Nat} {l':List Deferred} (h:DfR μ l l'):DfR μ' l l':=by
 induction h with
 | nil=> exact .nil
 | cons h _ ih=> exact .cons (e _ _ h) ih
inductive MR (μ:Mu):CM->FrameMode->Prop
 | run:MR μ .run .run
 | ret:MR μ .ret .returning
 | pan {v v'}:VR μ v v'->MR μ (.pan v) (.panicking [{v:=v',recovered:=false}])
theorem MR.mono {μ μ':Mu} (e:Ext μ μ') {m:CM} {m':FrameMode} (h:MR μ m m'):MR μ' m m':=by
 cases h with
 | run=> exact .run
 | ret=> exact .ret
 | pan h=> exact .pan (h.mono e)
def RoR (μ:Mu):Option Nat->Option Nat->Prop
 | none,none=> True
 | some l,some l'=> ∃im,μ l=some im/\im.blk=l'
 | _,_=> False
theorem RoR.mono {μ μ':Mu} (e:Ext μ μ') {a b:Option Nat} (h:RoR μ a b):RoR μ' a b:=by
 cases a <;> cases b <;> first | exact h | skip
 obtain ⟨im,h1,h2⟩:=h;exact ⟨im,e _ _ h1,h2⟩
def CM.pans:CM->Bool
 | .pan _=> true
 | _=> false
structure Bot where
 D:List Deferred
 kd:CallKind
def Bot.no:Bot:=⟨[],.normal⟩
def DfB (Z:Bot) (μ:Mu) (l:List Nat) (l':List Deferred):Prop:=∃L,DfR μ l L/\l'=L++Z.D
theorem DfB.mono {Z:Bot} {μ μ':Mu} {l:List Nat} {l':List Deferred} (h:DfB Z μ l l') (e:Ext μ μ'):DfB Z μ' l l':=let ⟨L,h1,h2⟩:=h;⟨L,h1.mono e,h2⟩
theorem DfB.empty {Z:Bot} {μ:Mu} {l':List Deferred} (h:DfB Z μ [] l'):l'=Z.D:=by
 obtain ⟨L,h1,h2⟩:=h;cases h1;simpa using h2
theorem DfB.of_empty {Z:Bot} {μ:Mu} {l':List Deferred} (h:l'=Z.D):DfB Z μ [] l':=⟨[],.nil,by simpa using h⟩
theorem DfB.cons_inv {Z:Bot} {μ:Mu} {d:Nat} {l:List Nat} {l':List Deferred} (h:DfB Z μ (d::l) l'):∃im l2,μ d=some im/\l'={target:=.collected im.blk,args:=#[]}::l2/\DfB Z μ l l2:=by
 obtain ⟨L,h1,h2⟩:=h;cases h1 with
 | cons a b=> exact ⟨_,_,a,h2,_,b,rfl⟩
structure FrR (Z:Bot) (μ:Mu) (c:CF) (fr:Frame):Prop where
 fn:fr.fn=c.fn
 tmps:TR μ c.tmps fr.tmps
 todo:c.mode.pans=false->TodoR μ c.todo fr.todo
 defers:DfB Z μ c.defers fr.defers
 mode:MR μ c.mode fr.mode
 kind:fr.kind=Z.kd
 round:RoR μ c.roundOf fr.roundOf
theorem FrR.mono {Z:Bot} {μ μ':Mu} (e:Ext μ μ') {c:CF} {fr:Frame} (h:FrR Z μ c fr):FrR Z μ' c fr:=⟨h.fn,h.tmps.mono e,fun q=> (h.todo q).mono e,h.defers.mono e,h.mode.mono e,h.kind,h.round.mono e⟩
theorem OR2.mono {μ μ':Mu} (e:Ext μ μ') {a b:OO} (h:OR2 μ a b):OR2 μ' a b:=by
 cases h with
 | ret h=> exact .ret (h.mono e)
 | pan h=> exact .pan (h.mono e)
def OO.ending:OO->Ending
 | .ret v=> .returned v
 | .pan v=> .panicked [{v,recovered:=false}]
def EndsAs (P:Program) (fr:Frame) (cs:List Frame) (w:World) (out:OO) (w':World):Prop:=
 (fr.roundOf=none->∃frE,Steps P (lone fr cs w) (lone frE cs w')/\frE.fn=fr.fn/\frE.leaving P w' out.ending)/\
 (∀c cs',cs=c::cs'->Steps P (lone fr cs w) (lone (out.on c) cs' w'))
theorem EndsAs.of_steps {P:Program} {fr fr1:Frame} {cs:List Frame} {w w1 w':World} {out:OO} (h:Steps P (lone fr cs w) (lone fr1 cs w1)) (hr:fr1.roundOf=fr.roundOf) (hf:fr1.fn=fr.fn) (k:EndsAs P fr1 cs w1 out w'):EndsAs P fr cs w out w':=by
 refine ⟨fun hn=> ?_,fun c cs' e=> h.trans (k.2 c cs' e)⟩;obtain ⟨frE,a,b,d⟩:=k.1 (hr.trans hn);exact ⟨frE,h.trans a,b.trans hf,d⟩
structure FJ (P:Program) (B:Lo) (c:CF) (H:Qar) (n:Nat) (out:OO) (H':Qar) (n':Nat) (R W:List Nat):Prop where
 shape:Shape H n H' n' R W
 sem:∀(S:Nat->Prop) (μ:Mu) (w:World) (fr:Frame) (cs:List Frame),Ok B S μ (Qaw H) w->B.has w->(∀i,S i->i < n)->Qn7 μ n n'->FrR Bot.no μ c fr->(∀i∈R,i < n->S i)->
  ∃out' w' μ',Post B S n n' W μ μ' H H' w w'/\OR2 μ' out out'/\EndsAs P fr cs w out' w'
def QwH (P:Program) (B:Lo) (rec:CF->Qar->Nat->Option Rs):Prop:=
 ∀c H n s,Under H n->rec c H n=some s->FJ P B c H n s.out s.H s.n s.R s.W
def Qiq (P:Program) (B:Lo) (orc:Orc):Prop:=
 ∀g args H n s,Under H n->orc g args H n=some s->Shape H n s.H s.n s.R s.W/\∀(S:Nat->Prop) (μ:Mu) (w:World) (args':Array Value) (cs:List Frame),Ok B S μ (Qaw H) w->B.has w->(∀i,S i->i < n)->Qn7 μ n s.n->VRs μ args args'->(∀i∈s.R,i < n->S i)->
  ∃out' w' μ',Post B S n s.n s.W μ μ' H s.H w w'/\OR2 μ' s.out out'/\EndsAs P (Frame.enter P g args' .normal) cs w out' w'
theorem QiW {P:Program} {fr:Frame} {cs:List Frame} {w:World} {ops:Array Oper} {i:Nat} {rest:List Nat} {k:List Item} {o:Oper} (hm:fr.mode=.run) (ht:fr.todo=.inRegion ops (i::rest)::k) (ho:ops[i]? =some o)
 (hw:Region.wanted o (yielded ops fr.tmps)=true) (hd:∀c,o.op≠.defer c):
 stepG P true {frame:=fr,callers:=cs,status:=.running,dying:=none} w=stepG.apply P true fr cs none (execOp fr.eval o) w:=by
 simp only [stepG,hm];unfold stepG.exec;simp only [ht,ho,Option.map_some,hw,Option.getD_some,if_true];unfold stepG.oper;simp only [Frame.oper?,ht,ho];cases hr:fr.roundOf with
 | none=> rfl
 | some l=>
   cases hop:o.op <;> first | rfl | exact absurd hop (hd _)
section
variable {P:Program} {o:Oper} {w w1 w':World} {fr:Frame} {cs:List Frame} {ops:Array Oper} {i:Nat} {rest:List Nat} {k:List Item}
theorem Qhq {v:Value} (hm:fr.mode=.run) (ht:fr.todo=.inRegion ops (i::rest)::k) (ho:ops[i]? =some o) (hw:Region.wanted o (yielded ops fr.tmps)=true) (hd:∀c,o.op≠.defer c)
 (h:(execOp fr.eval o).run P w=.ok (.value v) w'):Steps P (lone fr cs w) (lone ((OO.ret v).on fr) cs w'):=by
 refine .one (step_lone_go ?_);rw [QiW hm ht ho hw hd];simp [stepG.apply,h,OO.on]
theorem Q1j (hm:fr.mode=.run) (ht:fr.todo=.inRegion ops (i::rest)::k) (ho:ops[i]? =some o) (hw:Region.wanted o (yielded ops fr.tmps)=true) (hd:∀c,o.op≠.defer c)
 (h:(execOp fr.eval o).run P w=.ok .skip w'):Steps P (lone fr cs w) (lone ((OO.ret undef).on fr) cs w'):=by
 refine .one (step_lone_go ?_);rw [QiW hm ht ho hw hd];simp [stepG.apply,h,OO.on]
theorem Qxh {v:Value} (hm:fr.mode=.run) (ht:fr.todo=.inRegion ops (i::rest)::k) (ho:ops[i]? =some o) (hw:Region.wanted o (yielded ops fr.tmps)=true) (hd:∀c,o.op≠.defer c)
 (h:(execOp fr.eval o).run P w=.halt (.panic v) w'):Steps P (lone fr cs w) (lone ((OO.pan v).on fr) cs w'):=by
 refine .one (step_lone_go ?_);rw [QiW hm ht ho hw hd];simp [stepG.apply,h,OO.on]
theorem QnM {f:FuncId} {args:Array Value} {out:OO} (hm:fr.mode=.run) (ht:fr.todo=.inRegion ops (i::rest)::k) (ho:ops[i]? =some o) (hw:Region.wanted o (yielded ops fr.tmps)=true) (hd:∀c,o.op≠.defer c)
 (h:(execOp fr.eval o).run P w=.ok (.enter f args) w1) (q:EndsAs P (Frame.enter P f args .normal) (fr::cs) w1 out w'):Steps P (lone fr cs w) (lone (out.on fr) cs w'):=by
 refine .head (step_lone_go (fr':=Frame.enter P f args .normal) (cs':=fr::cs) (w':=w1) ?_) (q.2 fr cs rfl);rw [QiW hm ht ho hw hd];simp [stepG.apply,h,ht]
theorem Qxy {l:Nat} {f:FuncId} {tm:Array Value} {a b:Code} {out:OO} (hm:fr.mode=.run) (ht:fr.todo=.inRegion ops (i::rest)::k) (ho:ops[i]? =some o) (hw:Region.wanted o (yielded ops fr.tmps)=true) (hd:∀c,o.op≠.defer c)
 (h:(execOp fr.eval o).run P w=.ok (.round l f tm a b) w1) (q:EndsAs P (Frame.round l f tm a b .normal) (fr::cs) w1 out w'):Steps P (lone fr cs w) (lone (out.on fr) cs w'):=by
 refine .head (step_lone_go (fr':=Frame.round l f tm a b .normal) (cs':=fr::cs) (w':=w1) ?_) (q.2 fr cs rfl);rw [QiW hm ht ho hw hd];simp [stepG.apply,h]
end

theorem QjM:∀(l:List Value) (i:Nat) (t:Tri) (j:Nat),i+l.length<=16000->(ofL l i t).get j=if i<=j/\j < i+l.length then l.getD (j - i) undef else t.get j
 | [],i,t,j,_=> by simp [ofL];omega
 | v::l,i,t,j,h=> by
   simp only [List.length_cons] at h;simp only [ofL];rw [QjM l (i+1) _ j (by omega),Tri.get_set 14 t i v j (Q8w i (by omega))];simp only [List.length_cons];by_cases h1:i+1<=j/\j < i+1+l.length
   ·rw [if_pos h1,if_pos (by omega)];rw [show j - i=(j - (i+1))+1 by omega];rfl
   ·rw [if_neg h1];by_cases h2:j=i
    ·subst h2;rw [if_pos rfl,if_pos (by omega)];simp
    ·rw [if_neg h2,if_neg (by omega)]
theorem QqY {μ:Mu} {xs xs':Array Value} (h:VRs μ xs xs') {m:Nat} (hm:xs.size+(m - xs.size)<=16000):TR μ (ofList (xs.size+(m - xs.size)) xs.toList) (xs'++Array.replicate (m - xs'.size) undef):=by
 refine ⟨by simp [ofList,h.1],fun t=> ?_⟩;simp only [QbV,ofList];rw [QjM _ _ _ _ (by simp;omega)];simp only [Nat.zero_le,true_and,Nat.zero_add,Array.length_toList,Nat.sub_zero,Tri.get_lf];by_cases ht:t < xs.size
 ·rw [if_pos ht];have ht':t < xs'.size:=h.1 ▸ ht;have:=h.2 t xs[t] xs'[t] (by simp [ht]) (by simp [ht']);simpa [ht,ht',Array.getElem?_append] using this
 ·rw [if_neg ht];have ht':¬t < xs'.size:=h.1 ▸ ht;have e:(xs'++Array.replicate (m - xs'.size) undef).getD t undef=undef:=by
   by_cases h2:t - xs'.size < m - xs'.size
   ·simp [Array.getElem?_append,ht',h2]
   ·simp [Array.getElem?_append,ht',h2]
  rw [e];exact VR.undef
theorem Q5d {μ:Mu} {xs xs':Array Value} (h:VRs μ xs xs') (hm:xs.size<=16000):TR μ (ofList xs.size xs.toList) xs':=by
 have:=QqY (m:=0) h (by omega);simpa using this
theorem Qop {P:Program} {f:FuncId} {args args':Array Value} {c:CF} {μ:Mu} (kd:CallKind) (h:Qc7 P f args=some c) (hv:VRs μ args args'):FrR ⟨[],kd⟩ μ c (Frame.enter P f args' kd):=by
 unfold Qc7 at h;rw [Qke,Array.getElem?_toList] at h;split at h
 ·rename_i fn hf;split at h
  ·rename_i b hb;have hlim:args.size+(fn.ntmps - args.size)<=16000:=by
    cases hq:Nat.ble (args.size+(fn.ntmps - args.size)) 16000 with
    | false=> rw [hq] at h;cases h
    | true=> exact YL hq
   rw [<-Qcm h];have ht:=QqY (m:=fn.ntmps) hv hlim;exact ⟨rfl,by simpa [Frame.enter,hf] using ht,fun _=> by simp only [Frame.enter,hf,Option.bind_some,hb,Option.getD_some];exact .cons (.code _) .nil,.of_empty rfl,.run,rfl,trivial⟩
  ·cases h
 ·cases h
theorem Qen {P:Program} {f:FuncId} {args args':Array Value} {c:CF} {μ:Mu} (h:Qc7 P f args=some c) (hv:VRs μ args args'):FrR Bot.no μ c (Frame.enter P f args' .normal):=Qop .normal h hv
end Go.CE

namespace Go.CE
open Go Go.RowKit

theorem Post.ofBelow {B n:Nat} {S:Nat->Prop} {μ:Mu} {H:Qar} {w w':World} (hok:Ok B S μ (Qaw H) w) (h:Below w.heap.size w w'):Post B S n n [] μ μ H H w w':=by
 refine ⟨⟨fun i o hi ho hl=> ?_,fun i o im hi ho hl him=> ?_,fun i j oi oj a b hi hj=> ?_,fun i o hi ho hr=> ?_,fun i j oi oj a b x hi hj=> ?_⟩,Nat.le_refl _,fun _ _=> rfl,fun _ _ _=> rfl,h.size,fun b hb _=> h.block b hb,fun _ h=> by simp at h,fun i im o h1 h2=> absurd h1 (by omega),fun i im o h1=> h1.elim (fun h1=> absurd h1.1 (by omega)) (fun h=> by simp at h),h.os,h.tape,h.output⟩
 ·have hi:=hi.elim id fun h=> absurd h.1 (by omega)
  obtain ⟨im,him,hr⟩:=hok.rel i o hi ho hl;exact ⟨im,him,hr.keep (Ext.refl _) (h.block _ (hok.low i o im hi ho hl him).1)⟩
 ·have hi:=hi.elim id fun h=> absurd h.1 (by omega)
  have:=hok.low i o im hi ho hl him;exact ⟨Nat.lt_of_lt_of_le this.1 h.size,this.2⟩
 ·exact hok.inj i j oi oj a b (hi.elim id fun h=> absurd h.1 (by omega)) (hj.elim id fun h=> absurd h.1 (by omega))
 ·have hi:=hi.elim id fun h=> absurd h.1 (by omega)
  obtain ⟨im,him,hf⟩:=hok.reg i o hi ho hr;exact ⟨im,him,fun b x hx=> by rw [h.block b (QgR hok hi ho hr him hx)];exact hf b x hx⟩
 ·exact hok.sep i j oi oj a b x (hi.elim id fun h=> absurd h.1 (by omega)) (hj.elim id fun h=> absurd h.1 (by omega))
theorem Post.drop {B n n':Nat} {S:Nat->Prop} {μ μ':Mu} {H H':Qar} {w w':World} (h:Post B S n n' [] μ μ' H H' w w') (hu:Under H n):Post B S n n' [] μ μ' H H w w':=by
 have hg:∀i o,Qaw H i=some o->S i\/n<=i/\i < n'->S i/\Qaw H' i=some o:=by
  intro i o ho hi;have hlt:=hu.lt ho;have hs:=hi.elim id fun h=> absurd h.1 (by omega)
  exact ⟨hs,by rw [h.keep i hlt (by simp)];exact ho⟩
 refine ⟨⟨fun i o hi ho hl=> ?_,fun i o im hi ho hl him=> ?_,fun i j oi oj a b hi hj hij hoi hoj=> ?_,fun i o hi ho=> ?_,fun i j oi oj a b x hi hj hoi hoj=> ?_⟩,h.le,h.ext,fun _ _ _=> rfl,h.grow,h.frame,h.wr,fun i im o h1 h2 ho=> ?_,fun i im o h1 ho=> ?_,h.os,h.tape,h.output⟩
 ·exact h.ok.rel i o hi (hg i o ho hi).2 hl
 ·exact h.ok.low i o im hi (hg i o ho hi).2 hl him
 ·exact h.ok.inj i j oi oj a b hi hj hij (hg i oi hoi hi).2 (hg j oj hoj hj).2
 ·exact h.ok.reg i o hi (hg i o ho hi).2
 ·exact h.ok.sep i j oi oj a b x hi hj (hg i oi hoi hi).2 (hg j oj hoj hj).2
 ·have:=hu.lt ho;omega
 ·have:=hu.lt ho;rcases h1 with h1 | h1
  ·omega
  ·simp at h1
theorem Shape.drop {H H':Qar} {n n':Nat} {R:List Nat} (h:Shape H n H' n' R []):Shape H n H n' R []:=⟨h.le,fun _ _ _=> rfl,fun _ _=> rfl,h.sub,fun _ h=> by simp at h⟩
theorem Q59 {P:Program} {B:Lo} {c:CF} {H:Qar} {n:Nat} {s:Rs} (hu:Under H n) (h:FJ P B c H n s.out s.H s.n s.R s.W):FJ P B c H n (Qf4 H s).out (Qf4 H s).H (Qf4 H s).n (Qf4 H s).R (Qf4 H s).W:=by
 unfold Qf4;split
 ·rename_i v hW hv;cases ha:af v with
  | false=> exact h
  | true=>
    simp only [cond_true];rw [hW] at h;refine ⟨by rw [hW];exact h.shape.drop,fun S μ w fr cs hok hB hS hf hfr hR=> ?_⟩;obtain ⟨out',w',μ',hp,ho,he⟩:=h.sem S μ w fr cs hok hB hS hf hfr hR;exact ⟨out',w',μ',by rw [hW];exact hp.drop hu,ho,he⟩
 ·exact h
theorem Q2V {P:Program} {F:FuncId->Bool} {orc:Orc} {rec:CF->Qar->Nat->Option Rs} {T:Tm} {o:Oper} {H:Qar} {n:Nat} {s:Rs} (h:opS P F orc rec T o H n=some s):∀c,o.op≠.defer c:=by
 intro c e;simp [opS,e] at h
theorem Qff {P:Program} {F:FuncId->Bool} {orc:Orc} {B:Lo} {rec:CF->Qar->Nat->Option Rs} (hF:∀g,F g=true->Qau P g=true) (hrec:QwH P B rec) (horc:Qiq P B orc) {T:Tm} {o:Oper} {H:Qar} {n:Nat} {s:Rs} (hu:Under H n)
 (h:opS P F orc rec T o H n=some s):Qs4 P B o (evC T) H n s.out s.H s.n s.R s.W/\Shape H n s.H s.n s.R s.W:=by
 have hd:=Q2V h;unfold opS at h;split at h
 ·cases h
 ·-- panic
  rename_i x hop;split at h
  ·rename_i t v hx;simp only [YO] at h;subst h;refine ⟨fun S μ w fr cs k ops i rest hok hB hS hf hev hR hm ht ho hw=> ?_,Shape.same _ _ _⟩;have hv:=hev x (by simp [hop,Op.operands]) _ hx;generalize hg:fr.eval x=u at hv;cases hv with
   | iface hv'=>
     rename_i v';exact ⟨.pan (.iface t v'),w,μ,Post.refl hok,.pan (.iface hv'),Qxh hm ht ho hw hd (by simp [execOp,hop,hg,Instr.panic])⟩
  ·cases h
 ·split at h
  ·rename_i r hrr;obtain ⟨hr,hRlt⟩:=Qpg hrr;have hsnd:=Q5w (B:=B) hF hr;have hsh:=QlH hu hr;have hu1:=hu.shape hsh;split at h
   ·-- a value
    rename_i v hnx;simp only [YO] at h;subst h;refine ⟨fun S μ w fr cs k ops i rest hok hB hS hf hev hR hm ht ho hw=> ?_,hsh⟩;obtain ⟨nx,w',μ',hrun,hp,hnr⟩:=hsnd S μ fr.eval w hok hB.le hS hf hev (fun q hq=> hR q hq (hRlt q hq));rw [hnx] at hnr;cases hnr with
    | val hv=> exact ⟨_,w',μ',hp,.ret hv,Qhq hm ht ho hw hd hrun⟩
    | skip=> exact ⟨_,w',μ',hp,.ret VR.undef,Q1j hm ht ho hw hd hrun⟩
   ·-- a call
    rename_i g args hnx;split at h
    ·-- known
     rename_i s1 hs1;obtain ⟨hsh1,hsem⟩:=horc g args r.H r.n s1 hu1 hs1;simp only [YO] at h;subst h;refine ⟨fun S μ w fr cs k ops i rest hok hB hS hf hev hR hm ht ho hw=> ?_,hsh.trans hsh1⟩;simp only at hf hR;have l1:=hsh.le;have l2:=hsh1.le;obtain ⟨nx,w1,μ1,hrun,hp,hnr⟩:=hsnd S μ fr.eval w hok hB.le hS (fun q a b=> hf q a (by omega)) hev (fun q hq=> hR q (List.mem_append_left _ hq) (hRlt q hq));rw [hnx] at hnr;cases hnr with
     | enter ha=>
       obtain ⟨out',w',μ',hp2,ho2,hends⟩:=hsem _ μ1 w1 _ (fr::cs) hp.ok (hB.post hok hp) (fun q hq=> hq.elim (fun e=> by have:=hS q e;omega) (fun e=> e.2))
        (fun q a b=> by rw [hp.ext q (by omega)];exact hf q (by omega) b) ha (fun q hq hlt=> by
         rcases Nat.lt_or_ge q n with h1 | h1
         ·exact .inl (hR q (List.mem_append_right _ hq) h1)
         ·exact .inr ⟨h1,hlt⟩)
       exact ⟨out',w',μ',hp.trans hp2,ho2,QnM hm ht ho hw hd hrun hends⟩
    ·split at h
     ·rename_i c hc;split at h
      ·rename_i s0 hs0;have hfj0:=hrec c r.H r.n s0 hu1 hs0;have hfj:=Q59 hu1 hfj0;generalize hdn:Qf4 r.H s0=s1 at h hfj;simp only [YO] at h;subst h;refine ⟨fun S μ w fr cs k ops i rest hok hB hS hf hev hR hm ht ho hw=> ?_,hsh.trans hfj.shape⟩;simp only at hf hR;have l1:=hsh.le;have l2:=hfj.shape.le;obtain ⟨nx,w1,μ1,hrun,hp,hnr⟩:=hsnd S μ fr.eval w hok hB.le hS (fun q a b=> hf q a (by omega)) hev (fun q hq=> hR q (List.mem_append_left _ hq) (hRlt q hq));rw [hnx] at hnr;cases hnr with
       | enter ha=>
         obtain ⟨out',w',μ',hp2,ho2,hends⟩:=hfj.sem _ μ1 w1 _ (fr::cs) hp.ok (hB.post hok hp) (fun q hq=> hq.elim (fun e=> by have:=hS q e;omega) (fun e=> e.2))
          (fun q a b=> by rw [hp.ext q (by omega)];exact hf q (by omega) b) (Qen hc ha) (fun q hq hlt=> by
           rcases Nat.lt_or_ge q n with h1 | h1
           ·exact .inl (hR q (List.mem_append_right _ hq) h1)
           ·exact .inr ⟨h1,hlt⟩)
         exact ⟨out',w',μ',hp.trans hp2,ho2,QnM hm ht ho hw hd hrun hends⟩
      ·cases h
     ·cases h
   ·-- a round
    rename_i l fn tm a b hnx;have hlim:tm.size<=16000:=by
     cases hq:Nat.ble tm.size 16000 with
     | true=> exact YL hq
     | false=> rw [hq] at h;cases h
    have h:=Qf8 h;split at h
    ·rename_i s1 hs1;have hfj:=hrec _ r.H r.n s1 hu1 hs1;simp only [YO] at h;subst h;refine ⟨fun S μ w fr cs k ops i rest hok hB hS hf hev hR hm ht ho hw=> ?_,hsh.trans hfj.shape⟩;simp only at hf hR;have l1:=hsh.le;have l2:=hfj.shape.le;obtain ⟨nx,w1,μ1,hrun,hp,hnr⟩:=hsnd S μ fr.eval w hok hB.le hS (fun q a b=> hf q a (by omega)) hev (fun q hq=> hR q (List.mem_append_left _ hq) (hRlt q hq));rw [hnx] at hnr;cases hnr with
     | round him hv=>
       rename_i im xs';obtain ⟨out',w',μ',hp2,ho2,hends⟩:=hfj.sem _ μ1 w1 (Frame.round im.blk fn xs' a b .normal) (fr::cs) hp.ok (hB.post hok hp) (fun q hq=> hq.elim (fun e=> by have:=hS q e;omega) (fun e=> e.2))
        (fun q a b=> by rw [hp.ext q (by omega)];exact hf q (by omega) b)
        ⟨rfl,Q5d hv hlim,fun _=> .cons (.code _) (.cons .beginRound (.cons (.code _) .nil)),.of_empty rfl,.run,rfl,im,him,rfl⟩ (fun q hq hlt=> by
         rcases Nat.lt_or_ge q n with h1 | h1
         ·exact .inl (hR q (List.mem_append_right _ hq) h1)
         ·exact .inr ⟨h1,hlt⟩)
       exact ⟨out',w',μ',hp.trans hp2,ho2,Qxy hm ht ho hw hd hrun hends⟩
    ·cases h
  ·cases h
end Go.CE

namespace Go.CE
open Go Go.RowKit

theorem QtA {μ:Mu} {T:Tm} {fr:Frame} (h:TR μ T fr.tmps) (y:Operand) (v:Value) (hv:evC T y=some v):VR μ v (fr.eval y):=by
 cases y with
 | tmp t=>
   simp only [evC,YO] at hv;subst hv;exact h.2 t
 | const u=>
   simp only [evC] at hv;cases ha:af u with
   | false=> rw [ha] at hv;cases hv
   | true=> rw [ha] at hv;simp only [cond_true,YO] at hv;subst hv;exact Qiv ha
 | func f=>
   simp only [evC,YO] at hv;subst hv;exact Qiv rfl
 | global g=> cases hv
theorem Qef {μ:Mu} {T:Tm} {A:Array Value} (h:TR μ T A) (ops:Array Oper):yielded ops A=Qbs ops T:=by
 funext j;rw [QnL,Qmy];cases (ops[j]?).bind (·.dst) with
 | none=> rfl
 | some t=> exact Qzb (h.2 t)
def putA (A:Array Value) (v:Value):Option Tmp->Array Value
 | some d=> A.setIfInBounds d v
 | none=> A
theorem TR.putA {μ:Mu} {T:Tm} {A:Array Value} (h:TR μ T A) {d:Option Tmp} (hd:∀x,d=some x->x < T.len/\x < 16000) {v v':Value} (hv:VR μ v v'):TR μ (Qgy T d v) (putA A v' d):=by
 have:=h.put hd hv;cases d <;> exact this
theorem Qfk {fr:Frame} {A:Array Value} {ops:Array Oper} {i:Nat} {l:List Nat} {k:List Item} {o:Oper} (ho:ops[i]? =some o) (v:Value):
 (QaZ fr A ops (i::l) k).finish v=QaZ fr (putA A v o.dst) ops l k:=by
 rw [Qg0 ho];cases o.dst <;> rfl
theorem QfS {T:Tm} {d:Option Tmp} (h:Qiy T d=true):∀x,d=some x->x < T.len/\x < 16000:=by
 intro x hx;subst hx;simp only [Qiy,YB] at h;exact ⟨YL h.1,YL h.2⟩
def RunOk (P:Program) (B:Lo) (ops:Array Oper) (l:List Oper) (recs:List Rec) (T:Tm) (H:Qar) (n:Nat):RF->Prop
 | .ok T' H' n'=> Qh4 recs T H n T' H' n'/\recs.map (·.o)=l/\Under H' n'
 | .pan T1 v H' n' R W=> ∃H1 n1 o l2,Qh4 recs T H n T1 H1 n1/\recs.map (·.o)++o::l2=l/\Region.wanted o (Qbs ops T1)=true/\Qs4 P B o (evC T1) H1 n1 (.pan v) H' n' R W/\Shape H1 n1 H' n' R W
theorem RunOk.cons {P:Program} {B:Lo} {ops:Array Oper} {l:List Oper} {recs:List Rec} {T:Tm} {H:Qar} {n:Nat} {fin:RF} {r:Rec} (hT:r.T=T) (hH:r.H=H) (hn:r.n=n) (h:RunOk P B ops l recs (Qgy T r.o.dst r.v) r.H' r.n' fin):RunOk P B ops (r.o::l) (r::recs) T H n fin:=by
 cases fin with
 | ok T' H' n'=>
   obtain ⟨h1,h2,h3⟩:=h;exact ⟨⟨hT,hH,hn,h1⟩,by simp [h2],h3⟩
 | pan T1 v H' n' R W=>
   obtain ⟨H1,n1,o,l2,h1,h2,h3⟩:=h;exact ⟨H1,n1,o,l2,⟨hT,hH,hn,h1⟩,by simp [h2],h3⟩
section
variable {P:Program} {F:FuncId->Bool} {orc:Orc} {B:Lo} {rec:CF->Qar->Nat->Option Rs}
theorem QeZ (hF:∀g,F g=true->Qau P g=true) (hrec:QwH P B rec) (horc:Qiq P B orc) {ops:Array Oper} {len:Nat}:∀(l:List Oper) (T:Tm) (H:Qar) (n:Nat) (recs:List Rec) (fin:RF),T.len=len->Under H n->QvT P F orc rec ops l T H n=some (recs,fin)->
 (∀r∈recs,QvB len r)/\(∀r∈recs,QqZ P B ops r)/\RunOk P B ops l recs T H n fin
 | [],T,H,n,recs,fin,hl,hu,h=> by
   simp only [QvT,YO,YR] at h;obtain ⟨rfl,rfl⟩:=h;exact ⟨fun r hr=> by simp at hr,fun r hr=> by simp at hr,⟨rfl,rfl,rfl⟩,rfl,hu⟩
 | o::l,T,H,n,recs,fin,hl,hu,h=> by
   simp only [QvT] at h;cases hd:Qiy T o.dst with
   | false=> rw [hd] at h;cases h
   | true=>
     have hdst:=QfS hd;rw [hl] at hdst;rw [hd] at h;simp only [cond_true] at h;cases hw:Region.wanted o (Qbs ops T) with
     | true=>
       rw [hw] at h;simp only [cond_true] at h;split at h
       ·rename_i s hs;obtain ⟨hdo,hsh⟩:=Qff hF hrec horc hu hs;split at h
        ·rename_i v hv;split at h
         ·rename_i rs fin' hr;simp only [YO,YR] at h;obtain ⟨rfl,rfl⟩:=h;obtain ⟨h1,h2,h3⟩:=QeZ hF hrec horc (ops:=ops) (len:=len) l (Qgy T o.dst v) s.H s.n rs fin' (by rw [QdK];exact hl) (hu.shape hsh) hr;refine ⟨fun r hr=> ?_,fun r hr=> ?_,RunOk.cons rfl rfl rfl h3⟩
          ·rcases List.mem_cons.1 hr with rfl | hr
           ·exact ⟨hsh.le,hsh.keep,hsh.top,hsh.sub,hsh.wlt,hdst⟩
           ·exact h1 r hr
          ·rcases List.mem_cons.1 hr with rfl | hr
           ·exact ⟨hw.symm,(fun _=> by rw [hv] at hdo;exact hdo),(fun e=> by cases e)⟩
           ·exact h2 r hr
         ·cases h
        ·rename_i v hv;simp only [YO,YR] at h;obtain ⟨rfl,rfl⟩:=h;rw [hv] at hdo;exact ⟨fun r hr=> by simp at hr,fun r hr=> by simp at hr,H,n,o,l,⟨rfl,rfl,rfl⟩,rfl,hw,hdo,hsh⟩
       ·cases h
     | false=>
       rw [hw] at h;simp only [cond_false] at h;split at h
       ·rename_i rs fin' hr;simp only [YO,YR] at h;obtain ⟨rfl,rfl⟩:=h;obtain ⟨h1,h2,h3⟩:=QeZ hF hrec horc (ops:=ops) (len:=len) l (Qgy T o.dst undef) H n rs fin' (by rw [QdK];exact hl) hu hr;refine ⟨fun r hr=> ?_,fun r hr=> ?_,RunOk.cons rfl rfl rfl h3⟩
        ·rcases List.mem_cons.1 hr with rfl | hr
         ·exact ⟨Nat.le_refl _,fun _ _ _=> rfl,fun _ _=> rfl,fun i hi=> by simp at hi,fun i hi=> by simp at hi,hdst⟩
         ·exact h1 r hr
        ·rcases List.mem_cons.1 hr with rfl | hr
         ·exact ⟨hw.symm,(fun e=> by cases e),fun _=> ⟨rfl,rfl,rfl,rfl⟩⟩
         ·exact h2 r hr
       ·cases h
end
theorem QbU {len:Nat}:∀(l:List Rec) (T:Tm) (H:Qar) (n:Nat) (T':Tm) (H':Qar) (n':Nat),Qh4 l T H n T' H' n'->(∀r∈l,QvB len r)->Shape H n H' n' (Qnr l) (QiL l)
 | [],T,H,n,T',H',n',h,_=> by
   obtain ⟨rfl,rfl,rfl⟩:=h;exact Shape.same _ _ _
 | r::l,T,H,n,T',H',n',h,hs=> by
   obtain ⟨h1,h2,h3,h4⟩:=h;have hr:=hs r (by simp);have:=QbU l _ _ _ _ _ _ h4 fun x hx=> hs x (List.mem_cons_of_mem _ hx)
   have h0:Shape H n r.H' r.n' r.R r.W:=by
    subst h2 h3;exact ⟨hr.le,hr.keep,hr.top,hr.sub,hr.wlt⟩
   exact h0.trans this
section
variable {P:Program} {B:Lo} {ops:Array Oper}
theorem Qjk {len:Nat} {fr:Frame} {cs:List Frame} {k:List Item} (hm:fr.mode=.run):∀(recs:List Rec) (i:Nat) (T:Tm) (H:Qar) (n:Nat) (T':Tm) (H':Qar) (n':Nat) (rest:List Nat),Qh4 recs T H n T' H' n'->(∀r∈recs,QvB len r)->(∀r∈recs,QqZ P B ops r)->
 (∀(j:Nat) r,recs[j]? =some r->ops[i+j]? =some r.o)->T.len=len->∀(S:Nat->Prop) (μ:Mu) (w:World) (A:Array Value),Ok B S μ (Qaw H) w->B.has w->(∀i,S i->i < n)->Qn7 μ n n'->(∀i∈Qnr recs,i < n->S i)->TR μ T A->
 ∃μ' A' w',Post B S n n' (QiL recs) μ μ' H H' w w'/\TR μ' T' A'/\Steps P (lone (QaZ fr A ops (List.range' i recs.length++rest) k) cs w) (lone (QaZ fr A' ops rest k) cs w')
 | [],i,T,H,n,T',H',n',rest,h,_,_,_,_,S,μ,w,A,hok,_,_,_,_,ht=> by
   obtain ⟨rfl,rfl,rfl⟩:=h;exact ⟨μ,A,w,Post.refl hok,ht,Steps.refl _ _⟩
 | r::l,i,T,H,n,T',H',n',rest,h,hs,hk,ho,hl,S,μ,w,A,hok,hB,hS,hf,hR,ht=> by
   obtain ⟨h1,h2,h3,h4⟩:=h;have hr:=hs r (by simp);obtain ⟨hrun,hdo,hno⟩:=hk r (by simp);have hoi:=ho 0 r rfl;rw [Nat.add_zero] at hoi;have hl4:=QbU l _ _ _ _ _ _ h4 fun x hx=> hs x (List.mem_cons_of_mem _ hx)
   have le1:=hr.le;have le2:=hl4.le;have hdst:∀x,r.o.dst=some x->x < T.len/\x < 16000:=by rw [hl];exact hr.dst
   have next:∀(μ1:Mu) (A1:Array Value) (w1:World),Post B S n r.n' r.W μ μ1 H r.H' w w1->TR μ1 (Qgy T r.o.dst r.v) A1->Steps P (lone (QaZ fr A ops (i::(List.range' (i+1) l.length++rest)) k) cs w) (lone (QaZ fr A1 ops (List.range' (i+1) l.length++rest) k) cs w1)->
    ∃μ' A' w',Post B S n n' (QiL (r::l)) μ μ' H H' w w'/\TR μ' T' A'/\Steps P (lone (QaZ fr A ops (List.range' i (r::l).length++rest) k) cs w) (lone (QaZ fr A' ops rest k) cs w'):=by
    intro μ1 A1 w1 hp ht1 hst;subst h3;obtain ⟨μ',A',w',q1,q2,q3⟩:=Qjk hm l (i+1) _ _ _ _ _ _ rest h4 (fun x hx=> hs x (List.mem_cons_of_mem _ hx)) (fun x hx=> hk x (List.mem_cons_of_mem _ hx))
     (fun j x hx=> by have:=ho (j+1) x (by simpa using hx);rwa [show i+(j+1)=i+1+j by omega] at this) (by rw [QdK];exact hl) _ μ1 w1 A1 hp.ok (hB.post hok hp) (fun q hq=> hq.elim (fun e=> by have:=hS q e;omega) (fun e=> e.2))
     (fun q a b=> by rw [hp.ext q (by omega)];exact hf q (by omega) b) (fun q hq hlt=> by
      rcases Nat.lt_or_ge q r.n with h1 | h1
      ·exact .inl (hR q (List.mem_append_right _ hq) h1)
      ·exact .inr ⟨h1,hlt⟩) ht1
    exact ⟨μ',A',w',hp.trans q1,q2,by rw [List.length_cons,List.range'_succ];exact hst.trans q3⟩
   cases hrx:r.run with
   | false=>
     obtain ⟨hv,hH,hnn,hW⟩:=hno hrx;have hwant:Region.wanted r.o (yielded ops A)=false:=by rw [Qef ht,<-h1,<-hrun];exact hrx
     refine next μ _ w ?_ (ht.putA hdst (v':=undef) (by rw [hv];exact VR.undef)) (Steps.one ((Qkn hm hoi hwant).trans (by rw [Qfk hoi])));rw [hH,hnn,hW,h2,h3];exact Post.refl hok
   | true=>
     have hwant:Region.wanted r.o (yielded ops A)=true:=by rw [Qef ht,<-h1,<-hrun];exact hrx
     have hd:=hdo hrx;rw [h1,h2,h3] at hd;have hfr:Qn7 μ n r.n':=fun q a b=> hf q a (by omega)
     obtain ⟨out',w1,μ1,hp,hor,hst⟩:=hd S μ w (QaZ fr A ops (i::(List.range' (i+1) l.length++rest)) k) cs k ops i _ hok hB hS hfr (fun x _ v hv=> QtA (fr:=QaZ fr A ops (i::(List.range' (i+1) l.length++rest)) k) ht x v hv)
      (fun q hq hlt=> hR q (List.mem_append_left _ hq) hlt) hm rfl hoi hwant
     cases hor with
     | ret hv=>
       rename_i v';refine next μ1 _ w1 hp ((ht.mono (hp.mu hfr)).putA hdst hv) (hst.trans ?_);simp only [OO.on];rw [Qfk hoi];exact Steps.refl _ _
end
end Go.CE

namespace Go.CE
open Go Go.RowKit

theorem TodoR.inv {μ:Mu} {x:Item} {l L:List Item} (h:TodoR μ (x::l) L):∃x' L',L=x'::L'/\IR μ x x'/\TodoR μ l L':=by
 cases h with
 | cons a b=> exact ⟨_,_,rfl,a,b⟩
theorem TodoR.inv_nil {μ:Mu} {L:List Item} (h:TodoR μ [] L):L=[]:=by cases h;rfl
theorem IR.code_inv {μ:Mu} {a:Code} {x':Item} (h:IR μ (.code a) x'):x'=.code a:=by cases h;rfl
theorem TodoR.code {μ:Mu} {a:Code} {l L:List Item} (h:TodoR μ (.code a::l) L):∃L',L=.code a::L'/\TodoR μ l L':=by
 obtain ⟨x',L',e,hi,hk⟩:=h.inv;rw [hi.code_inv] at e;exact ⟨L',e,hk⟩
theorem Qvd {μ:Mu} {id:Nat} {l L:List Item} (h:TodoR μ l L):(∀k,exitTo id l=some k->∃k',exitTo id L=some k'/\TodoR μ k k')/\(exitTo id l=none->exitTo id L=none):=by
 induction h with
 | nil=> exact ⟨fun k h=> by simp [exitTo] at h,fun _=> rfl⟩
 | cons hi hk ih=>
   cases hi with
   | inBlock id'=>
     simp only [exitTo];by_cases e:(id'==id)=true
     ·rw [if_pos e,if_pos e];exact ⟨fun k h=> ⟨_,rfl,by simp only [YO] at h;subst h;exact hk⟩,fun h=> by cases h⟩
     ·rw [if_neg e,if_neg e];exact ih
   | code c=> simpa only [exitTo] using ih
   | inLoop c=> simpa only [exitTo] using ih
   | inScope c=> simpa only [exitTo] using ih
   | beginRound=> simpa only [exitTo] using ih
   | endRF h=> simpa only [exitTo] using ih
theorem Qux {μ:Mu} {lb:Nat} {l L:List Item} (h:TodoR μ l L):(∀k,gotoIn lb l=some k->∃k',gotoIn lb L=some k'/\TodoR μ k k')/\(gotoIn lb l=none->gotoIn lb L=none):=by
 induction h with
 | nil=> exact ⟨fun k h=> by simp [gotoIn] at h,fun _=> rfl⟩
 | cons hi hk ih=>
   cases hi with
   | inScope b=>
     simp only [gotoIn];cases findLabel b lb with
     | some r=> exact ⟨fun k h=> ⟨_,rfl,by simp only [YO] at h;subst h;exact .cons (.code _) (.cons (.inScope _) hk)⟩,fun h=> by cases h⟩
     | none=> exact ih
   | code c=> simpa only [gotoIn] using ih
   | inLoop c=> simpa only [gotoIn] using ih
   | inBlock c=> simpa only [gotoIn] using ih
   | beginRound=> simpa only [gotoIn] using ih
   | endRF h=> simpa only [gotoIn] using ih
structure GoJ (P:Program) (B:Lo) (c:CF) (H:Qar) (n:Nat) (c':CF) (H':Qar) (n':Nat) (R W:List Nat):Prop where
 shape:Shape H n H' n' R W
 sem:∀(S:Nat->Prop) (μ:Mu) (w:World) (fr:Frame) (cs:List Frame) (Z:Bot),Ok B S μ (Qaw H) w->B.has w->(∀i,S i->i < n)->Qn7 μ n n'->FrR Z μ c fr->(∀i∈R,i < n->S i)->
  ∃fr' w' μ',Post B S n n' W μ μ' H H' w w'/\FrR Z μ' c' fr'/\fr'.roundOf=fr.roundOf/\fr'.fn=fr.fn/\Steps P (lone fr cs w) (lone fr' cs w')
theorem GoJ.fj {P:Program} {B:Lo} {c c':CF} {H H' H'':Qar} {n n' n'':Nat} {R R' W W':List Nat} {out:OO} (h:GoJ P B c H n c' H' n' R W) (k:FJ P B c' H' n' out H'' n'' R' W'):FJ P B c H n out H'' n'' (R++R') (W++W'):=by
 refine ⟨h.shape.trans k.shape,fun S μ w fr cs hok hB hS hf hfr hR=> ?_⟩;have l1:=h.shape.le;have l2:=k.shape.le;obtain ⟨fr1,w1,μ1,hp,hfr1,hr,hfn,hst⟩:=h.sem S μ w fr cs Bot.no hok hB hS (fun q a b=> hf q a (by omega)) hfr (fun q hq hlt=> hR q (List.mem_append_left _ hq) hlt);obtain ⟨out',w',μ',hp2,ho,he⟩:=k.sem _ μ1 w1 fr1 cs hp.ok (hB.post hok hp) (fun q hq=> hq.elim (fun e=> by have:=hS q e;omega) (fun e=> e.2))
  (fun q a b=> by rw [hp.ext q (by omega)];exact hf q (by omega) b) hfr1 (fun q hq hlt=> by
   rcases Nat.lt_or_ge q n with h1 | h1
   ·exact .inl (hR q (List.mem_append_right _ hq) h1)
   ·exact .inr ⟨h1,hlt⟩)
 exact ⟨out',w',μ',hp.trans hp2,ho,he.of_steps hst hr hfn⟩
theorem FrR.running {Z:Bot} {μ:Mu} {c:CF} {fr:Frame} (h:FrR Z μ c fr) (hm:c.mode=.run):fr.mode=.run/\TR μ c.tmps fr.tmps/\TodoR μ c.todo fr.todo:=by
 refine ⟨?_,h.tmps,h.todo (by rw [hm];rfl)⟩;have:=h.mode;rw [hm] at this;generalize fr.mode=m at this;cases this;rfl
section
variable {P:Program} {B:Lo} {c:CF} {H:Qar} {n:Nat}
theorem QeG {l':List Item} (hm:c.mode=.run) (h:∀μ fr,fr.mode=.run->TR μ c.tmps fr.tmps->TodoR μ c.todo fr.todo->∃L',TodoR μ l' L'/\∀cs w,step P (lone fr cs w)=.next (lone {fr with todo:=L'} cs w)):
 GoJ P B c H n {c with todo:=l'} H n [] []:=by
 refine ⟨Shape.same _ _ _,fun S μ w fr cs Z hok hB hS hf hfr hR=> ?_⟩;obtain ⟨a,b,d⟩:=hfr.running hm;obtain ⟨L',h1,h2⟩:=h μ fr a b d;exact ⟨{fr with todo:=L'},w,μ,Post.refl hok,⟨hfr.fn,b,fun _=> h1,hfr.defers,hfr.mode,hfr.kind,hfr.round⟩,rfl,rfl,.one (h2 cs w)⟩
theorem Q6g {k:List Item} (hm:c.mode=.run) (ht:c.todo=.code .skip::k):GoJ P B c H n {c with todo:=k} H n [] []:=
 QeG hm fun μ fr a _ d=> by
  rw [ht] at d;obtain ⟨L',e,hk⟩:=d.code;exact ⟨L',hk,fun cs w=> step_lone_go (by simp [stepG,stepG.exec,a,e])⟩
theorem Q23 {k:List Item} {l:Nat} (hm:c.mode=.run) (ht:c.todo=.code (.label l)::k):GoJ P B c H n {c with todo:=k} H n [] []:=
 QeG hm fun μ fr a _ d=> by
  rw [ht] at d;obtain ⟨L',e,hk⟩:=d.code;exact ⟨L',hk,fun cs w=> step_lone_go (by simp [stepG,stepG.exec,a,e])⟩
theorem QvZ {k:List Item} {l:Nat} (hm:c.mode=.run) (ht:c.todo=.inBlock l::k):GoJ P B c H n {c with todo:=k} H n [] []:=
 QeG hm fun μ fr a _ d=> by
  rw [ht] at d;obtain ⟨x',L',e,hi,hk⟩:=d.inv;cases hi;exact ⟨L',hk,fun cs w=> step_lone_go (by simp [stepG,stepG.exec,a,e])⟩
theorem Qwg {k:List Item} {l:Code} (hm:c.mode=.run) (ht:c.todo=.inScope l::k):GoJ P B c H n {c with todo:=k} H n [] []:=
 QeG hm fun μ fr a _ d=> by
  rw [ht] at d;obtain ⟨x',L',e,hi,hk⟩:=d.inv;cases hi;exact ⟨L',hk,fun cs w=> step_lone_go (by simp [stepG,stepG.exec,a,e])⟩
theorem Q6E {k:List Item} {x y:Code} (hm:c.mode=.run) (ht:c.todo=.code (.seq x y)::k):GoJ P B c H n {c with todo:=.code x::.code y::k} H n [] []:=
 QeG hm fun μ fr a _ d=> by
  rw [ht] at d;obtain ⟨L',e,hk⟩:=d.code;exact ⟨_,.cons (.code _) (.cons (.code _) hk),fun cs w=> step_lone_go (by simp [stepG,stepG.exec,a,e])⟩
theorem Q5H {k:List Item} {q:Operand} {x y:Code} {t:Bool} (hm:c.mode=.run) (ht:c.todo=.code (.cond q x y)::k) (hq:evC c.tmps q=some (.bool t)):GoJ P B c H n {c with todo:=.code (bif t then x else y)::k} H n [] []:=
 QeG hm fun μ fr a b d=> by
  rw [ht] at d;obtain ⟨L',e,hk⟩:=d.code;have hv:=QtA b q _ hq;have hv:fr.eval q=.bool t:=by generalize fr.eval q=u at hv;cases hv;rfl
  exact ⟨_,.cons (.code _) hk,fun cs w=> step_lone_go (by cases t <;> simp [stepG,stepG.exec,a,e,hv])⟩
theorem Q3W {k:List Item} {id:Nat} {x:Code} (hm:c.mode=.run) (ht:c.todo=.code (.block id x)::k):GoJ P B c H n {c with todo:=.code x::.inBlock id::k} H n [] []:=
 QeG hm fun μ fr a _ d=> by
  rw [ht] at d;obtain ⟨L',e,hk⟩:=d.code;exact ⟨_,.cons (.code _) (.cons (.inBlock _) hk),fun cs w=> step_lone_go (by simp [stepG,stepG.exec,a,e])⟩
theorem Q5t {k:List Item} {x:Code} (hm:c.mode=.run) (ht:c.todo=.code (.loop x)::k):GoJ P B c H n {c with todo:=.code x::.inLoop x::k} H n [] []:=
 QeG hm fun μ fr a _ d=> by
  rw [ht] at d;obtain ⟨L',e,hk⟩:=d.code;exact ⟨_,.cons (.code _) (.cons (.inLoop _) hk),fun cs w=> step_lone_go (by simp [stepG,stepG.exec,a,e])⟩
theorem Qzh {k:List Item} {x:Code} (hm:c.mode=.run) (ht:c.todo=.inLoop x::k):GoJ P B c H n {c with todo:=.code x::.inLoop x::k} H n [] []:=
 QeG hm fun μ fr a _ d=> by
  rw [ht] at d;obtain ⟨x',L',e,hi,hk⟩:=d.inv;cases hi;exact ⟨_,.cons (.code _) (.cons (.inLoop _) hk),fun cs w=> step_lone_go (by simp [stepG,stepG.exec,a,e])⟩
theorem Q3F {k:List Item} {x:Code} (hm:c.mode=.run) (ht:c.todo=.code (.scope x)::k):GoJ P B c H n {c with todo:=.code x::.inScope x::k} H n [] []:=
 QeG hm fun μ fr a _ d=> by
  rw [ht] at d;obtain ⟨L',e,hk⟩:=d.code;exact ⟨_,.cons (.code _) (.cons (.inScope _) hk),fun cs w=> step_lone_go (by simp [stepG,stepG.exec,a,e])⟩
theorem Q51 {k k':List Item} {id:Nat} (hm:c.mode=.run) (ht:c.todo=.code (.exit id)::k) (hx:exitTo id k=some k'):GoJ P B c H n {c with todo:=k'} H n [] []:=
 QeG hm fun μ fr a _ d=> by
  rw [ht] at d;obtain ⟨L',e,hk⟩:=d.code;obtain ⟨L2,h1,h2⟩:=(Qvd hk).1 _ hx;exact ⟨_,h2,fun cs w=> step_lone_go (by simp [stepG,stepG.exec,a,e,h1])⟩
theorem Q5h {k k':List Item} {id:Nat} (hm:c.mode=.run) (ht:c.todo=.code (.goto id)::k) (hx:gotoIn id k=some k'):GoJ P B c H n {c with todo:=k'} H n [] []:=
 QeG hm fun μ fr a _ d=> by
  rw [ht] at d;obtain ⟨L',e,hk⟩:=d.code;obtain ⟨L2,h1,h2⟩:=(Qux hk).1 _ hx;exact ⟨_,h2,fun cs w=> step_lone_go (by simp [stepG,stepG.exec,a,e,h1])⟩
end
end Go.CE

namespace Go.CE
open Go Go.RowKit

def Q8n (P:Program) (B:Lo) (c:CF) (H:Qar) (n:Nat):FS->Prop
 | .go c' H' n' R W=> GoJ P B c H n c' H' n' R W
 | .done out H' n' R W=> FJ P B c H n out H' n' R W
section
variable {P:Program} {B:Lo} {c:CF} {H:Qar} {n:Nat}
theorem Qkv {w:World} {b k:Nat} {o:Obj} (h:k≠b):(w.putObj b o).heap[k]? =w.heap[k]? :=World.putObj_heap_other h
theorem Qj9 {S:Nat->Prop} {μ:Mu} {w:World} {l:Nat} {r:Loop} (hok:Ok B S μ (Qaw H) w) (hS:∀i,S i->i < n) (hk:S l) (hg:Qaw H l=some (.loop r)) (st:LoopState) (pe:Option Code):
 ∃im tm df,μ l=some im/\w.heap[im.blk]? =some (.loop {r with tmps:=tm,defers:=df})/\
  Post B S n n [l] μ μ H (Qgr H l (.loop {r with state:=st,pending:=pe})) w (w.putObj im.blk (.loop {r with state:=st,pending:=pe,tmps:=tm,defers:=df})):=by
 obtain ⟨im,him,hrw,tm,df,hw,hv⟩:=hok.rel l _ hk hg trivial;have hlt:im.blk < w.heap.size:=(hok.low l _ im hk hg trivial him).1;exact ⟨im,tm,df,him,hw,Post.write hok hS l _ _ im hk hg trivial him hrw (by simp) (fun b hb=> Qkv hb) ⟨hrw,tm,df,World.putObj_heap_same hlt,hv⟩ ⟨rfl,rfl,rfl⟩⟩
def Leaves (P:Program) (c:CF) (jump:Option Code):Prop:=
 ∀(μ:Mu) (fr:Frame),fr.mode=.run->TodoR μ c.todo fr.todo->
  (fr.roundOf=none->(jump=none\/jump=some .ret)->∀cs w,step P (lone fr cs w)=.next (lone {fr with mode:=.returning} cs w))/\
  (fr.kind=.normal->∀l v w w',fr.roundOf=some l->(Instr.endRound l jump).run P w=.ok v w'->∀c0 cs,step P (lone fr (c0::cs) w)=.next (lone (c0.finish v) cs w'))
theorem Qw5 (ht:c.todo=[]):Leaves P c none:=by
 intro μ fr hm hd;rw [ht] at hd;have e:=hd.inv_nil;exact ⟨fun hr _ cs w=> step_lone_go (by simp [stepG,stepG.exec,hm,e,hr]),fun hk l v w w' hr h c0 cs=> step_lone_go (by simp [stepG,stepG.exec,hm,e,hr,hk,Sem.runT_eq,h,doReturn])⟩
theorem QwS {k:List Item} (ht:c.todo=.code .ret::k):Leaves P c (some .ret):=by
 intro μ fr hm hd;rw [ht] at hd;obtain ⟨L',e,_⟩:=hd.code;exact ⟨fun hr _ cs w=> step_lone_go (by simp [stepG,stepG.exec,hm,e,hr]),fun hk l v w w' hr h c0 cs=> step_lone_go (by simp [stepG,stepG.exec,hm,e,hr,hk,Sem.runT_eq,h,doReturn])⟩
theorem Qt0 {k:List Item} {id:Nat} (ht:c.todo=.code (.exit id)::k) (hx:exitTo id k=none):Leaves P c (some (.exit id)):=by
 intro μ fr hm hd;rw [ht] at hd;obtain ⟨L',e,hL⟩:=hd.code;have hx':=(Qvd hL).2 hx;exact ⟨fun _ h=> by rcases h with h | h <;> simp at h,fun hk l v w w' hr h c0 cs=> step_lone_go (by simp [stepG,stepG.exec,hm,e,hx',hr,hk,Sem.runT_eq,h,doReturn])⟩
theorem QtL {k:List Item} {id:Nat} (ht:c.todo=.code (.goto id)::k) (hx:gotoIn id k=none):Leaves P c (some (.goto id)):=by
 intro μ fr hm hd;rw [ht] at hd;obtain ⟨L',e,hL⟩:=hd.code;have hx':=(Qux hL).2 hx;exact ⟨fun _ h=> by rcases h with h | h <;> simp at h,fun hk l v w w' hr h c0 cs=> step_lone_go (by simp [stepG,stepG.exec,hm,e,hx',hr,hk,Sem.runT_eq,h,doReturn])⟩
theorem Qgc {jump:Option Code} {fs:FS} (hm:c.mode=.run) (hu:Under H n) (hl:Leaves P c jump) (h:Qh6 c H n jump=some fs):Q8n P B c H n fs:=by
 unfold Qh6 at h;split at h
 ·rename_i hr;have go:(jump=none\/jump=some .ret)->GoJ P B c H n {c with mode:=.ret} H n [] []:=by
   intro hj;refine ⟨Shape.same _ _ _,fun S μ w fr cs Z hok hB hS hf hfr hR=> ?_⟩;obtain ⟨a,b,d⟩:=hfr.running hm;have hro:=hfr.round;rw [hr] at hro;have hro:fr.roundOf=none:=by cases hq:fr.roundOf with
    | none=> rfl
    | some x=> rw [hq] at hro;exact hro.elim
   exact ⟨{fr with mode:=.returning},w,μ,Post.refl hok,⟨hfr.fn,b,fun _=> d,hfr.defers,.ret,hfr.kind,hfr.round⟩,rfl,rfl,.one ((hl μ fr a d).1 hro hj cs w)⟩
  split at h
  ·simp only [YO] at h;subst h;exact go (.inl rfl)
  ·simp only [YO] at h;subst h;exact go (.inr rfl)
  ·cases h
 ·rename_i l hr;split at h
  ·rename_i r hg;simp only [YO] at h;subst h;refine ⟨Shape.set _ (hu.lt hg),fun S μ w fr cs hok hB hS hf hfr hR=> ?_⟩;obtain ⟨a,b,d⟩:=hfr.running hm;obtain ⟨im,tm,df,him,hw,hp⟩:=Qj9 hok hS (hR l (by simp) (hu.lt hg)) hg (if jump.isNone then .ready else .done) jump;have hro:=hfr.round;rw [hr] at hro;cases hq:fr.roundOf with
   | none=> rw [hq] at hro;exact hro.elim
   | some x=>
     rw [hq] at hro;obtain ⟨im',him',hx⟩:=hro;rw [him] at him';cases him';subst hx;have hend:=run_endRound (P:=P) jump hw;exact ⟨.ret (.bool jump.isNone),_,μ,hp,.ret (.bool _),(fun h=> by rw [hq] at h;cases h),fun c0 cs' e=> by
      subst e;exact .one ((hl μ fr a d).2 hfr.kind _ _ _ _ hq hend c0 cs')⟩
  ·cases h
theorem Qpr {k:List Item} {l:Nat} {r:Loop} (hm:c.mode=.run) (hu:Under H n) (ht:c.todo=.beginRound::k) (hr:c.roundOf=some l) (hg:Qaw H l=some (.loop r)) (hs:r.state=.ready):
 GoJ P B c H n {c with todo:=k} (Qgr H l (.loop {r with state:=.busy})) n [l] [l]:=by
 refine ⟨Shape.set _ (hu.lt hg),fun S μ w fr cs Z hok hB hS hf hfr hR=> ?_⟩;obtain ⟨a,b,d⟩:=hfr.running hm;obtain ⟨im,tm,df,him,hw,hp⟩:=Qj9 hok hS (hR l (by simp) (hu.lt hg)) hg .busy r.pending;rw [ht] at d;obtain ⟨x',L',e,hi,hk⟩:=d.inv;cases hi;have hro:=hfr.round;rw [hr] at hro;cases hq:fr.roundOf with
 | none=> rw [hq] at hro;exact hro.elim
 | some x=>
   rw [hq] at hro;obtain ⟨im',him',hx⟩:=hro;rw [him] at him';cases him';subst hx;have hbr:=run_beginRound (P:=P) hw hs;exact ⟨{fr with todo:=L'},_,μ,hp,⟨hfr.fn,b,fun _=> hk,hfr.defers,hfr.mode,hfr.kind,hfr.round⟩,hq,rfl,.one (step_lone_go (by simp [stepG,stepG.exec,stepG.apply,a,e,hq,Sem.runT_eq,hbr,Result.andThen,Frame.finish]))⟩
theorem Q2Z {k:List Item} {l:Nat} {r:Loop} (hm:c.mode=.run) (hu:Under H n) (ht:c.todo=.endRangeFunc l::k) (hg:Qaw H l=some (.loop r)) (hs:r.state≠.busy):
 GoJ P B c H n {c with todo:=(r.pending.map Item.code).toList++k} (Qgr H l (.loop {r with state:=.exhausted})) n [l] [l]:=by
 refine ⟨Shape.set _ (hu.lt hg),fun S μ w fr cs Z hok hB hS hf hfr hR=> ?_⟩;obtain ⟨a,b,d⟩:=hfr.running hm;obtain ⟨im,tm,df,him,hw,hp⟩:=Qj9 hok hS (hR l (by simp) (hu.lt hg)) hg .exhausted r.pending;rw [ht] at d;obtain ⟨x',L',e,hi,hk⟩:=d.inv;cases hi with
 | endRF him'=>
   rw [him] at him';cases him';have hbr:=run_endLoop (P:=P) hw hs;refine ⟨{fr with todo:=(r.pending.map Item.code).toList++L'},_,μ,hp,⟨hfr.fn,b,fun _=> ?_,hfr.defers,hfr.mode,hfr.kind,hfr.round⟩,rfl,rfl,.one (step_lone_go (by simp [stepG,stepG.exec,a,e,Sem.runT_eq,hbr,GStep.bare_after]))⟩;cases r.pending with
   | none=> exact hk
   | some x=> exact .cons (.code _) hk
theorem MR.not_run {μ:Mu} {m:CM} {m':FrameMode} (h:MR μ m m') (hm:m≠.run):m'≠.run:=by
 cases h with
 | run=> exact absurd rfl hm
 | ret=> exact fun e=> by cases e
 | pan=> exact fun e=> by cases e
theorem Qv9 {d:Nat} {ds:List Nat} (hm:c.mode≠.run) (hu:Under H n) (hd:c.defers=d::ds) (hg:Qaw H d=some (.deferred (some []))):GoJ P B c H n {c with defers:=ds} (Qgr H d (.deferred none)) n [d] [d]:=by
 refine ⟨Shape.set _ (hu.lt hg),fun S μ w fr cs Z hok hB hS hf hfr hR=> ?_⟩;have hk:=hR d (by simp) (hu.lt hg);obtain ⟨im,him,hrw,hw,_⟩:=hok.rel d _ hk hg trivial;have hlt:im.blk < w.heap.size:=(hok.low d _ im hk hg trivial him).1;have hp:=Post.write (w':=w.putObj im.blk (.deferred none)) hok hS d _ (.deferred none) im hk hg trivial him hrw (by simp) (fun b hb=> Qkv hb) ⟨hrw,World.putObj_heap_same hlt,.inr rfl⟩ ⟨rfl,rfl,rfl⟩;have hdf:=hfr.defers;rw [hd] at hdf;obtain ⟨im',l',h1,hq,h2⟩:=hdf.cons_inv;rw [him] at h1;cases h1;exact ⟨{fr with defers:=[]++l'},_,μ,hp,⟨hfr.fn,hfr.tmps,hfr.todo,h2,hfr.mode,hfr.kind,hfr.round⟩,rfl,rfl,.one (step_collected (hfr.mode.not_run hm) hq rfl (run_takeDeferred hw))⟩
theorem Q2j {S:Nat->Prop} {μ:Mu} {w:World} {t:TypeId} {p p' v:Value} {b:Nat} (h:Qjx P t H p=some (v,b)) (hok:Ok B S μ (Qaw H) w) (hp:VR μ p p') (hb:S b):∃v',(do loadVar t (<-asAddr p'):Sem Value).run P w=.ok v' w/\VR μ v v':=by
 obtain ⟨v',h1,h2⟩:=Qrj h hok hp hb;unfold Qjx at h;split at h
 ·cases hp with
  | ptr har=> exact ⟨v',by simpa [Instr.loadAt,Instr.sureAddr,asAddr] using h1,h2⟩
 ·cases h
theorem Q2J {t:TypeId} {p v:Value} {b:Nat} (hu:Under H n) (h:Qjx P t H p=some (v,b)):b < n:=by
 unfold Qjx at h;split at h
 ·split at h
  ·rename_i hg;split at h
   ·simp only [YO,YR] at h;obtain ⟨_,rfl⟩:=h;exact hu.lt hg
   ·cases h
  ·cases h
 ·cases h
inductive VRl (μ:Mu):List Value->List Value->Prop
 | nil:VRl μ [] []
 | cons {v v' l l'}:VR μ v v'->VRl μ l l'->VRl μ (v::l) (v'::l')
theorem VRl.vrs {μ:Mu} {l l':List Value} (h:VRl μ l l'):l.length=l'.length/\∀(i:Nat) v v',l[i]? =some v->l'[i]? =some v'->VR μ v v':=by
 induction h with
 | nil=> exact ⟨rfl,fun i v v' h=> by simp at h⟩
 | cons h _ ih=>
   refine ⟨by simp [ih.1],fun i v v' a b=> ?_⟩;cases i with
   | zero=> simp only [List.getElem?_cons_zero,YO] at a b;subst a b;exact h
   | succ i=> exact ih.2 i v v' (by simpa using a) (by simpa using b)
def Q77 (A:Array Value):ResultVar->Sem Value
 | .tmp t=> pure (A.getD t undef)
 | .cell a t=> do loadVar t (<-asAddr (A.getD a undef))
theorem Qkx (fn:Func) (A:Array Value):results fn A=(do
 let vs <-fn.results.mapM (Q77 A)
 pure (if h:vs.size=1 then vs[0] else .tuple vs)):=by
 unfold results;congr 2
theorem Qgk {S:Nat->Prop} {μ:Mu} {w:World} {T:Tm} {A:Array Value} (hu:Under H n) (hok:Ok B S μ (Qaw H) w) (ht:TR μ T A):∀(l:List ResultVar) (vs:List Value) (R:List Nat),QhU P H T l=some (vs,R)->(∀i∈R,i < n->S i)->
 ∃vs',(l.mapM (Q77 A)).run P w=.ok vs' w/\VRl μ vs vs'
 | [],vs,R,h,_=> by
   simp only [QhU,YO,YR] at h;obtain ⟨rfl,rfl⟩:=h;exact ⟨[],by simp,.nil⟩
 | .tmp t::l,vs,R,h,hR=> by
   simp only [QhU] at h;split at h
   ·rename_i vs1 R1 h1;simp only [YO,YR] at h;obtain ⟨rfl,rfl⟩:=h;obtain ⟨vs',h2,h3⟩:=Qgk hu hok ht l vs1 R1 h1 hR;exact ⟨A.getD t undef::vs',by simp only [List.mapM_cons,Q77,Sem.run_bind,Sem.run_pure,Result.andThen_ok,h2],.cons (ht.2 t) h3⟩
   ·cases h
 | .cell a t::l,vs,R,h,hR=> by
   simp only [QhU] at h;split at h
   ·rename_i v b hv;split at h
    ·rename_i vs1 R1 h1;simp only [YO,YR] at h;obtain ⟨rfl,rfl⟩:=h;obtain ⟨vs',h2,h3⟩:=Qgk hu hok ht l vs1 R1 h1 (fun i hi=> hR i (List.mem_cons_of_mem _ hi));obtain ⟨v',h4,h5⟩:=Q2j hv hok (ht.2 a) (hR b (by simp) (Q2J hu hv));exact ⟨v'::vs',by simp only [List.mapM_cons,Q77,Sem.run_bind] at h4 ⊢;simp only [h4,Sem.run_pure,Result.andThen_ok,h2],.cons h5 h3⟩
    ·cases h
   ·cases h
theorem QrG {μ:Mu} {vs vs':List Value} (h:VRl μ vs vs'):VR μ (oneOf vs) (if h:vs'.toArray.size=1 then vs'.toArray[0] else .tuple vs'.toArray):=by
 have hv:=h.vrs;cases h with
 | nil=> exact .tuple rfl fun i v v' h=> by simp at h
 | cons h1 h2=>
   cases h2 with
   | nil=> simpa [oneOf] using h1
   | cons h3 h4=>
     simp only [oneOf];rw [dif_neg (by simp)];exact .tuple (by simpa using hv.1) (by simpa using hv.2)
theorem Q3p {v:Value} {R:List Nat} (hu:Under H n) (hm:c.mode=.ret) (hd:c.defers=[]) (hv:Q0m P c.fn H c.tmps=some (v,R)):FJ P B c H n (.ret v) H n R []:=by
 refine ⟨Shape.same _ _ _,fun S μ w fr cs hok hB hS hf hfr hR=> ?_⟩;have ht:=hfr.tmps;unfold Q0m at hv;rw [Qke,Array.getElem?_toList] at hv;split at hv
 ·rename_i fn hfn;split at hv
  ·rename_i vs R1 hvs;simp only [YO,YR] at hv;obtain ⟨rfl,rfl⟩:=hv;obtain ⟨vs',h1,h2⟩:=Qgk hu hok ht _ _ _ hvs hR;have hmode:fr.mode=.returning:=by
    have:=hfr.mode;rw [hm] at this;generalize fr.mode=m at this;cases this;rfl
   have hdf:fr.defers=[]:=by
    have:=hfr.defers;rw [hd] at this;exact this.empty
   have hres:(results fn fr.tmps).run P w=.ok (if h:vs'.toArray.size=1 then vs'.toArray[0] else .tuple vs'.toArray) w:=by
    rw [Qkx,Array.mapM_eq_mapM_toList];simp only [Sem.run_bind,Sem.run_map,h1,Result.andThen_ok,Sem.run_pure]
   have hleave:fr.leaving P w (.returned (if h:vs'.toArray.size=1 then vs'.toArray[0] else .tuple vs'.toArray)):=⟨hmode,hdf,hfr.kind,fn,by rw [hfr.fn];exact hfn,hres⟩
   exact ⟨.ret _,w,μ,Post.refl hok,.ret (QrG h2),fun _=> ⟨fr,Steps.refl _ _,rfl,hleave⟩,fun c0 cs' e=> by subst e;exact .one (step_leave_returned hleave)⟩
  ·cases hv
 ·cases hv
theorem Q2G {v:Value} (hm:c.mode=.pan v) (hd:c.defers=[]) (hv:Q7A P c.fn=true):FJ P B c H n (.pan v) H n [] []:=by
 refine ⟨Shape.same _ _ _,fun S μ w fr cs hok hB hS hf hfr hR=> ?_⟩;unfold Q7A at hv;rw [Qke,Array.getElem?_toList] at hv;split at hv
 ·rename_i fn hfn;have hmode:=hfr.mode;rw [hm] at hmode;generalize hq:fr.mode=m at hmode;cases hmode with
  | pan hvr=>
    rename_i v';have hdf:fr.defers=[]:=by
     have:=hfr.defers;rw [hd] at this;exact this.empty
    have hleave:fr.leaving P w (.panicked [{v:=v',recovered:=false}]):=⟨hq,hdf,fn,by rw [hfr.fn];exact hfn⟩
    exact ⟨.pan v',w,μ,Post.refl hok,.pan hvr,fun _=> ⟨fr,Steps.refl _ _,rfl,hleave⟩,fun c0 cs' e=> by subst e;exact .one (step_leave_panicked hleave)⟩
 ·cases hv
end
end Go.CE

namespace Go.CE
open Go Go.RowKit

theorem Qgz:∀(l:List Oper) (k:Nat),Qd1 k l=true->∀(j:Nat) o,l[j]? =some o->∀e∈o.after,Region.binds .any e=true->e.on < k+j
 | [],_,_,j,o,h=> by simp at h
 | x::l,k,h,j,o,hj=> by
   simp only [Qd1,YB] at h;cases j with
   | zero=>
     simp only [List.getElem?_cons_zero,YO] at hj;subst hj;intro e he hb;have:=Array.all_eq_true'.1 h.1 e he;rw [hb] at this;have:=YL (show Nat.ble (e.on+1) k=true by simpa [Nat.blt] using this);omega
   | succ j=>
     intro e he hb;have:=Qgz l (k+1) h.2 j o (by simpa using hj) e he hb;omega
theorem Qeg {recs:List Rec} {l:List Oper} {ops:Array Oper} {l2:List Oper} (h:recs.map (·.o)++l2=l) (hl:l=ops.toList) (j:Nat) (r:Rec) (hj:recs[j]? =some r):ops[j]? =some r.o:=by
 have e:(recs.map (·.o)++l2)[j]? =some r.o:=by
  rw [List.getElem?_append_left (by simpa using (List.getElem?_eq_some_iff.1 hj).1),List.getElem?_map,hj];rfl
 rw [h,hl,Array.getElem?_toList] at e;exact e
section
variable {P:Program} {F:FuncId->Bool} {orc:Orc} {B:Lo} {rec:CF->Qar->Nat->Option Rs} {c:CF} {H:Qar} {n:Nat}
theorem QbH {fr:Frame} {cs:List Frame} {w:World} {id:Nat} {ops:Array Oper} {k:List Item} (hm:fr.mode=.run) (ht:fr.todo=.code (.region id ops false)::k):step P (lone fr cs w)=.next (lone (QaZ fr fr.tmps ops (List.range' 0 ops.size) k) cs w):=
 step_lone_go (by simp [stepG,stepG.exec,hm,ht,QaZ,List.range_eq_range'])
theorem Q06 (hF:∀g,F g=true->Qau P g=true) (hrec:QwH P B rec) (horc:Qiq P B orc) (hmix:P.follows .mixedOrders=true) {id:Nat} {ops:Array Oper} {draw:Bool} {k:List Item} {recs:List Rec} {T':Tm} {H':Qar} {n':Nat} (hm:c.mode=.run) (hu:Under H n)
 (ht:c.todo=.code (.region id ops draw)::k) (h:QvT P F orc rec ops ops.toList c.tmps H n=some (recs,.ok T' H' n')) (hd:(!draw || (Qd1 0 ops.toList && indep ops 0 recs (QnF ops.toList [])))=true):
 GoJ P B c H n {c with tmps:=T',todo:=k} H' n' (Qnr recs) (QiL recs):=by
 obtain ⟨hs,hk,hch,hmap,hu'⟩:=QeZ hF hrec horc (len:=c.tmps.len) ops.toList c.tmps H n recs _ rfl hu h;have hown:=Qeg (l:=ops.toList) (l2:=[]) (by rw [List.append_nil];exact hmap) rfl;have hlen:recs.length=ops.size:=by have:=congrArg List.length hmap;simpa using this
 refine ⟨QbU recs _ _ _ _ _ _ hch hs,fun S μ w fr cs Z hok hB hS hf hfr hR=> ?_⟩;obtain ⟨a,b,d⟩:=hfr.running hm;rw [ht] at d;obtain ⟨L',e,hL⟩:=d.code;cases draw with
 | false=>
   obtain ⟨μ',A',w',hp,hT,hst⟩:=Qjk (fr:=fr) (cs:=cs) (k:=L') a recs 0 c.tmps H n T' H' n' [] hch hs hk (fun j r hj=> by rw [Nat.zero_add];exact hown j r hj) rfl S μ w fr.tmps hok hB hS hf hR b;rw [List.append_nil,hlen] at hst;exact ⟨{fr with tmps:=A',todo:=L'},w',μ',hp,⟨hfr.fn,hT,fun _=> hL.mono (hp.mu hf),hfr.defers.mono (hp.mu hf),hfr.mode.mono (hp.mu hf),hfr.kind,hfr.round.mono (hp.mu hf)⟩,rfl,rfl,
    .head (QbH a e) (hst.trans (.one (QcD a)))⟩
 | true=>
   simp only [Bool.not_true,Bool.false_or,YB] at hd;have hedge:∀(q:Nat) o,ops[q]? =some o->∀e∈o.after,Region.binds .any e=true->e.on < q:=by
    intro q o ho e he hb;have:=Qgz ops.toList 0 hd.1 q o (by rw [Array.getElem?_toList];exact ho) e he hb;omega
   have hbef:=Q0w ops.toList (fun q o ho=> hedge q o (by simpa using ho));have Qgr:Setup P B ops recs (QnF ops.toList []) c.tmps H n T' H' n':=⟨hch,hs,hk,hown,hlen,by simpa using hbef.1,hd.2,hedge⟩
   obtain ⟨μ',A',w',hp,hT,hst⟩:=QlE hmix Qgr hok hS hR hf hB (fr:=fr) (cs:=cs) (id:=id) (k:=L') a b e;exact ⟨{fr with tmps:=A',todo:=L'},w',μ',hp,⟨hfr.fn,hT,fun _=> hL.mono (hp.mu hf),hfr.defers.mono (hp.mu hf),hfr.mode.mono (hp.mu hf),hfr.kind,hfr.round.mono (hp.mu hf)⟩,rfl,rfl,hst⟩
theorem QoL (hF:∀g,F g=true->Qau P g=true) (hrec:QwH P B rec) (horc:Qiq P B orc) {id:Nat} {ops:Array Oper} {k:List Item} {recs:List Rec} {v:Value} {H':Qar} {n':Nat} {R W:List Nat} {T':Tm} (hm:c.mode=.run) (hu:Under H n)
 (ht:c.todo=.code (.region id ops false)::k) (h:QvT P F orc rec ops ops.toList c.tmps H n=some (recs,.pan T' v H' n' R W)):
 GoJ P B c H n {c with tmps:=T',mode:=.pan v} H' n' (Qnr recs++R) (QiL recs++W):=by
 obtain ⟨hs,hk,H1,n1,o,l2,hch,hmap,hwant,hdo,hsh⟩:=QeZ hF hrec horc (len:=c.tmps.len) ops.toList c.tmps H n recs _ rfl hu h;have hown:=Qeg (l2:=o::l2) hmap rfl;have hlen:ops.size=recs.length+(l2.length+1):=by have:=congrArg List.length hmap;simp at this;omega
 have hat:ops[recs.length]? =some o:=by
  rw [<-Array.getElem?_toList,<-hmap,List.getElem?_append_right (by simp)];simp
 have hsh1:=QbU recs _ _ _ _ _ _ hch hs;have l1:=hsh1.le;have l3:=hsh.le;refine ⟨hsh1.trans hsh,fun S μ w fr cs Z hok hB hS hf hfr hR=> ?_⟩;obtain ⟨a,b,d⟩:=hfr.running hm;rw [ht] at d;obtain ⟨L',e,hL⟩:=d.code;have hf1:Qn7 μ n n1:=fun q x y=> hf q x (by omega)
 obtain ⟨μ1,A1,w1,hp,hT,hst⟩:=Qjk (fr:=fr) (cs:=cs) (k:=L') a recs 0 c.tmps H n T' H1 n1 (List.range' recs.length (l2.length+1)) hch hs hk (fun j r hj=> by rw [Nat.zero_add];exact hown j r hj) rfl S μ w fr.tmps hok hB hS hf1
  (fun q hq hlt=> hR q (List.mem_append_left _ hq) hlt) b
 have hr:List.range' 0 recs.length++List.range' recs.length (l2.length+1)=List.range' 0 ops.size:=by
  rw [hlen];have:=List.range'_append_1 (s:=0) (m:=recs.length) (n:=l2.length+1);simpa using this
 rw [hr,List.range'_succ] at hst;obtain ⟨out',w2,μ2,hp2,ho,hst2⟩:=hdo _ μ1 w1 (QaZ fr A1 ops (recs.length::List.range' (recs.length+1) l2.length) L') cs L' ops recs.length _ hp.ok (hB.post hok hp) (fun q hq=> hq.elim (fun e=> by have:=hS q e;omega) (fun e=> e.2))
  (fun q x y=> by rw [hp.ext q (by omega)];exact hf q (by omega) y) (fun x _ v hv=> QtA (fr:=QaZ fr A1 ops (recs.length::List.range' (recs.length+1) l2.length) L') hT x v hv) (fun q hq hlt=> by
   rcases Nat.lt_or_ge q n with h1 | h1
   ·exact .inl (hR q (List.mem_append_right _ hq) h1)
   ·exact .inr ⟨h1,hlt⟩) a rfl hat (by rw [show (QaZ fr A1 ops (recs.length::List.range' (recs.length+1) l2.length) L').tmps=A1 from rfl,Qef hT];exact hwant)
 have hpp:=hp.trans hp2;cases ho with
 | pan hv=>
   rename_i v';refine ⟨{QaZ fr A1 ops (recs.length::List.range' (recs.length+1) l2.length) L' with mode:=.panicking [{v:=v',recovered:=false}]},w2,μ2,hpp,⟨hfr.fn,hT.mono (hp2.mu fun q x y=> by rw [hp.ext q (by omega)];exact hf q (by omega) y),(fun h=> by cases h),hfr.defers.mono (hpp.mu hf),.pan hv,hfr.kind,hfr.round.mono (hpp.mu hf)⟩,rfl,rfl,
    .head (QbH a e) (hst.trans (hst2.trans ?_))⟩
   simp only [OO.on,Frame.raise,QaZ,a];exact Steps.refl _ _
theorem DfB.app {Z:Bot} {μ:Mu} {a b:List Nat} {a' b':List Deferred} (h:DfR μ a a') (k:DfB Z μ b b'):DfB Z μ (a++b) (a'++b'):=by
 obtain ⟨L,h1,h2⟩:=k;subst h2;rw [<-List.append_assoc];refine ⟨_, ?_,rfl⟩;induction h with
 | nil=> exact h1
 | cons h _ ih=> exact .cons h ih
theorem QrO {μ:Mu} {T:Tm} {A:Array Value} (h:TR μ T A):VRs μ (Qra T) A:=by
 refine ⟨by simp [Qra,h.1],fun i v v' hv hv'=> ?_⟩;have hi:i < T.len:=by
  have:=(Array.getElem?_eq_some_iff.1 hv).1;simpa [Qra] using this
 have e1:v=QbV T i:=by simpa [Qra,hi] using hv.symm
 have e2:A.getD i undef=v':=by simp [hv']
 rw [e1,<-e2];exact h.2 i
theorem Qt5 {H:Qar} {f:Value} {args xs:Array Value} {g:FuncId} {R:List Nat} (h:QiH F H f args=some (.enter g xs,R)):R=[]:=by
 unfold QiH at h;split at h
 ·have:=Qcm h;simp only [YR] at this;exact this.2.symm
 ·split at h
  ·have:=Qcm h;simp only [YR] at this;cases this.1
  ·cases h
 ·cases h
theorem Qh8 {ps:Array Tmp} {assign body:Code} {H1:Qar} {l:Nat} {ds R1:List Nat} (hu:Under H n) (h:Qeu c H n ps assign body=some (H1,l,ds,R1)):
 Shape H n H1 (l+1) R1 []/\∀(S:Nat->Prop) (μ:Mu) (w:World) (fr:Frame),Ok B S μ (Qaw H) w->B.has w->(∀i,S i->i < n)->Qn7 μ n (l+1)->fr.fn=c.fn->TR μ c.tmps fr.tmps->RoR μ c.roundOf fr.roundOf->(∀i∈R1,i < n->S i)->
  ∃mark w1 μ1 im,(Instr.enterLoop fr.fn fr.tmps ps assign body fr.roundOf).run P w=.ok (im.blk,mark) w1/\μ1 l=some im/\Post B S n (l+1) [] μ μ1 H H1 w w1/\DfR μ1 ds mark:=by
 unfold Qeu at h;split at h
 ·rename_i hr;simp only [YO,YR] at h;obtain ⟨rfl,rfl,rfl,rfl⟩:=h;refine ⟨(Shape.new H n _ []).trans (Shape.new _ (n+1) _ []),fun S μ w fr hok hB hS hf hfn ht hro hR=> ?_⟩;have hro:fr.roundOf=none:=by
   rw [hr] at hro;cases hq:fr.roundOf with
   | none=> rfl
   | some x=> rw [hq] at hro;exact hro.elim
  have p1:=Post.alloc hok hB.le hS (hf n (by omega) (by omega)) (.deferred (some [])) (.deferred (some [])) 0 ⟨rfl,heap_alloc _ _,.inl rfl⟩;have hn1:upd μ n ⟨w.heap.size,0,0,true,QpN⟩ (n+1)=none:=by
   rw [p1.ext (n+1) (by omega)];exact hf (n+1) (by omega) (by omega)
  have p2:=Post.alloc (n:=n+1) p1.ok (Nat.le_trans hB.le p1.grow) (fun i hi=> hi.elim (fun e=> by have:=hS i e;omega) (fun e=> e.2)) hn1
   (.loop ⟨.ready,none,c.fn,Qra c.tmps,ps,assign,body,n⟩) (.loop ⟨.ready,none,fr.fn,fr.tmps,ps,assign,body,w.heap.size⟩) 0
   ⟨rfl,fr.tmps,w.heap.size,by rw [hfn];exact heap_alloc _ _,QrO (ht.mono ((p1.mu (fun q a b=> hf q a (by omega))).trans (Qfa hn1)))⟩
  refine ⟨[{target:=.collected w.heap.size,args:=#[]}],_,_,_, ?_,QaP,p1.trans p2, ?_⟩
  ·rw [hro,run_enterLoop_outer];rw [show (w.alloc (.deferred (some []))).heap.size=w.heap.size+1 by simp]
  ·refine .cons (im:=⟨w.heap.size,0,0,true,QpN⟩) ?_ .nil;exact Qfa hn1 _ _ QaP
 ·rename_i l0 hr;split at h
  ·rename_i r hg;simp only [YO,YR] at h;obtain ⟨rfl,rfl,rfl,rfl⟩:=h;refine ⟨Shape.new H n _ [l0],fun S μ w fr hok hB hS hf hfn ht hro hR=> ?_⟩;obtain ⟨im,him,hor⟩:=hok.rel l0 _ (hR l0 (by simp) (hu.lt hg)) hg trivial;obtain ⟨_,tm,df,hw,_⟩:=hor;have hro:fr.roundOf=some im.blk:=by
    rw [hr] at hro;cases hq:fr.roundOf with
    | none=> rw [hq] at hro;exact hro.elim
    | some x=>
      rw [hq] at hro;obtain ⟨im',him',hx⟩:=hro;rw [him] at him';cases him';rw [hx]
   have hn1:=hf n (by omega) (by omega);have p1:=Post.alloc hok hB.le hS hn1 (.loop ⟨.ready,none,c.fn,Qra c.tmps,ps,assign,body,n⟩) (.loop ⟨.ready,none,fr.fn,fr.tmps,ps,assign,body,df⟩) 0
    ⟨rfl,fr.tmps,df,by rw [hfn];exact heap_alloc _ _,QrO (ht.mono (Qfa hn1))⟩
   refine ⟨[],_,_,_, ?_,QaP,p1,.nil⟩;rw [hro,run_enterLoop_inner hw]
  ·cases h
theorem QnA {fr:Frame} {cs:List Frame} {w w1:World} {f:Operand} {ps:Array Tmp} {assign body:Code} {k:List Item} {l:Nat} {mark:List Deferred} {g:FuncId} {args:Array Value} (hm:fr.mode=.run) (ht:fr.todo=.code (.rangeFunc f ps assign body)::k)
 (he:(Instr.enterLoop fr.fn fr.tmps ps assign body fr.roundOf).run P w=.ok (l,mark) w1) (hc:(do let d <-Deferred.ofValue (fr.eval f) #[.func (.yield l) #[] #[]];invoke d.target d.args:Sem Next).run P w1=.ok (.enter g args) w1):
 step P (lone fr cs w)=.next (lone (Frame.enter P g args .normal) ({fr with todo:=.inRangeFunc l::k,defers:=mark++fr.defers}::cs) w1):=by
 refine step_lone_go ?_;have hev:({fr with todo:=.inRangeFunc l::k,defers:=mark++fr.defers}:Frame).eval=fr.eval:=by funext x;cases x <;> rfl
 have hres:resolve fr.eval {callee:=.value f,args:=#[.const (.func (.yield l) #[] #[])],argTypes:=#[]} 0=Deferred.ofValue (fr.eval f) #[.func (.yield l) #[] #[]]:=by simp [resolve,Frame.eval]
 rw [hm] at hev;rw [Sem.run_bind] at hc;simp [stepG,stepG.exec,hm,ht,Sem.runT_eq,he,GStep.bare_after,stepG.apply,hev,hres,Sem.run_bind,hc]
end
end Go.CE

namespace Go.CE
open Go Go.RowKit

theorem Q3r {α:Type} {q:Bool} {x:α} {r:Option α} (h:(bif q then some x else none)=r) (hr:r.isSome=true):q=true:=by
 cases q with
 | true=> rfl
 | false=> subst h;cases hr
section
variable {P:Program} {F:FuncId->Bool} {orc:Orc} {B:Lo} {rec:CF->Qar->Nat->Option Rs} {c:CF} {H:Qar} {n:Nat}
theorem QiQ (hF:∀g,F g=true->Qau P g=true) (hrec:QwH P B rec) {f:Operand} {ps:Array Tmp} {assign body:Code} {k:List Item} {fv:Value} {H1:Qar} {l:Nat} {ds R1 R2:List Nat} {g:FuncId} {args:Array Value} {c1:CF} {s:Rs} (hm:c.mode=.run) (hu:Under H n)
 (ht:c.todo=.code (.rangeFunc f ps assign body)::k) (hfv:evC c.tmps f=some fv) (ho:Qeu c H n ps assign body=some (H1,l,ds,R1)) (hc:QiH F H1 fv #[.func (.yield l) #[] #[]]=some (.enter g args,R2)) (he:Qc7 P g args=some c1) (hs:rec c1 H1 (l+1)=some s):
 Shape H n s.H s.n (R1++R2++s.R) s.W/\∀(S:Nat->Prop) (μ:Mu) (w:World) (fr:Frame) (cs:List Frame) (Z:Bot),Ok B S μ (Qaw H) w->B.has w->(∀i,S i->i < n)->Qn7 μ n s.n->FrR Z μ c fr->(∀i∈R1++R2++s.R,i < n->S i)->
  ∃out' w' μ' im mark L',Post B S n s.n s.W μ μ' H s.H w w'/\μ' l=some im/\OR2 μ' s.out out'/\TodoR μ' k L'/\DfR μ' ds mark/\fr.mode=.run/\Ext μ μ'/\TR μ' c.tmps fr.tmps/\
   Steps P (lone fr cs w) (lone (out'.on {fr with todo:=.inRangeFunc im.blk::L',defers:=mark++fr.defers}) cs w'):=by
 have hR2:=Qt5 hc;subst hR2;rw [List.append_nil];obtain ⟨hsh1,hsem⟩:=Qh8 (P:=P) (B:=B) hu ho;have hfj:=hrec c1 H1 (l+1) s (hu.shape hsh1) hs;have l1:=hsh1.le;have l2:=hfj.shape.le;refine ⟨hsh1.trans hfj.shape,fun S μ w fr cs Z hok hB hS hf hfr hR=> ?_⟩;obtain ⟨a,b,d⟩:=hfr.running hm;rw [ht] at d;obtain ⟨L',e,hL⟩:=d.code;have hf1:Qn7 μ n (l+1):=fun q x y=> hf q x (by omega)
 obtain ⟨mark,w1,μ1,im,hel,him,hp,hdf⟩:=hsem S μ w fr hok hB hS hf1 hfr.fn b hfr.round (fun q hq hlt=> hR q (List.mem_append_left _ hq) hlt);have e1:=hp.mu hf1;obtain ⟨nx',hrun,hnr⟩:=QrK (P:=P) hF hc hp.ok ((QtA b f fv hfv).mono e1) (args':=#[.func (.yield im.blk) #[] #[]]) ⟨rfl,fun i v v' h1 h2=> by
  match i,h1,h2 with
  | 0,h1,h2=> simp only [List.getElem?_toArray,List.getElem?_cons_zero,YO] at h1 h2;subst h1 h2;exact .yield him
  | i+1,h1,h2=> simp at h1⟩ (fun i hi=> by simp at hi)
 cases hnr with
 | enter ha=>
   have hf2:∀q,l+1<=q->q < s.n->μ1 q=none:=fun q x y=> by rw [hp.ext q (by omega)];exact hf q (by omega) y
   obtain ⟨out',w',μ',hp2,ho2,hends⟩:=hfj.sem _ μ1 w1 _ ({fr with todo:=.inRangeFunc im.blk::L',defers:=mark++fr.defers}::cs) hp.ok (hB.post hok hp) (fun q hq=> hq.elim (fun e=> by have:=hS q e;omega) (fun e=> e.2)) hf2 (Qen he ha) (fun q hq hlt=> by
    rcases Nat.lt_or_ge q n with h1 | h1
    ·exact .inl (hR q (List.mem_append_right _ hq) h1)
    ·exact .inr ⟨h1,hlt⟩)
   have e2:=hp2.mu hf2;exact ⟨out',w',μ',im,mark,L',hp.trans hp2,e2 _ _ him,ho2,hL.mono (e1.trans e2),hdf.mono e2,a,e1.trans e2,b.mono (e1.trans e2),.head (QnA a e hel hrun) (hends.2 _ _ rfl)⟩
theorem Qqv (hF:∀g,F g=true->Qau P g=true) (hrec:QwH P B rec) {f:Operand} {ps:Array Tmp} {assign body:Code} {k:List Item} {fv v:Value} {H1:Qar} {l:Nat} {ds R1 R2:List Nat} {g:FuncId} {args:Array Value} {c1:CF} {s:Rs} (hm:c.mode=.run) (hu:Under H n)
 (ht:c.todo=.code (.rangeFunc f ps assign body)::k) (hfv:evC c.tmps f=some fv) (ho:Qeu c H n ps assign body=some (H1,l,ds,R1)) (hc:QiH F H1 fv #[.func (.yield l) #[] #[]]=some (.enter g args,R2)) (he:Qc7 P g args=some c1) (hs:rec c1 H1 (l+1)=some s) (hv:s.out=.ret v):
 GoJ P B c H n {c with todo:=.endRangeFunc l::k,defers:=ds++c.defers} s.H s.n (R1++R2++s.R) s.W:=by
 obtain ⟨hsh,hsem⟩:=QiQ hF hrec hm hu ht hfv ho hc he hs;refine ⟨hsh,fun S μ w fr cs Z hok hB hS hf hfr hR=> ?_⟩;obtain ⟨out',w',μ',im,mark,L',hp,him,hor,hL,hdf,a,e,hT,hst⟩:=hsem S μ w fr cs Z hok hB hS hf hfr hR;rw [hv] at hor;cases hor with
 | ret _=> exact ⟨{fr with todo:=.endRangeFunc im.blk::L',defers:=mark++fr.defers},w',μ',hp,⟨hfr.fn,hT,fun _=> .cons (.endRF him) hL,DfB.app hdf (hfr.defers.mono e),hfr.mode.mono e,hfr.kind,hfr.round.mono e⟩,rfl,rfl,hst⟩
theorem Qk2 (hF:∀g,F g=true->Qau P g=true) (hrec:QwH P B rec) {f:Operand} {ps:Array Tmp} {assign body:Code} {k:List Item} {fv v:Value} {H1:Qar} {l:Nat} {ds R1 R2:List Nat} {g:FuncId} {args:Array Value} {c1:CF} {s:Rs} (hm:c.mode=.run) (hu:Under H n)
 (ht:c.todo=.code (.rangeFunc f ps assign body)::k) (hfv:evC c.tmps f=some fv) (ho:Qeu c H n ps assign body=some (H1,l,ds,R1)) (hc:QiH F H1 fv #[.func (.yield l) #[] #[]]=some (.enter g args,R2)) (he:Qc7 P g args=some c1) (hs:rec c1 H1 (l+1)=some s) (hv:s.out=.pan v):
 GoJ P B c H n {c with mode:=.pan v,defers:=ds++c.defers} s.H s.n (R1++R2++s.R) s.W:=by
 obtain ⟨hsh,hsem⟩:=QiQ hF hrec hm hu ht hfv ho hc he hs;refine ⟨hsh,fun S μ w fr cs Z hok hB hS hf hfr hR=> ?_⟩;obtain ⟨out',w',μ',im,mark,L',hp,him,hor,hL,hdf,a,e,hT,hst⟩:=hsem S μ w fr cs Z hok hB hS hf hfr hR;rw [hv] at hor;cases hor with
 | pan hvr=>
   rename_i v';refine ⟨{fr with todo:=.inRangeFunc im.blk::L',defers:=mark++fr.defers,mode:=.panicking [{v:=v',recovered:=false}]},w',μ',hp,⟨hfr.fn,hT,(fun h=> by cases h),DfB.app hdf (hfr.defers.mono e),.pan hvr,hfr.kind,hfr.round.mono e⟩,rfl,rfl,hst.trans ?_⟩;simp only [OO.on,Frame.raise,a];exact Steps.refl _ _
theorem Qdc (hF:∀g,F g=true->Qau P g=true) (hmix:P.follows .mixedOrders=true) (horc:Qiq P B orc) (hrec:QwH P B rec) (hu:Under H n) {fs:FS} (h:Qiw P F orc rec c H n=some fs):Q8n P B c H n fs:=by
 unfold Qiw at h;split at h
 ·rename_i hm;split at h
  ·rename_i ht;exact Qgc hm hu (Qw5 ht) h
  ·rename_i k ht;exact Qgc hm hu (QwS ht) h
  ·rename_i k ht;simp only [YO] at h;subst h;exact Q6g hm ht
  ·rename_i l k ht;simp only [YO] at h;subst h;exact Q23 hm ht
  ·rename_i l k ht;simp only [YO] at h;subst h;exact QvZ hm ht
  ·rename_i l k ht;simp only [YO] at h;subst h;exact Qwg hm ht
  ·rename_i x y k ht;simp only [YO] at h;subst h;exact Q6E hm ht
  ·rename_i q x y k ht;split at h
   ·rename_i t hq;simp only [YO] at h;subst h;exact Q5H hm ht hq
   ·cases h
  ·rename_i id x k ht;simp only [YO] at h;subst h;exact Q3W hm ht
  ·rename_i x k ht;simp only [YO] at h;subst h;exact Q5t hm ht
  ·rename_i x k ht;simp only [YO] at h;subst h;exact Qzh hm ht
  ·rename_i x k ht;simp only [YO] at h;subst h;exact Q3F hm ht
  ·rename_i id k ht;split at h
   ·rename_i k' hx;simp only [YO] at h;subst h;exact Q51 hm ht hx
   ·rename_i hx;exact Qgc hm hu (Qt0 ht hx) h
  ·rename_i id k ht;split at h
   ·rename_i k' hx;simp only [YO] at h;subst h;exact Q5h hm ht hx
   ·rename_i hx;exact Qgc hm hu (QtL ht hx) h
  ·rename_i id ops draw k ht;split at h
   ·rename_i recs T' H' n' hr;cases hd:(!draw || (Qd1 0 ops.toList && indep ops 0 recs (QnF ops.toList []))) with
    | false=> rw [hd] at h;cases h
    | true=>
      rw [<-Qcm h];exact Q06 hF hrec horc hmix hm hu ht hr hd
   ·rename_i recs T' v H' n' R W hr;cases draw with
    | true=> cases h
    | false=>
      simp only [cond_false,YO] at h;subst h;exact QoL hF hrec horc hm hu ht hr
   ·cases h
  ·rename_i f ps assign body k ht;split at h
   ·rename_i fv hfv;split at h
    ·rename_i H1 l ds R1 ho;split at h
     ·rename_i g args R2 hc;split at h
      ·rename_i c1 he;split at h
       ·rename_i s hs;split at h
        ·rename_i v hv;simp only [YO] at h;subst h;exact Qqv hF hrec hm hu ht hfv ho hc he hs hv
        ·rename_i v hv;simp only [YO] at h;subst h;exact Qk2 hF hrec hm hu ht hfv ho hc he hs hv
       ·cases h
      ·cases h
     ·cases h
    ·cases h
   ·cases h
  ·rename_i l k ht;split at h
   ·rename_i r hg;by_cases hs:r.state=.busy
    ·simp [hs] at h
    ·simp only [hs,decide_false,Bool.not_false,cond_true,YO] at h;subst h;exact Q2Z hm hu ht hg hs
   ·cases h
  ·rename_i k ht;split at h
   ·rename_i l hr;split at h
    ·rename_i r hg;by_cases hs:r.state=.ready
     ·simp only [hs,decide_true,cond_true,YO] at h;subst h;exact Qpr hm hu ht hr hg hs
     ·simp [hs] at h
    ·cases h
   ·cases h
  ·cases h
 ·rename_i hm;split at h
  ·rename_i d ds hd;split at h
   ·rename_i hg;simp only [YO] at h;subst h;exact Qv9 hm hu hd hg
   ·cases h
  ·rename_i hd;split at h
   ·rename_i v hv;have hq:=Q3r h rfl;rw [<-Qcm h];exact Q2G hv hd hq
   ·rename_i hnp;split at h
    ·rename_i v R hr hv;simp only [YO] at h;subst h;refine Q3p hu ?_ hd hv;cases hq:c.mode with
     | run=> exact absurd hq hm
     | ret=> rfl
     | pan v=> exact absurd hq (hnp v)
    ·cases h
theorem FJ.lists {out:OO} {H':Qar} {n':Nat} {R W R' W':List Nat} (h:FJ P B c H n out H' n' R W) (hR:∀i,i < n->(i∈R'<->i∈R)) (hW:∀i,i < n->(i∈W'<->i∈W)) (hlt:∀i∈W',i < n):FJ P B c H n out H' n' R' W':=by
 refine ⟨⟨h.shape.le,fun i hi hw=> h.shape.keep i hi fun e=> hw ((hW i hi).2 e),h.shape.top,fun i hi=> (hR i (hlt i hi)).2 (h.shape.sub i ((hW i (hlt i hi)).1 hi)),fun i hi=> by have:=hlt i hi;have:=h.shape.le;omega⟩,fun S μ w fr cs hok hB hS hf hfr hRS=> ?_⟩;obtain ⟨out',w',μ',hp,ho,he⟩:=h.sem S μ w fr cs hok hB hS hf hfr (fun i hi hl=> hRS i ((hR i hl).2 hi) hl);exact ⟨out',w',μ',hp.lists hW,ho,he⟩
theorem Qb0 {b:Nat} {l acc:List Nat} {i:Nat} (hi:i < b):i∈Qeb b l acc<->i∈acc\/i∈l:=by
 obtain ⟨h1,h2,h3⟩:=QoI (b:=b) l acc i;exact ⟨fun h=> (h1 h).imp id And.left,fun h=> h.elim h2 fun h=> h3 h hi⟩
theorem QgN {b:Nat} {l acc:List Nat} (h:∀i∈acc,i < b):∀i∈Qeb b l acc,i < b:=fun i hi=> ((QoI (b:=b) l acc i).1 hi).elim (h i) And.right
theorem QeV (hF:∀g,F g=true->Qau P g=true) (hmix:P.follows .mixedOrders=true) (horc:Qiq P B orc):∀(fuel:Nat) (b:Nat) (c:CF) (H:Qar) (n:Nat) (R0 W0:List Nat) (s:Rs),Under H n->(∀i∈R0,i < b)->(∀i∈W0,i < b)->Q1Z P F orc fuel b c H n R0 W0=some s->
 ∃Rr Wr,FJ P B c H n s.out s.H s.n Rr Wr/\(∀i,i < b->(i∈s.R<->i∈R0\/i∈Rr))/\(∀i,i < b->(i∈s.W<->i∈W0\/i∈Wr))/\(∀i∈s.R,i < b)/\(∀i∈s.W,i < b)
 | 0,b,c,H,n,R0,W0,s,hu,hR0,hW0,h=> by simp [Q1Z] at h
 | fuel+1,b,c,H,n,R0,W0,s,hu,hR0,hW0,h=> by
   have hrec:QwH P B (fun c1 H1 n1=> Q1Z P F orc fuel n1 c1 H1 n1 [] []):=by
    intro c1 H1 n1 s1 hu1 h1;obtain ⟨Rr,Wr,hfj,a1,a2,a3,a4⟩:=QeV hF hmix horc fuel n1 c1 H1 n1 [] [] s1 hu1 (fun i hi=> by simp at hi) (fun i hi=> by simp at hi) h1;exact hfj.lists (fun i hi=> by simpa using a1 i hi) (fun i hi=> by simpa using a2 i hi) a4
   simp only [Q1Z] at h;split at h
   ·rename_i c' H' n' R' W' hs;have hgo:GoJ P B c H n c' H' n' R' W':=Qdc hF hmix horc hrec hu hs;obtain ⟨Rr,Wr,hfj,a1,a2,a3,a4⟩:=QeV hF hmix horc fuel b c' H' n' (Qeb b R' R0) (Qeb b W' W0) s (hu.shape hgo.shape) (QgN hR0) (QgN hW0) h;refine ⟨R'++Rr,W'++Wr,hgo.fj hfj,fun i hi=> ?_,fun i hi=> ?_,a3,a4⟩
    ·rw [a1 i hi,Qb0 hi,List.mem_append,or_assoc]
    ·rw [a2 i hi,Qb0 hi,List.mem_append,or_assoc]
   ·rename_i out H' n' R' W' hs;have hdone:FJ P B c H n out H' n' R' W':=Qdc hF hmix horc hrec hu hs;simp only [YO] at h;subst h;exact ⟨R',W',hdone,fun i hi=> Qb0 hi,fun i hi=> Qb0 hi,QgN hR0,QgN hW0⟩
   ·cases h
end
end Go.CE
