/- CE: the canonical machine again, its cases in small pieces: the kernel evaluates it quicker. -/
import Derived.Test.YtiabgkiccaodmaaGreatZRA03
set_option linter.all false
namespace Go.CE
open Go Go.RowKit

def Q0D (P:Program) (t:TypeId) (H:Qap) (n:Nat):Option CR:=match zeroOf P t with
 | some z=> bif af z then some ⟨.val (Q1k n),(n,.cells z.cells t (0,0))::H,n+1,[],[]⟩ else none
 | none=> none
def Q4o (t:TypeId) (x:Option Value) (H:Qap) (n:Nat):Option CR:=match x with
 | some v=> some ⟨.val (Q1k n),(n,.cells v.cells t (0,0))::H,n+1,[],[]⟩
 | none=> none
def Q0F (P:Program) (t:TypeId) (l:Option (List (Nat×Value))) (H:Qap) (n:Nat):Option CR:=match l with
 | some l=> mkPure (Qsn P t l) H n
 | none=> none
def QlO (P:Program) (t:TypeId) (len:Nat) (l:Option (List (Nat×Value))) (H:Qap) (n:Nat):Option CR:=match l with
 | some l=> match QfK P t len l with
   | some (e,cs,s)=> some ⟨.val (.slice (some ⟨n,0,none⟩) len s),(n,.cells cs e (0,0))::H,n+1,[],[]⟩
   | none=> none
 | none=> none
def Q1Z (P:Program) (t:TypeId) (a:Option Value) (H:Qap) (n:Nat):Option CR:=match a with
 | some p=> match QiP P t H p with
   | some (v,b)=> some ⟨.val v,H,n,[b],[]⟩
   | none=> none
 | none=> none
def Qxz (P:Program) (t:TypeId) (a x:Option Value) (H:Qap) (n:Nat):Option CR:=match a,x with
 | some p,some v=> match QgY P t H v p with
   | some (H',b)=> some ⟨.val undef,H',n,[b],[b]⟩
   | none=> none
 | _,_=> none
def QiJ (P:Program) (s:TypeId) (f:Nat) (x:Option Value) (H:Qap) (n:Nat):Option CR:=match x with
 | some p=> mkPure (QbI P s f p) H n
 | none=> none
def QxY (P:Program) (s:TypeId) (f:Nat) (x:Option Value) (H:Qap) (n:Nat):Option CR:=match x with
 | some p=> mkPure (Qm9 P s f p) H n
 | none=> none
def QiZ (P:Program) (t:TypeId) (x i:Option Value) (H:Qap) (n:Nat):Option CR:=match x,i with
 | some v,some k=> mkPure (Qet P t v k) H n
 | _,_=> none
def Q01 (P:Program) (ev:Operand->Option Value) (o:Oper) (t:TypeId) (x i:Option Value) (H:Qap) (n:Nat):Option CR:=match x,i with
 | some (.agg cs),some k=> mkPure (Qsz P t (.agg cs) k) H n
 | _,_=> mkPure (Qem P ev o) H n
def QnQ (i:Nat) (x:Option Value) (H:Qap) (n:Nat):Option CR:=match x with
 | some v=> mkPure (QgJ i v) H n
 | none=> none
def Q25 (P:Program) (t:TypeId) (l c:Option Value) (H:Qap) (n:Nat):Option CR:=match l,c with
 | some x,some y=> match Qhl P t x y with
   | some (e,cs,l,s)=> some ⟨.val (.slice (some ⟨n,0,none⟩) l s),(n,.cells cs e (0,0))::H,n+1,[],[]⟩
   | none=> none
 | _,_=> none
def Q2U (P:Program) (ev:Operand->Option Value) (o:Oper) (t:TypeId) (x:Option Value) (lo hi:Option (Option Value)) (H:Qap) (n:Nat):Option CR:=match x,lo,hi with
 | some (.slice (some a) m s),some l,some h=> mkPure (Qhc P t (.slice (some a) m s) l h) H n
 | some (.pointer p),some l,some h=> mkPure (Qhc P t (.pointer p) l h) H n
 | _,_,_=> mkPure (Qem P ev o) H n
def Qvm (P:Program) (ev:Operand->Option Value) (o:Oper) (t:TypeId) (x:Operand) (lo hi m:Option Operand) (H:Qap) (n:Nat):Option CR:=match m with
 | none=> Q2U P ev o t (ev x) (evo ev lo) (evo ev hi) H n
 | some mx=> match hi with
   | some h=> bif QiG P t (ev x) (evo ev lo) (ev h) (ev mx) then some ⟨.val Qpd,H,n,[],[]⟩ else mkPure (Qem P ev o) H n
   | none=> mkPure (Qem P ev o) H n
def Qpf (P:Program) (ev:Operand->Option Value) (o:Oper) (fn:Fn) (first captured:Array Operand) (H:Qap) (n:Nat):Option CR:=match fn with
 | .func f=> match Qgm ev first.toList,Qgm ev captured.toList with
   | some xs,some ys=> some ⟨.val (.func (.func f) xs.toArray ys.toArray),H,n,[],[]⟩
   | _,_=> none
 | _=> mkPure (Qem P ev o) H n
def QrW (P:Program) (ev:Operand->Option Value) (o:Oper) (r:Option Operand) (H:Qap) (n:Nat):Option CR:=match r with
 | none=> some ⟨.val (.map (some n)),(n,.map #[] 0)::H,n+1,[],[]⟩
 | some _=> mkPure (Qem P ev o) H n
def QxT (P:Program) (t:TypeId) (ok:Bool) (x k:Option Value) (H:Qap) (n:Nat):Option CR:=match x,k with
 | some m,some kv=> match Qlr P t H ok m kv with
   | some (v,R)=> some ⟨.val v,H,n,R,[]⟩
   | none=> none
 | _,_=> none
def QmN (P:Program) (t:TypeId) (m k x:Option Value) (H:Qap) (n:Nat):Option CR:=match m,k,x with
 | some mv,some kv,some v=> match Qes P t H mv kv v with
   | some (H',b)=> some ⟨.val undef,H',n,[b],[b]⟩
   | none=> none
 | _,_,_=> none
def Q4b (P:Program) (ev:Operand->Option Value) (o:Oper) (op:BinOp) (x y:Option Value) (H:Qap) (n:Nat):Option CR:=match x,y with
 | some a,some b=> match Q1d op a b with
   | some v=> some ⟨.val v,H,n,[],[]⟩
   | none=> mkPure (Qem P ev o) H n
 | _,_=> none
def Q4r (x:Option Value) (H:Qap) (n:Nat):Option CR:=match x with
 | some (.pointer (some a))=> some ⟨.val (.pointer (some a)),H,n,[],[]⟩
 | some (.func (.func f) xs ys)=> some ⟨.val (.func (.func f) xs ys),H,n,[],[]⟩
 | some (.func (.yield f) xs ys)=> some ⟨.val (.func (.yield f) xs ys),H,n,[],[]⟩
 | _=> none
def Q3M (F:FuncId->Bool) (f:Option Value) (args:Option (List Value)) (H:Qap) (n:Nat):Option CR:=match f,args with
 | some fv,some args=> match Qid F H fv args.toArray with
   | some (nx,R)=> some ⟨nx,H,n,R,[]⟩
   | none=> none
 | _,_=> none
def Q19 (P:Program) (ev:Operand->Option Value) (c:Call) (H:Qap) (n:Nat):Option CR:=match c.args.toList,c.argTypes.toList with
 | [s,x],[t,t']=> match ev s,ev x with
   | some sv,some xv=> Q2n P t t' H n sv xv
   | _,_=> none
 | _,_=> none
def Q4z (P:Program) (ev:Operand->Option Value) (o:Oper) (c:Call) (H:Qap) (n:Nat):Option CR:=match c.args.toList,c.argTypes.toList with
 | [x],[t]=> match ev x,und P t with
   | some (.slice (some _) m _),some (.slice _)=> some ⟨.val (.int .i64 m),H,n,[],[]⟩
   | some (.chan (some 0)),some (.slice _)=> some ⟨.val (.int .i64 0),H,n,[],[]⟩
   | _,_=> mkPure (Qem P ev o) H n
 | _,_=> none
def Q3V (P:Program) (ev:Operand->Option Value) (c:Call) (H:Qap) (n:Nat):Option CR:=match c.args.toList,c.argTypes.toList with
 | [s,x],[t,_]=> match ev s,ev x with
   | some sv,some xv=> Qrv P t H n sv xv
   | _,_=> none
 | _,_=> none
def QzT (P:Program) (ev:Operand->Option Value) (o:Oper) (c:Call) (b:Builtin) (H:Qap) (n:Nat):Option CR:=match b with
 | .append=> Q19 P ev c H n
 | .len=> Q4z P ev o c H n
 | .copy=> Q3V P ev c H n
 | _=> mkPure (Qem P ev o) H n
def QkC (P:Program) (F:FuncId->Bool) (ev:Operand->Option Value) (o:Oper) (c:Call) (H:Qap) (n:Nat):Option CR:=match c.callee with
 | .builtin b=> QzT P ev o c b H n
 | .value f=> Q3M F (ev f) (Qgm ev c.args.toList) H n
 | _=> none
def Q38 (P:Program) (F:FuncId->Bool) (ev:Operand->Option Value) (o:Oper) (H:Qap) (n:Nat):Option CR:=
 match o.op with
 | .move x=> mkPure (ev x) H n
 | .assign x=> mkPure (ev x) H n
 | .pick c a b=> match ev c with
   | some (.bool t)=> mkPure (ev (bif t then a else b)) H n
   | _=> none
 | .alloc t=> Q0D P t H n
 | .box t x=> Q4o t (ev x) H n
 | .build t ps=> Q0F P t (partsOf ev ps.toList) H n
 | .buildSlice t len ps=> QlO P t len (partsOf ev ps.toList) H n
 | .load t a=> Q1Z P t (ev a) H n
 | .store t a x=> Qxz P t (ev a) (ev x) H n
 | .fieldAddr s x f=> QiJ P s f (ev x) H n
 | .field t x f=> QxY P t f (ev x) H n
 | .indexAddr t x i=> QiZ P t (ev x) (ev i) H n
 | .index t x i=> Q01 P ev o t (ev x) (ev i) H n
 | .extract x i=> QnQ i (ev x) H n
 | .makeSlice t l c=> Q25 P t (ev l) (ev c) H n
 | .slice t x lo hi m=> Qvm P ev o t x lo hi m H n
 | .makeFunc fn first captured=> Qpf P ev o fn first captured H n
 | .makeMap _ r=> QrW P ev o r H n
 | .lookup t x k ok=> QxT P t ok (ev x) (ev k) H n
 | .mapUpdate t m k x=> QmN P t (ev m) (ev k) (ev x) H n
 | .binOp op _ x y _=> Q4b P ev o op (ev x) (ev y) H n
 | .nilCheck x=> Q4r (ev x) H n
 | .call c=> QkC P F ev o c H n
 | _=> mkPure (Qem P ev o) H n
theorem Q13 (P:Program) (F:FuncId->Bool) (ev:Operand->Option Value) (o:Oper) (H:Qap) (n:Nat):Q38 P F ev o H n=cop P F ev o H n:=by
 unfold Q38 cop
 cases o.op with
 | slice t x lo hi m=> cases m <;> cases hi <;> rfl
 | makeFunc fn a b=> cases fn <;> rfl
 | makeMap t r=> cases r <;> rfl
 | call c=>
   simp only [QkC]
   cases c.callee with
   | builtin b=> cases b <;> rfl
   | value f=> rfl
   | invoke a b=> rfl
 | _=> rfl
def Q1J (r:CR) (s:Rs):Option Rs:=match QeV r.H s with
 | s=> some ⟨s.out,s.H,s.n,r.R++s.R,r.W++s.W⟩
def Q3J (P:Program) (rec:CF->Qap->Nat->Option Rs) (g:FuncId) (args:Array Value) (r:CR):Option Rs:=match Qci P g args with
 | some c=> match rec c r.H r.n with
   | some s=> Q1J r s
   | none=> none
 | none=> none
def Qsm (P:Program) (orc:Orc) (rec:CF->Qap->Nat->Option Rs) (g:FuncId) (args:Array Value) (r:CR):Option Rs:=match orc g args r.H r.n with
 | some s=> some ⟨s.out,s.H,s.n,r.R++s.R,r.W++s.W⟩
 | none=> Q3J P rec g args r
def Q2q (rec:CF->Qap->Nat->Option Rs) (l:Nat) (fn:FuncId) (tm:Array Value) (a b:Code) (r:CR):Option Rs:=bif Nat.ble tm.size 16000 then match rec ⟨fn,ofList tm.size tm.toList,[.code a,.beginRound,.code b],[],.run,some l⟩ r.H r.n with
 | some s=> some ⟨s.out,s.H,s.n,r.R++s.R,r.W++s.W⟩
 | none=> none
 else none
def Qzb (P:Program) (orc:Orc) (rec:CF->Qap->Nat->Option Rs) (r:CR):Option Rs:=match r.nx with
 | .val v=> some ⟨.ret v,r.H,r.n,r.R,r.W⟩
 | .enter g args=> Qsm P orc rec g args r
 | .round l fn tm a b=> Q2q rec l fn tm a b r
def qR (P:Program) (orc:Orc) (rec:CF->Qap->Nat->Option Rs) (n:Nat) (x:Option CR):Option Rs:=match x with
 | some r=> bif r.R.all (fun i=> Nat.blt i n) then Qzb P orc rec r else none
 | none=> none
def Q2R (v:Option Value) (H:Qap) (n:Nat):Option Rs:=match v with
 | some (.iface t v)=> some ⟨.pan (.iface t v),H,n,[],[]⟩
 | _=> none
def Qya:Op->Nat
 | .defer _=> 1
 | .panic _=> 2
 | _=> 0
def qV (v:Option Value) (H:Qap) (n:Nat):Option Rs:=match v with
 | some v=> some ⟨.ret v,H,n,[],[]⟩
 | none=> none
def opQ (P:Program) (F:FuncId->Bool) (orc:Orc) (rec:CF->Qap->Nat->Option Rs) (T:Tm) (o:Oper) (H:Qap) (n:Nat):Option Rs:=
 match o.op with
 | .move x=> qV (evC T x) H n
 | .assign x=> qV (evC T x) H n
 | .pick c a b=> match evC T c with
   | some (.bool t)=> qV (evC T (bif t then a else b)) H n
   | _=> none
 | .alloc t=> qR P orc rec n (Q0D P t H n)
 | .box t x=> qR P orc rec n (Q4o t (evC T x) H n)
 | .build t ps=> qR P orc rec n (Q0F P t (partsOf (evC T) ps.toList) H n)
 | .buildSlice t len ps=> qR P orc rec n (QlO P t len (partsOf (evC T) ps.toList) H n)
 | .load t a=> qR P orc rec n (Q1Z P t (evC T a) H n)
 | .store t a x=> qR P orc rec n (Qxz P t (evC T a) (evC T x) H n)
 | .fieldAddr s x f=> qR P orc rec n (QiJ P s f (evC T x) H n)
 | .field t x f=> qR P orc rec n (QxY P t f (evC T x) H n)
 | .indexAddr t x i=> qR P orc rec n (QiZ P t (evC T x) (evC T i) H n)
 | .index t x i=> qR P orc rec n (Q01 P (evC T) o t (evC T x) (evC T i) H n)
 | .extract x i=> qR P orc rec n (QnQ i (evC T x) H n)
 | .makeSlice t l c=> qR P orc rec n (Q25 P t (evC T l) (evC T c) H n)
 | .slice t x lo hi m=> qR P orc rec n (Qvm P (evC T) o t x lo hi m H n)
 | .makeFunc fn first captured=> qR P orc rec n (Qpf P (evC T) o fn first captured H n)
 | .makeMap _ r=> qR P orc rec n (QrW P (evC T) o r H n)
 | .lookup t x k ok=> qR P orc rec n (QxT P t ok (evC T x) (evC T k) H n)
 | .mapUpdate t m k x=> qR P orc rec n (QmN P t (evC T m) (evC T k) (evC T x) H n)
 | .binOp op _ x y _=> qR P orc rec n (Q4b P (evC T) o op (evC T x) (evC T y) H n)
 | .nilCheck x=> qR P orc rec n (Q4r (evC T x) H n)
 | .call c=> qR P orc rec n (QkC P F (evC T) o c H n)
 | .defer _=> none
 | .panic x=> Q2R (evC T x) H n
 | _=> qR P orc rec n (mkPure (Qem P (evC T) o) H n)
theorem Q3X {P:Program} {F:FuncId->Bool} {orc:Orc} {rec:CF->Qap->Nat->Option Rs} {T:Tm} {o:Oper} {H:Qap} {n:Nat} (h1:∀c,o.op≠.defer c) (h2:∀x,o.op≠.panic x):opS P F orc rec T o H n=qR P orc rec n (Q38 P F (evC T) o H n):=by
 rw [Q13]
 unfold opS
 split
 ·rename_i c h;exact absurd h (h1 c)
 ·rename_i x h;exact absurd h (h2 x)
 ·unfold QjY
  cases cop P F (evC T) o H n with
  | none=> rfl
  | some r=>
    simp only [qR]
    cases r.R.all (fun i=> Nat.blt i n) with
    | false=> rfl
    | true=>
      simp only [cond_true,Qzb]
      cases r.nx <;> rfl
theorem Qgq {P:Program} {orc:Orc} {rec:CF->Qap->Nat->Option Rs} {H:Qap} {n:Nat} (v:Option Value):qR P orc rec n (mkPure v H n)=qV v H n:=by cases v <;> rfl
theorem Q22 (P:Program) (F:FuncId->Bool) (orc:Orc) (rec:CF->Qap->Nat->Option Rs) (T:Tm) (o:Oper) (H:Qap) (n:Nat):opQ P F orc rec T o H n=opS P F orc rec T o H n:=by
 cases hs:Qya o.op with
 | succ k=>
   unfold opQ opS
   generalize o.op=p at hs
   cases p <;> first | (simp [Qya] at hs;done) | rfl
 | zero=>
   rw [Q3X (by intro c h;rw [h] at hs;cases hs) (by intro c h;rw [h] at hs;cases hs)]
   unfold opQ Q38
   generalize hp:o.op=p at hs
   cases p with
   | move x=> exact (Qgq _).symm
   | assign x=> exact (Qgq _).symm
   | pick c a b=>
     simp only
     split
     ·exact (Qgq _).symm
     ·rfl
   | defer c=> cases hs
   | panic c=> cases hs
   | _=> rfl
def Qhv (P:Program) (F:FuncId->Bool) (orc:Orc) (rec:CF->Qap->Nat->Option Rs) (ops:Array Oper):List Oper->Tm->Qap->Nat->Option (List Rec×RF)
 | [],T,H,n=> some ([],.ok T H n)
 | o::l,T,H,n=>
   bif QhG T o.dst then
    bif Region.wanted o (Qbi ops T) then
     match opQ P F orc rec T o H n with
     | some s=> match s.out with
       | .ret v=> match Qhv P F orc rec ops l (QfR T o.dst v) s.H s.n with
         | some (rs,fin)=> some (⟨o,true,v,T,H,s.H,n,s.n,s.R,s.W⟩::rs,fin)
         | none=> none
       | .pan v=> some ([],.pan T v s.H s.n s.R s.W)
     | none=> none
    else match Qhv P F orc rec ops l (QfR T o.dst undef) H n with
     | some (rs,fin)=> some (⟨o,false,undef,T,H,H,n,n,[],[]⟩::rs,fin)
     | none=> none
   else none
theorem Qs8 (P:Program) (F:FuncId->Bool) (orc:Orc) (rec:CF->Qap->Nat->Option Rs) (ops:Array Oper):∀(l:List Oper) (T:Tm) (H:Qap) (n:Nat),Qhv P F orc rec ops l T H n=Qtt P F orc rec ops l T H n
 | [],_,_,_=> rfl
 | o::l,T,H,n=> by simp only [Qhv,Qtt,Q22,Qs8 P F orc rec ops l];rfl
def qGo (c:CF) (k:List Item) (H:Qap) (n:Nat):Option FS:=some (.go {c with todo:=k} H n [] [])
def Q3R (c:CF) (ops:Array Oper) (draw:Bool) (k:List Item):Option (List Rec×RF)->Option FS
 | some (recs,.ok T' H' n')=> bif !draw || (Qde 0 ops.toList && indep ops 0 recs (Qmh ops.toList [])) then some (.go {c with tmps:=T',todo:=k} H' n' (Qk7 recs) (QhC recs)) else none
 | some (recs,.pan T' v H' n' R W)=> bif draw then none else some (.go {c with tmps:=T',mode:=.pan v} H' n' (Qk7 recs++R) (QhC recs++W))
 | none=> none
def Q0Q (c:CF) (k:List Item) (l:Nat) (ds R1 R2:List Nat):Option Rs->Option FS
 | some s=> match s.out with
   | .ret _=> some (.go {c with todo:=.endRangeFunc l::k,defers:=ds++c.defers} s.H s.n (R1++R2++s.R) s.W)
   | .pan v=> some (.go {c with mode:=.pan v,defers:=ds++c.defers} s.H s.n (R1++R2++s.R) s.W)
 | none=> none
def Q0E (P:Program) (F:FuncId->Bool) (rec:CF->Qap->Nat->Option Rs) (c:CF) (params:Array Tmp) (assign body:Code) (k:List Item) (H:Qap) (n:Nat):Option Value->Option FS
 | some fv=> match QdO c H n params assign body with
   | some (H1,l,ds,R1)=> match Qid F H1 fv #[.func (.yield l) #[] #[]] with
     | some (.enter g args,R2)=> match Qci P g args with
       | some c1=> Q0Q c k l ds R1 R2 (rec c1 H1 (l+1))
       | none=> none
     | _=> none
   | none=> none
 | none=> none
def Q3F (c:CF) (a b:Code) (k:List Item) (H:Qap) (n:Nat):Option Value->Option FS
 | some (.bool t)=> qGo c (.code (bif t then a else b)::k) H n
 | _=> none
def Q03 (c:CF) (H:Qap) (n:Nat) (j:Code):Option (List Item)->Option FS
 | some k'=> qGo c k' H n
 | none=> Qhd c H n (some j)
def QoP (P:Program) (F:FuncId->Bool) (orc:Orc) (rec:CF->Qap->Nat->Option Rs) (c:CF) (k:List Item) (H:Qap) (n:Nat):Code->Option FS
 | .ret=> Qhd c H n (some .ret)
 | .skip=> qGo c k H n
 | .label _=> qGo c k H n
 | .seq a b=> qGo c (.code a::.code b::k) H n
 | .cond x a b=> Q3F c a b k H n (evC c.tmps x)
 | .block id b=> qGo c (.code b::.inBlock id::k) H n
 | .loop b=> qGo c (.code b::.inLoop b::k) H n
 | .scope b=> qGo c (.code b::.inScope b::k) H n
 | .exit id=> Q03 c H n (.exit id) (exitTo id k)
 | .goto l=> Q03 c H n (.goto l) (gotoIn l k)
 | .region _ ops draw=> Q3R c ops draw k (Qhv P F orc rec ops ops.toList c.tmps H n)
 | .rangeFunc f params assign body=> Q0E P F rec c params assign body k H n (evC c.tmps f)
 | _=> none
def Q2F (c:CF) (l:Nat) (k:List Item) (H:Qap) (n:Nat):Option FS:=match Qau H l with
 | some (.loop r)=> bif !(decide (r.state=.busy)) then some (.go {c with todo:=(r.pending.map Item.code).toList++k} (QfO H l (.loop {r with state:=.exhausted})) n [l] [l]) else none
 | _=> none
def Q26 (c:CF) (k:List Item) (H:Qap) (n:Nat):Option FS:=match c.roundOf with
 | some l=> match Qau H l with
   | some (.loop r)=> bif decide (r.state=.ready) then some (.go {c with todo:=k} (QfO H l (.loop {r with state:=.busy})) n [l] [l]) else none
   | _=> none
 | none=> none
def QoS (P:Program) (F:FuncId->Bool) (orc:Orc) (rec:CF->Qap->Nat->Option Rs) (c:CF) (k:List Item) (H:Qap) (n:Nat):Item->Option FS
 | .code cd=> QoP P F orc rec c k H n cd
 | .inBlock _=> qGo c k H n
 | .inScope _=> qGo c k H n
 | .inLoop b=> qGo c (.code b::.inLoop b::k) H n
 | .endRangeFunc l=> Q2F c l k H n
 | .beginRound=> Q26 c k H n
 | _=> none
def Q4y (P:Program) (c:CF) (H:Qap) (n:Nat):Option FS:=match c.defers with
 | d::ds=> match Qau H d with
   | some (.deferred (some []))=> some (.go {c with defers:=ds} (QfO H d (.deferred none)) n [d] [d])
   | _=> none
 | []=> match c.mode with
   | .pan v=> bif Q3C P c.fn then some (.done (.pan v) H n [] []) else none
   | _=> match c.roundOf,Qvk P c.fn H c.tmps with
     | none,some (v,R)=> some (.done (.ret v) H n R [])
     | _,_=> none
def QmA (P:Program) (F:FuncId->Bool) (orc:Orc) (rec:CF->Qap->Nat->Option Rs) (c:CF) (H:Qap) (n:Nat):Option FS:=
 match c.mode with
 | .run=> match c.todo with
   | []=> Qhd c H n none
   | it::k=> QoS P F orc rec c k H n it
 | _=> Q4y P c H n
theorem Qxs (P:Program) (F:FuncId->Bool) (orc:Orc) (rec:CF->Qap->Nat->Option Rs) (c:CF) (H:Qap) (n:Nat):QmA P F orc rec c H n=QhH P F orc rec c H n:=by
 obtain ⟨fn,tmps,todo,defers,mode,ro⟩:=c
 unfold QmA QhH
 cases mode with
 | run=>
   cases todo with
   | nil=> rfl
   | cons it k=>
     cases it with
     | code cd=>
       cases cd with
       | region id ops draw=>
         simp only [QoS,QoP,Qs8]
         cases Qtt P F orc rec ops ops.toList tmps H n with
         | none=> rfl
         | some x=>
           obtain ⟨recs,fin⟩:=x
           cases fin <;> rfl
       | rangeFunc f ps assign body=>
         simp only [QoS,QoP,Q0E]
         cases evC tmps f with
         | none=> rfl
         | some fv=>
           simp only
           cases QdO ⟨fn,tmps,.code (.rangeFunc f ps assign body)::k,defers,.run,ro⟩ H n ps assign body with
           | none=> rfl
           | some x=>
             obtain ⟨H1,l,ds,R1⟩:=x
             simp only
             cases Qid F H1 fv #[.func (.yield l) #[] #[]] with
             | none=> rfl
             | some y=>
               obtain ⟨nx,R2⟩:=y
               cases nx with
               | enter g args=>
                 simp only
                 cases Qci P g args with
                 | none=> rfl
                 | some c1=>
                   simp only
                   cases rec c1 H1 (l+1) with
                   | none=> rfl
                   | some s=> obtain ⟨o,_,_,_,_⟩:=s;cases o <;> rfl
               | _=> rfl
       | cond x a b=>
         simp only [QoS,QoP]
         cases evC tmps x with
         | none=> rfl
         | some v=> cases v <;> rfl
       | exit id=> simp only [QoS,QoP];cases exitTo id k <;> rfl
       | goto id=> simp only [QoS,QoP];cases gotoIn id k <;> rfl
       | _=> rfl
     | _=> rfl
 | ret=> rfl
 | pan v=> rfl
def QgX (P:Program) (F:FuncId->Bool) (orc:Orc):Nat->Nat->CF->Qap->Nat->List Nat->List Nat->Option Rs
 | 0,_,_,_,_,_,_=> none
 | fuel+1,b,c,H,n,R,W=>
   match QmA P F orc (fun c1 H1 n1=> QgX P F orc fuel n1 c1 H1 n1 [] []) c H n with
   | some (.go c' H' n' R' W')=> QgX P F orc fuel b c' H' n' (Qd2 b R' R) (Qd2 b W' W)
   | some (.done out H' n' R' W')=> some ⟨out,H',n',Qd2 b R' R,Qd2 b W' W⟩
   | none=> none
theorem QnU (P:Program) (F:FuncId->Bool) (orc:Orc):∀(fuel b:Nat) (c:CF) (H:Qap) (n:Nat) (R W:List Nat),QgX P F orc fuel b c H n R W=Qyj P F orc fuel b c H n R W
 | 0,_,_,_,_,_,_=> rfl
 | fuel+1,b,c,H,n,R,W=> by
   simp only [QgX,Qyj,Qxs,QnU P F orc fuel]
   rfl
end Go.CE
