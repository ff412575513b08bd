/- CE: the canonical machine again, its cases in small pieces: the kernel evaluates it quicker. -/
import Derived.Test.YtiabgkiccaodmaaGreatZRA03
set_option linter.all false
namespace Go.CE
open Go Go.RowKit

def Q07 (P:Program) (t:TypeId) (H:Qap) (n:Nat):Option CR:=match zeroOf P t with
 | some z=> bif af z then some ⟨.val (Q1j n),(n,.cells z.cells t (0,0))::H,n+1,[],[]⟩ else none
 | none=> none
def Q4j (t:TypeId) (x:Option Value) (H:Qap) (n:Nat):Option CR:=match x with
 | some v=> some ⟨.val (Q1j n),(n,.cells v.cells t (0,0))::H,n+1,[],[]⟩
 | none=> none
def Q0G (P:Program) (t:TypeId) (l:Option (List (Nat×Value))) (H:Qap) (n:Nat):Option CR:=match l with
 | some l=> mkPure (Qs9 P t l) H n
 | none=> none
def Qkd (P:Program) (t:TypeId) (len:Nat) (l:Option (List (Nat×Value))) (H:Qap) (n:Nat):Option CR:=match l with
 | some l=> match QfH P t len l with
   | some (e,cs,s)=> some ⟨.val (.slice (some ⟨n,0,none⟩) len s),(n,.cells cs e (0,0))::H,n+1,[],[]⟩
   | none=> none
 | none=> none
def Q2g (P:Program) (t:TypeId) (a:Option Value) (H:Qap) (n:Nat):Option CR:=match a with
 | some p=> match Qi7 P t H p with
   | some (v,b)=> some ⟨.val v,H,n,[b],[]⟩
   | none=> none
 | none=> none
def QxO (P:Program) (t:TypeId) (a x:Option Value) (H:Qap) (n:Nat):Option CR:=match a,x with
 | some p,some v=> match Qhe P t H v p with
   | some (H',b)=> some ⟨.val undef,H',n,[b],[b]⟩
   | none=> none
 | _,_=> none
def Qi8 (P:Program) (s:TypeId) (f:Nat) (x:Option Value) (H:Qap) (n:Nat):Option CR:=match x with
 | some p=> mkPure (QbI P s f p) H n
 | none=> none
def QwD (P:Program) (s:TypeId) (f:Nat) (x:Option Value) (H:Qap) (n:Nat):Option CR:=match x with
 | some p=> mkPure (QmH P s f p) H n
 | none=> none
def QiY (P:Program) (t:TypeId) (x i:Option Value) (H:Qap) (n:Nat):Option CR:=match x,i with
 | some v,some k=> mkPure (Qew P t v k) H n
 | _,_=> none
def Q01 (P:Program) (ev:Operand->Option Value) (o:Oper) (t:TypeId) (x i:Option Value) (H:Qap) (n:Nat):Option CR:=match x,i with
 | some (.agg cs),some k=> mkPure (QrS P t (.agg cs) k) H n
 | _,_=> mkPure (Qej P ev o) H n
def Qnc (i:Nat) (x:Option Value) (H:Qap) (n:Nat):Option CR:=match x with
 | some v=> mkPure (QgL i v) H n
 | none=> none
def Q3v (P:Program) (t:TypeId) (l c:Option Value) (H:Qap) (n:Nat):Option CR:=match l,c with
 | some x,some y=> match Qhz P t x y with
   | some (e,cs,l,s)=> some ⟨.val (.slice (some ⟨n,0,none⟩) l s),(n,.cells cs e (0,0))::H,n+1,[],[]⟩
   | none=> none
 | _,_=> none
def Q2F (P:Program) (ev:Operand->Option Value) (o:Oper) (t:TypeId) (x:Option Value) (lo hi:Option (Option Value)) (H:Qap) (n:Nat):Option CR:=match x,lo,hi with
 | some (.slice (some a) m s),some l,some h=> mkPure (QgY P t (.slice (some a) m s) l h) H n
 | some (.pointer p),some l,some h=> mkPure (QgY P t (.pointer p) l h) H n
 | _,_,_=> mkPure (Qej P ev o) H n
def Qx9 (P:Program) (ev:Operand->Option Value) (o:Oper) (t:TypeId) (x:Operand) (lo hi m:Option Operand) (H:Qap) (n:Nat):Option CR:=match m with
 | none=> Q2F P ev o t (ev x) (evo ev lo) (evo ev hi) H n
 | some mx=> match hi with
   | some h=> bif Qjj P t (ev x) (evo ev lo) (ev h) (ev mx) then some ⟨.val QpY,H,n,[],[]⟩ else mkPure (Qej P ev o) H n
   | none=> mkPure (Qej P ev o) H n
def Qp0 (P:Program) (ev:Operand->Option Value) (o:Oper) (fn:Fn) (first captured:Array Operand) (H:Qap) (n:Nat):Option CR:=match fn with
 | .func f=> match Qgi ev first.toList,Qgi ev captured.toList with
   | some xs,some ys=> some ⟨.val (.func (.func f) xs.toArray ys.toArray),H,n,[],[]⟩
   | _,_=> none
 | _=> mkPure (Qej P ev o) H n
def QrW (P:Program) (ev:Operand->Option Value) (o:Oper) (r:Option Operand) (H:Qap) (n:Nat):Option CR:=match r with
 | none=> some ⟨.val (.map (some n)),(n,.map #[] 0)::H,n+1,[],[]⟩
 | some _=> mkPure (Qej P ev o) H n
def QuM (P:Program) (t:TypeId) (ok:Bool) (x k:Option Value) (H:Qap) (n:Nat):Option CR:=match x,k with
 | some m,some kv=> match QkN P t H ok m kv with
   | some (v,R)=> some ⟨.val v,H,n,R,[]⟩
   | none=> none
 | _,_=> none
def Qmu (P:Program) (t:TypeId) (m k x:Option Value) (H:Qap) (n:Nat):Option CR:=match m,k,x with
 | some mv,some kv,some v=> match Qet P t H mv kv v with
   | some (H',b)=> some ⟨.val undef,H',n,[b],[b]⟩
   | none=> none
 | _,_,_=> none
def Q3H (P:Program) (ev:Operand->Option Value) (o:Oper) (op:BinOp) (x y:Option Value) (H:Qap) (n:Nat):Option CR:=match x,y with
 | some a,some b=> match Q1V op a b with
   | some v=> some ⟨.val v,H,n,[],[]⟩
   | none=> mkPure (Qej P ev o) H n
 | _,_=> none
def Q4h (x:Option Value) (H:Qap) (n:Nat):Option CR:=match x with
 | some (.pointer (some a))=> some ⟨.val (.pointer (some a)),H,n,[],[]⟩
 | some (.func (.func f) xs ys)=> some ⟨.val (.func (.func f) xs ys),H,n,[],[]⟩
 | some (.func (.yield f) xs ys)=> some ⟨.val (.func (.yield f) xs ys),H,n,[],[]⟩
 | _=> none
def Q3J (F:FuncId->Bool) (f:Option Value) (args:Option (List Value)) (H:Qap) (n:Nat):Option CR:=match f,args with
 | some fv,some args=> match QhX F H fv args.toArray with
   | some (nx,R)=> some ⟨nx,H,n,R,[]⟩
   | none=> none
 | _,_=> none
def Q1L (P:Program) (ev:Operand->Option Value) (c:Call) (H:Qap) (n:Nat):Option CR:=match c.args.toList,c.argTypes.toList with
 | [s,x],[t,t']=> match ev s,ev x with
   | some sv,some xv=> Q2m P t t' H n sv xv
   | _,_=> none
 | _,_=> none
def Q4z (P:Program) (ev:Operand->Option Value) (o:Oper) (c:Call) (H:Qap) (n:Nat):Option CR:=match c.args.toList,c.argTypes.toList with
 | [x],[t]=> match ev x,und P t with
   | some (.slice (some _) m _),some (.slice _)=> some ⟨.val (.int .i64 m),H,n,[],[]⟩
   | some (.chan (some 0)),some (.slice _)=> some ⟨.val (.int .i64 0),H,n,[],[]⟩
   | _,_=> mkPure (Qej P ev o) H n
 | _,_=> none
def Q3F (P:Program) (ev:Operand->Option Value) (c:Call) (H:Qap) (n:Nat):Option CR:=match c.args.toList,c.argTypes.toList with
 | [s,x],[t,_]=> match ev s,ev x with
   | some sv,some xv=> Qrv P t H n sv xv
   | _,_=> none
 | _,_=> none
def QzB (P:Program) (ev:Operand->Option Value) (o:Oper) (c:Call) (b:Builtin) (H:Qap) (n:Nat):Option CR:=match b with
 | .append=> Q1L P ev c H n
 | .len=> Q4z P ev o c H n
 | .copy=> Q3F P ev c H n
 | _=> mkPure (Qej P ev o) H n
def QjV (P:Program) (F:FuncId->Bool) (ev:Operand->Option Value) (o:Oper) (c:Call) (H:Qap) (n:Nat):Option CR:=match c.callee with
 | .builtin b=> QzB P ev o c b H n
 | .value f=> Q3J F (ev f) (Qgi ev c.args.toList) H n
 | _=> none
def Q3B (P:Program) (F:FuncId->Bool) (ev:Operand->Option Value) (o:Oper) (H:Qap) (n:Nat):Option CR:=
 match o.op with
 | .move x=> mkPure (ev x) H n
 | .assign x=> mkPure (ev x) H n
 | .pick c a b=> match ev c with
   | some (.bool t)=> mkPure (ev (bif t then a else b)) H n
   | _=> none
 | .alloc t=> Q07 P t H n
 | .box t x=> Q4j t (ev x) H n
 | .build t ps=> Q0G P t (partsOf ev ps.toList) H n
 | .buildSlice t len ps=> Qkd P t len (partsOf ev ps.toList) H n
 | .load t a=> Q2g P t (ev a) H n
 | .store t a x=> QxO P t (ev a) (ev x) H n
 | .fieldAddr s x f=> Qi8 P s f (ev x) H n
 | .field t x f=> QwD P t f (ev x) H n
 | .indexAddr t x i=> QiY P t (ev x) (ev i) H n
 | .index t x i=> Q01 P ev o t (ev x) (ev i) H n
 | .extract x i=> Qnc i (ev x) H n
 | .makeSlice t l c=> Q3v P t (ev l) (ev c) H n
 | .slice t x lo hi m=> Qx9 P ev o t x lo hi m H n
 | .makeFunc fn first captured=> Qp0 P ev o fn first captured H n
 | .makeMap _ r=> QrW P ev o r H n
 | .lookup t x k ok=> QuM P t ok (ev x) (ev k) H n
 | .mapUpdate t m k x=> Qmu P t (ev m) (ev k) (ev x) H n
 | .binOp op _ x y _=> Q3H P ev o op (ev x) (ev y) H n
 | .nilCheck x=> Q4h (ev x) H n
 | .call c=> QjV P F ev o c H n
 | _=> mkPure (Qej P ev o) H n
theorem Q1l (P:Program) (F:FuncId->Bool) (ev:Operand->Option Value) (o:Oper) (H:Qap) (n:Nat):Q3B P F ev o H n=cop P F ev o H n:=by
 unfold Q3B cop
 cases o.op with
 | slice t x lo hi m=> cases m <;> cases hi <;> rfl
 | makeFunc fn a b=> cases fn <;> rfl
 | makeMap t r=> cases r <;> rfl
 | call c=>
   simp only [QjV]
   cases c.callee with
   | builtin b=> cases b <;> rfl
   | value f=> rfl
   | invoke a b=> rfl
 | _=> rfl
def Q0X (r:CR) (s:Rs):Option Rs:=match QeV r.H s with
 | s=> some ⟨s.out,s.H,s.n,r.R++s.R,r.W++s.W⟩
def Q4f (P:Program) (rec:CF->Qap->Nat->Option Rs) (g:FuncId) (args:Array Value) (r:CR):Option Rs:=match Qcg P g args with
 | some c=> match rec c r.H r.n with
   | some s=> Q0X r s
   | none=> none
 | none=> none
def QrQ (P:Program) (orc:Orc) (rec:CF->Qap->Nat->Option Rs) (g:FuncId) (args:Array Value) (r:CR):Option Rs:=match orc g args r.H r.n with
 | some s=> some ⟨s.out,s.H,s.n,r.R++s.R,r.W++s.W⟩
 | none=> Q4f P rec g args r
def Q3f (rec:CF->Qap->Nat->Option Rs) (l:Nat) (fn:FuncId) (tm:Array Value) (a b:Code) (r:CR):Option Rs:=bif Nat.ble tm.size 16000 then match rec ⟨fn,ofList tm.size tm.toList,[.code a,.beginRound,.code b],[],.run,some l⟩ r.H r.n with
 | some s=> some ⟨s.out,s.H,s.n,r.R++s.R,r.W++s.W⟩
 | none=> none
 else none
def QzY (P:Program) (orc:Orc) (rec:CF->Qap->Nat->Option Rs) (r:CR):Option Rs:=match r.nx with
 | .val v=> some ⟨.ret v,r.H,r.n,r.R,r.W⟩
 | .enter g args=> QrQ P orc rec g args r
 | .round l fn tm a b=> Q3f rec l fn tm a b r
def qR (P:Program) (orc:Orc) (rec:CF->Qap->Nat->Option Rs) (n:Nat) (x:Option CR):Option Rs:=match x with
 | some r=> bif r.R.all (fun i=> Nat.blt i n) then QzY P orc rec r else none
 | none=> none
def Q21 (v:Option Value) (H:Qap) (n:Nat):Option Rs:=match v with
 | some (.iface t v)=> some ⟨.pan (.iface t v),H,n,[],[]⟩
 | _=> none
def QxI:Op->Nat
 | .defer _=> 1
 | .panic _=> 2
 | _=> 0
def qV (v:Option Value) (H:Qap) (n:Nat):Option Rs:=match v with
 | some v=> some ⟨.ret v,H,n,[],[]⟩
 | none=> none
def opQ (P:Program) (F:FuncId->Bool) (orc:Orc) (rec:CF->Qap->Nat->Option Rs) (T:Tm) (o:Oper) (H:Qap) (n:Nat):Option Rs:=
 match o.op with
 | .move x=> qV (evC T x) H n
 | .assign x=> qV (evC T x) H n
 | .pick c a b=> match evC T c with
   | some (.bool t)=> qV (evC T (bif t then a else b)) H n
   | _=> none
 | .alloc t=> qR P orc rec n (Q07 P t H n)
 | .box t x=> qR P orc rec n (Q4j t (evC T x) H n)
 | .build t ps=> qR P orc rec n (Q0G P t (partsOf (evC T) ps.toList) H n)
 | .buildSlice t len ps=> qR P orc rec n (Qkd P t len (partsOf (evC T) ps.toList) H n)
 | .load t a=> qR P orc rec n (Q2g P t (evC T a) H n)
 | .store t a x=> qR P orc rec n (QxO P t (evC T a) (evC T x) H n)
 | .fieldAddr s x f=> qR P orc rec n (Qi8 P s f (evC T x) H n)
 | .field t x f=> qR P orc rec n (QwD P t f (evC T x) H n)
 | .indexAddr t x i=> qR P orc rec n (QiY P t (evC T x) (evC T i) H n)
 | .index t x i=> qR P orc rec n (Q01 P (evC T) o t (evC T x) (evC T i) H n)
 | .extract x i=> qR P orc rec n (Qnc i (evC T x) H n)
 | .makeSlice t l c=> qR P orc rec n (Q3v P t (evC T l) (evC T c) H n)
 | .slice t x lo hi m=> qR P orc rec n (Qx9 P (evC T) o t x lo hi m H n)
 | .makeFunc fn first captured=> qR P orc rec n (Qp0 P (evC T) o fn first captured H n)
 | .makeMap _ r=> qR P orc rec n (QrW P (evC T) o r H n)
 | .lookup t x k ok=> qR P orc rec n (QuM P t ok (evC T x) (evC T k) H n)
 | .mapUpdate t m k x=> qR P orc rec n (Qmu P t (evC T m) (evC T k) (evC T x) H n)
 | .binOp op _ x y _=> qR P orc rec n (Q3H P (evC T) o op (evC T x) (evC T y) H n)
 | .nilCheck x=> qR P orc rec n (Q4h (evC T x) H n)
 | .call c=> qR P orc rec n (QjV P F (evC T) o c H n)
 | .defer _=> none
 | .panic x=> Q21 (evC T x) H n
 | _=> qR P orc rec n (mkPure (Qej P (evC T) o) H n)
theorem Q3D {P:Program} {F:FuncId->Bool} {orc:Orc} {rec:CF->Qap->Nat->Option Rs} {T:Tm} {o:Oper} {H:Qap} {n:Nat} (h1:∀c,o.op≠.defer c) (h2:∀x,o.op≠.panic x):opS P F orc rec T o H n=qR P orc rec n (Q3B P F (evC T) o H n):=by
 rw [Q1l]
 unfold opS
 split
 ·rename_i c h;exact absurd h (h1 c)
 ·rename_i x h;exact absurd h (h2 x)
 ·unfold Qky
  cases cop P F (evC T) o H n with
  | none=> rfl
  | some r=>
    simp only [qR]
    cases r.R.all (fun i=> Nat.blt i n) with
    | false=> rfl
    | true=>
      simp only [cond_true,QzY]
      cases r.nx <;> rfl
theorem Qgx {P:Program} {orc:Orc} {rec:CF->Qap->Nat->Option Rs} {H:Qap} {n:Nat} (v:Option Value):qR P orc rec n (mkPure v H n)=qV v H n:=by cases v <;> rfl
theorem Q3n (P:Program) (F:FuncId->Bool) (orc:Orc) (rec:CF->Qap->Nat->Option Rs) (T:Tm) (o:Oper) (H:Qap) (n:Nat):opQ P F orc rec T o H n=opS P F orc rec T o H n:=by
 cases hs:QxI o.op with
 | succ k=>
   unfold opQ opS
   generalize o.op=p at hs
   cases p <;> first | (simp [QxI] at hs;done) | rfl
 | zero=>
   rw [Q3D (by intro c h;rw [h] at hs;cases hs) (by intro c h;rw [h] at hs;cases hs)]
   unfold opQ Q3B
   generalize hp:o.op=p at hs
   cases p with
   | move x=> exact (Qgx _).symm
   | assign x=> exact (Qgx _).symm
   | pick c a b=>
     simp only
     split
     ·exact (Qgx _).symm
     ·rfl
   | defer c=> cases hs
   | panic c=> cases hs
   | _=> rfl
def Qhx (P:Program) (F:FuncId->Bool) (orc:Orc) (rec:CF->Qap->Nat->Option Rs) (ops:Array Oper):List Oper->Tm->Qap->Nat->Option (List Rec×RF)
 | [],T,H,n=> some ([],.ok T H n)
 | o::l,T,H,n=>
   bif QhL T o.dst then
    bif Region.wanted o (Qbi ops T) then
     match opQ P F orc rec T o H n with
     | some s=> match s.out with
       | .ret v=> match Qhx P F orc rec ops l (QfS T o.dst v) s.H s.n with
         | some (rs,fin)=> some (⟨o,true,v,T,H,s.H,n,s.n,s.R,s.W⟩::rs,fin)
         | none=> none
       | .pan v=> some ([],.pan T v s.H s.n s.R s.W)
     | none=> none
    else match Qhx P F orc rec ops l (QfS T o.dst undef) H n with
     | some (rs,fin)=> some (⟨o,false,undef,T,H,H,n,n,[],[]⟩::rs,fin)
     | none=> none
   else none
theorem QrO (P:Program) (F:FuncId->Bool) (orc:Orc) (rec:CF->Qap->Nat->Option Rs) (ops:Array Oper):∀(l:List Oper) (T:Tm) (H:Qap) (n:Nat),Qhx P F orc rec ops l T H n=Qu6 P F orc rec ops l T H n
 | [],_,_,_=> rfl
 | o::l,T,H,n=> by simp only [Qhx,Qu6,Q3n,QrO P F orc rec ops l];rfl
def qGo (c:CF) (k:List Item) (H:Qap) (n:Nat):Option FS:=some (.go {c with todo:=k} H n [] [])
def Q3K (c:CF) (ops:Array Oper) (draw:Bool) (k:List Item):Option (List Rec×RF)->Option FS
 | some (recs,.ok T' H' n')=> bif !draw || (Qdc 0 ops.toList && indep ops 0 recs (Qmn ops.toList [])) then some (.go {c with tmps:=T',todo:=k} H' n' (Qku recs) (Qh8 recs)) else none
 | some (recs,.pan T' v H' n' R W)=> bif draw then none else some (.go {c with tmps:=T',mode:=.pan v} H' n' (Qku recs++R) (Qh8 recs++W))
 | none=> none
def Q0Z (c:CF) (k:List Item) (l:Nat) (ds R1 R2:List Nat):Option Rs->Option FS
 | some s=> match s.out with
   | .ret _=> some (.go {c with todo:=.endRangeFunc l::k,defers:=ds++c.defers} s.H s.n (R1++R2++s.R) s.W)
   | .pan v=> some (.go {c with mode:=.pan v,defers:=ds++c.defers} s.H s.n (R1++R2++s.R) s.W)
 | none=> none
def Q0H (P:Program) (F:FuncId->Bool) (rec:CF->Qap->Nat->Option Rs) (c:CF) (params:Array Tmp) (assign body:Code) (k:List Item) (H:Qap) (n:Nat):Option Value->Option FS
 | some fv=> match QdN c H n params assign body with
   | some (H1,l,ds,R1)=> match QhX F H1 fv #[.func (.yield l) #[] #[]] with
     | some (.enter g args,R2)=> match Qcg P g args with
       | some c1=> Q0Z c k l ds R1 R2 (rec c1 H1 (l+1))
       | none=> none
     | _=> none
   | none=> none
 | none=> none
def Q3Y (c:CF) (a b:Code) (k:List Item) (H:Qap) (n:Nat):Option Value->Option FS
 | some (.bool t)=> qGo c (.code (bif t then a else b)::k) H n
 | _=> none
def Q0A (c:CF) (H:Qap) (n:Nat) (j:Code):Option (List Item)->Option FS
 | some k'=> qGo c k' H n
 | none=> Qhb c H n (some j)
def Qo8 (P:Program) (F:FuncId->Bool) (orc:Orc) (rec:CF->Qap->Nat->Option Rs) (c:CF) (k:List Item) (H:Qap) (n:Nat):Code->Option FS
 | .ret=> Qhb c H n (some .ret)
 | .skip=> qGo c k H n
 | .label _=> qGo c k H n
 | .seq a b=> qGo c (.code a::.code b::k) H n
 | .cond x a b=> Q3Y c a b k H n (evC c.tmps x)
 | .block id b=> qGo c (.code b::.inBlock id::k) H n
 | .loop b=> qGo c (.code b::.inLoop b::k) H n
 | .scope b=> qGo c (.code b::.inScope b::k) H n
 | .exit id=> Q0A c H n (.exit id) (exitTo id k)
 | .goto l=> Q0A c H n (.goto l) (gotoIn l k)
 | .region _ ops draw=> Q3K c ops draw k (Qhx P F orc rec ops ops.toList c.tmps H n)
 | .rangeFunc f params assign body=> Q0H P F rec c params assign body k H n (evC c.tmps f)
 | _=> none
def Q3b (c:CF) (l:Nat) (k:List Item) (H:Qap) (n:Nat):Option FS:=match Qau H l with
 | some (.loop r)=> bif !(decide (r.state=.busy)) then some (.go {c with todo:=(r.pending.map Item.code).toList++k} (QfN H l (.loop {r with state:=.exhausted})) n [l] [l]) else none
 | _=> none
def Q2z (c:CF) (k:List Item) (H:Qap) (n:Nat):Option FS:=match c.roundOf with
 | some l=> match Qau H l with
   | some (.loop r)=> bif decide (r.state=.ready) then some (.go {c with todo:=k} (QfN H l (.loop {r with state:=.busy})) n [l] [l]) else none
   | _=> none
 | none=> none
def Qqj (P:Program) (F:FuncId->Bool) (orc:Orc) (rec:CF->Qap->Nat->Option Rs) (c:CF) (k:List Item) (H:Qap) (n:Nat):Item->Option FS
 | .code cd=> Qo8 P F orc rec c k H n cd
 | .inBlock _=> qGo c k H n
 | .inScope _=> qGo c k H n
 | .inLoop b=> qGo c (.code b::.inLoop b::k) H n
 | .endRangeFunc l=> Q3b c l k H n
 | .beginRound=> Q2z c k H n
 | _=> none
def Q4u (P:Program) (c:CF) (H:Qap) (n:Nat):Option FS:=match c.defers with
 | d::ds=> match Qau H d with
   | some (.deferred (some []))=> some (.go {c with defers:=ds} (QfN H d (.deferred none)) n [d] [d])
   | _=> none
 | []=> match c.mode with
   | .pan v=> bif Q3C P c.fn then some (.done (.pan v) H n [] []) else none
   | _=> match c.roundOf,QxD P c.fn H c.tmps with
     | none,some (v,R)=> some (.done (.ret v) H n R [])
     | _,_=> none
def QmU (P:Program) (F:FuncId->Bool) (orc:Orc) (rec:CF->Qap->Nat->Option Rs) (c:CF) (H:Qap) (n:Nat):Option FS:=
 match c.mode with
 | .run=> match c.todo with
   | []=> Qhb c H n none
   | it::k=> Qqj P F orc rec c k H n it
 | _=> Q4u P c H n
theorem Qxe (P:Program) (F:FuncId->Bool) (orc:Orc) (rec:CF->Qap->Nat->Option Rs) (c:CF) (H:Qap) (n:Nat):QmU P F orc rec c H n=QhV P F orc rec c H n:=by
 obtain ⟨fn,tmps,todo,defers,mode,ro⟩:=c
 unfold QmU QhV
 cases mode with
 | run=>
   cases todo with
   | nil=> rfl
   | cons it k=>
     cases it with
     | code cd=>
       cases cd with
       | region id ops draw=>
         simp only [Qqj,Qo8,QrO]
         cases Qu6 P F orc rec ops ops.toList tmps H n with
         | none=> rfl
         | some x=>
           obtain ⟨recs,fin⟩:=x
           cases fin <;> rfl
       | rangeFunc f ps assign body=>
         simp only [Qqj,Qo8,Q0H]
         cases evC tmps f with
         | none=> rfl
         | some fv=>
           simp only
           cases QdN ⟨fn,tmps,.code (.rangeFunc f ps assign body)::k,defers,.run,ro⟩ H n ps assign body with
           | none=> rfl
           | some x=>
             obtain ⟨H1,l,ds,R1⟩:=x
             simp only
             cases QhX F H1 fv #[.func (.yield l) #[] #[]] with
             | none=> rfl
             | some y=>
               obtain ⟨nx,R2⟩:=y
               cases nx with
               | enter g args=>
                 simp only
                 cases Qcg P g args with
                 | none=> rfl
                 | some c1=>
                   simp only
                   cases rec c1 H1 (l+1) with
                   | none=> rfl
                   | some s=> obtain ⟨o,_,_,_,_⟩:=s;cases o <;> rfl
               | _=> rfl
       | cond x a b=>
         simp only [Qqj,Qo8]
         cases evC tmps x with
         | none=> rfl
         | some v=> cases v <;> rfl
       | exit id=> simp only [Qqj,Qo8];cases exitTo id k <;> rfl
       | goto id=> simp only [Qqj,Qo8];cases gotoIn id k <;> rfl
       | _=> rfl
     | _=> rfl
 | ret=> rfl
 | pan v=> rfl
def QgX (P:Program) (F:FuncId->Bool) (orc:Orc):Nat->Nat->CF->Qap->Nat->List Nat->List Nat->Option Rs
 | 0,_,_,_,_,_,_=> none
 | fuel+1,b,c,H,n,R,W=>
   match QmU P F orc (fun c1 H1 n1=> QgX P F orc fuel n1 c1 H1 n1 [] []) c H n with
   | some (.go c' H' n' R' W')=> QgX P F orc fuel b c' H' n' (Qd2 b R' R) (Qd2 b W' W)
   | some (.done out H' n' R' W')=> some ⟨out,H',n',Qd2 b R' R,Qd2 b W' W⟩
   | none=> none
theorem QnO (P:Program) (F:FuncId->Bool) (orc:Orc):∀(fuel b:Nat) (c:CF) (H:Qap) (n:Nat) (R W:List Nat),QgX P F orc fuel b c H n R W=Qyj P F orc fuel b c H n R W
 | 0,_,_,_,_,_,_=> rfl
 | fuel+1,b,c,H,n,R,W=> by
   simp only [QgX,Qyj,Qxe,QnO P F orc fuel]
   rfl
end Go.CE
