/- CE: the canonical machine again, its cases in small pieces: the kernel evaluates it quicker. -/
import Derived.Test.YtiabgkiccaodmaaGreatZMO03
set_option linter.all false
namespace Go.CE
open Go Go.RowKit

def Q4C (P:Program) (t:TypeId) (H:Qar) (n:Nat):Option CR:=match zeroOf P t with
 | some z=> bif af z then some ⟨.val (Q5Z n),(n,.cells z.cells t (0,0))::H,n+1,[],[]⟩ else none
 | none=> none
def Q8i (t:TypeId) (x:Option Value) (H:Qar) (n:Nat):Option CR:=match x with
 | some v=> some ⟨.val (Q5Z n),(n,.cells v.cells t (0,0))::H,n+1,[],[]⟩
 | none=> none
def Q4v (P:Program) (t:TypeId) (l:Option (List (Nat×Value))) (H:Qar) (n:Nat):Option CR:=match l with
 | some l=> mkPure (Qve P t l) H n
 | none=> none
def Qnc (P:Program) (t:TypeId) (len:Nat) (l:Option (List (Nat×Value))) (H:Qar) (n:Nat):Option CR:=match l with
 | some l=> match Qgi P t len l with
   | some (e,cs,s)=> some ⟨.val (.slice (some ⟨n,0,none⟩) len s),(n,.cells cs e (0,0))::H,n+1,[],[]⟩
   | none=> none
 | none=> none
def Q5j (P:Program) (t:TypeId) (a:Option Value) (H:Qar) (n:Nat):Option CR:=match a with
 | some p=> match Qjx P t H p with
   | some (v,b)=> some ⟨.val v,H,n,[b],[]⟩
   | none=> none
 | none=> none
def QxQ (P:Program) (t:TypeId) (a x:Option Value) (H:Qar) (n:Nat):Option CR:=match a,x with
 | some p,some v=> match QhD P t H v p with
   | some (H',b)=> some ⟨.val undef,H',n,[b],[b]⟩
   | none=> none
 | _,_=> none
def Qjm (P:Program) (s:TypeId) (f:Nat) (x:Option Value) (H:Qar) (n:Nat):Option CR:=match x with
 | some p=> mkPure (QbY P s f p) H n
 | none=> none
def Qyz (P:Program) (s:TypeId) (f:Nat) (x:Option Value) (H:Qar) (n:Nat):Option CR:=match x with
 | some p=> mkPure (Qoi P s f p) H n
 | none=> none
def QjR (P:Program) (t:TypeId) (x i:Option Value) (H:Qar) (n:Nat):Option CR:=match x,i with
 | some v,some k=> mkPure (QeY P t v k) H n
 | _,_=> none
def Q4A (P:Program) (ev:Operand->Option Value) (o:Oper) (t:TypeId) (x i:Option Value) (H:Qar) (n:Nat):Option CR:=match x,i with
 | some (.agg cs),some k=> mkPure (Qu0 P t (.agg cs) k) H n
 | _,_=> mkPure (QeJ P ev o) H n
def QoZ (i:Nat) (x:Option Value) (H:Qar) (n:Nat):Option CR:=match x with
 | some v=> mkPure (Qhv i v) H n
 | none=> none
def Q6M (P:Program) (t:TypeId) (l c:Option Value) (H:Qar) (n:Nat):Option CR:=match l,c with
 | some x,some y=> match Qgh P t x y with
   | some (e,cs,l,s)=> some ⟨.val (.slice (some ⟨n,0,none⟩) l s),(n,.cells cs e (0,0))::H,n+1,[],[]⟩
   | none=> none
 | _,_=> none
def Q6L (P:Program) (ev:Operand->Option Value) (o:Oper) (t:TypeId) (x:Option Value) (lo hi:Option (Option Value)) (H:Qar) (n:Nat):Option CR:=match x,lo,hi with
 | some (.slice (some a) m s),some l,some h=> mkPure (QhA P t (.slice (some a) m s) l h) H n
 | some (.pointer p),some l,some h=> mkPure (QhA P t (.pointer p) l h) H n
 | _,_,_=> mkPure (QeJ P ev o) H n
def QzI (P:Program) (ev:Operand->Option Value) (o:Oper) (t:TypeId) (x:Operand) (lo hi m:Option Operand) (H:Qar) (n:Nat):Option CR:=match m with
 | none=> Q6L P ev o t (ev x) (evo ev lo) (evo ev hi) H n
 | some mx=> match hi with
   | some h=> bif QjW P t (ev x) (evo ev lo) (ev h) (ev mx) then some ⟨.val QrI,H,n,[],[]⟩ else mkPure (QeJ P ev o) H n
   | none=> mkPure (QeJ P ev o) H n
def Qqa (P:Program) (ev:Operand->Option Value) (o:Oper) (fn:Fn) (first captured:Array Operand) (H:Qar) (n:Nat):Option CR:=match fn with
 | .func f=> match Qhd ev first.toList,Qhd ev captured.toList with
   | some xs,some ys=> some ⟨.val (.func (.func f) xs.toArray ys.toArray),H,n,[],[]⟩
   | _,_=> none
 | _=> mkPure (QeJ P ev o) H n
def Qub (P:Program) (ev:Operand->Option Value) (o:Oper) (r:Option Operand) (H:Qar) (n:Nat):Option CR:=match r with
 | none=> some ⟨.val (.map (some n)),(n,.map #[] 0)::H,n+1,[],[]⟩
 | some _=> mkPure (QeJ P ev o) H n
def Q0S (P:Program) (t:TypeId) (ok:Bool) (x k:Option Value) (H:Qar) (n:Nat):Option CR:=match x,k with
 | some m,some kv=> match QmU P t H ok m kv with
   | some (v,R)=> some ⟨.val v,H,n,R,[]⟩
   | none=> none
 | _,_=> none
def QnV (P:Program) (t:TypeId) (m k x:Option Value) (H:Qar) (n:Nat):Option CR:=match m,k,x with
 | some mv,some kv,some v=> match QeM P t H mv kv v with
   | some (H',b)=> some ⟨.val undef,H',n,[b],[b]⟩
   | none=> none
 | _,_,_=> none
def Q8f (P:Program) (ev:Operand->Option Value) (o:Oper) (op:BinOp) (x y:Option Value) (H:Qar) (n:Nat):Option CR:=match x,y with
 | some a,some b=> match Q5B op a b with
   | some v=> some ⟨.val v,H,n,[],[]⟩
   | none=> mkPure (QeJ P ev o) H n
 | _,_=> none
def Q8p (x:Option Value) (H:Qar) (n:Nat):Option CR:=match x with
 | some (.pointer (some a))=> some ⟨.val (.pointer (some a)),H,n,[],[]⟩
 | some (.func (.func f) xs ys)=> some ⟨.val (.func (.func f) xs ys),H,n,[],[]⟩
 | some (.func (.yield f) xs ys)=> some ⟨.val (.func (.yield f) xs ys),H,n,[],[]⟩
 | _=> none
def Q7L (F:FuncId->Bool) (f:Option Value) (args:Option (List Value)) (H:Qar) (n:Nat):Option CR:=match f,args with
 | some fv,some args=> match QiH F H fv args.toArray with
   | some (nx,R)=> some ⟨nx,H,n,R,[]⟩
   | none=> none
 | _,_=> none
def Q5y (P:Program) (ev:Operand->Option Value) (c:Call) (H:Qar) (n:Nat):Option CR:=match c.args.toList,c.argTypes.toList with
 | [s,x],[t,t']=> match ev s,ev x with
   | some sv,some xv=> Q6o P t t' H n sv xv
   | _,_=> none
 | _,_=> none
def Q80 (P:Program) (ev:Operand->Option Value) (o:Oper) (c:Call) (H:Qar) (n:Nat):Option CR:=match c.args.toList,c.argTypes.toList with
 | [x],[t]=> match ev x,und P t with
   | some (.slice (some _) m _),some (.slice _)=> some ⟨.val (.int .i64 m),H,n,[],[]⟩
   | some (.chan (some 0)),some (.slice _)=> some ⟨.val (.int .i64 0),H,n,[],[]⟩
   | _,_=> mkPure (QeJ P ev o) H n
 | _,_=> none
def Q7F (P:Program) (ev:Operand->Option Value) (c:Call) (H:Qar) (n:Nat):Option CR:=match c.args.toList,c.argTypes.toList with
 | [s,x],[t,_]=> match ev s,ev x with
   | some sv,some xv=> QsA P t H n sv xv
   | _,_=> none
 | _,_=> none
def Q3S (P:Program) (ev:Operand->Option Value) (o:Oper) (c:Call) (b:Builtin) (H:Qar) (n:Nat):Option CR:=match b with
 | .append=> Q5y P ev c H n
 | .len=> Q80 P ev o c H n
 | .copy=> Q7F P ev c H n
 | _=> mkPure (QeJ P ev o) H n
def Ql5 (P:Program) (F:FuncId->Bool) (ev:Operand->Option Value) (o:Oper) (c:Call) (H:Qar) (n:Nat):Option CR:=match c.callee with
 | .builtin b=> Q3S P ev o c b H n
 | .value f=> Q7L F (ev f) (Qhd ev c.args.toList) H n
 | _=> none
def Q7C (P:Program) (F:FuncId->Bool) (ev:Operand->Option Value) (o:Oper) (H:Qar) (n:Nat):Option CR:=
 match o.op with
 | .move x=> mkPure (ev x) H n
 | .assign x=> mkPure (ev x) H n
 | .pick c a b=> match ev c with
   | some (.bool t)=> mkPure (ev (bif t then a else b)) H n
   | _=> none
 | .alloc t=> Q4C P t H n
 | .box t x=> Q8i t (ev x) H n
 | .build t ps=> Q4v P t (partsOf ev ps.toList) H n
 | .buildSlice t len ps=> Qnc P t len (partsOf ev ps.toList) H n
 | .load t a=> Q5j P t (ev a) H n
 | .store t a x=> QxQ P t (ev a) (ev x) H n
 | .fieldAddr s x f=> Qjm P s f (ev x) H n
 | .field t x f=> Qyz P t f (ev x) H n
 | .indexAddr t x i=> QjR P t (ev x) (ev i) H n
 | .index t x i=> Q4A P ev o t (ev x) (ev i) H n
 | .extract x i=> QoZ i (ev x) H n
 | .makeSlice t l c=> Q6M P t (ev l) (ev c) H n
 | .slice t x lo hi m=> QzI P ev o t x lo hi m H n
 | .makeFunc fn first captured=> Qqa P ev o fn first captured H n
 | .makeMap _ r=> Qub P ev o r H n
 | .lookup t x k ok=> Q0S P t ok (ev x) (ev k) H n
 | .mapUpdate t m k x=> QnV P t (ev m) (ev k) (ev x) H n
 | .binOp op _ x y _=> Q8f P ev o op (ev x) (ev y) H n
 | .nilCheck x=> Q8p (ev x) H n
 | .call c=> Ql5 P F ev o c H n
 | _=> mkPure (QeJ P ev o) H n
theorem Q4T (P:Program) (F:FuncId->Bool) (ev:Operand->Option Value) (o:Oper) (H:Qar) (n:Nat):Q7C P F ev o H n=cop P F ev o H n:=by
 unfold Q7C cop;cases o.op with
 | slice t x lo hi m=> cases m <;> cases hi <;> rfl
 | makeFunc fn a b=> cases fn <;> rfl
 | makeMap t r=> cases r <;> rfl
 | call c=>
   simp only [Ql5];cases c.callee with
   | builtin b=> cases b <;> rfl
   | value f=> rfl
   | invoke a b=> rfl
 | _=> rfl
def Q5F (r:CR) (s:Rs):Option Rs:=match Qf4 r.H s with
 | s=> some ⟨s.out,s.H,s.n,r.R++s.R,r.W++s.W⟩
def Q8b (P:Program) (rec:CF->Qar->Nat->Option Rs) (g:FuncId) (args:Array Value) (r:CR):Option Rs:=match Qc7 P g args with
 | some c=> match rec c r.H r.n with
   | some s=> Q5F r s
   | none=> none
 | none=> none
def Quo (P:Program) (orc:Orc) (rec:CF->Qar->Nat->Option Rs) (g:FuncId) (args:Array Value) (r:CR):Option Rs:=match orc g args r.H r.n with
 | some s=> some ⟨s.out,s.H,s.n,r.R++s.R,r.W++s.W⟩
 | none=> Q8b P rec g args r
def Q75 (rec:CF->Qar->Nat->Option Rs) (l:Nat) (fn:FuncId) (tm:Array Value) (a b:Code) (r:CR):Option Rs:=bif Nat.ble tm.size 16000 then match rec ⟨fn,ofList tm.size tm.toList,[.code a,.beginRound,.code b],[],.run,some l⟩ r.H r.n with
 | some s=> some ⟨s.out,s.H,s.n,r.R++s.R,r.W++s.W⟩
 | none=> none
 else none
def Q2D (P:Program) (orc:Orc) (rec:CF->Qar->Nat->Option Rs) (r:CR):Option Rs:=match r.nx with
 | .val v=> some ⟨.ret v,r.H,r.n,r.R,r.W⟩
 | .enter g args=> Quo P orc rec g args r
 | .round l fn tm a b=> Q75 rec l fn tm a b r
def qR (P:Program) (orc:Orc) (rec:CF->Qar->Nat->Option Rs) (n:Nat) (x:Option CR):Option Rs:=match x with
 | some r=> bif r.R.all (fun i=> Nat.blt i n) then Q2D P orc rec r else none
 | none=> none
def Q6q (v:Option Value) (H:Qar) (n:Nat):Option Rs:=match v with
 | some (.iface t v)=> some ⟨.pan (.iface t v),H,n,[],[]⟩
 | _=> none
def QyH:Op->Nat
 | .defer _=> 1
 | .panic _=> 2
 | _=> 0
def qV (v:Option Value) (H:Qar) (n:Nat):Option Rs:=match v with
 | some v=> some ⟨.ret v,H,n,[],[]⟩
 | none=> none
def opQ (P:Program) (F:FuncId->Bool) (orc:Orc) (rec:CF->Qar->Nat->Option Rs) (T:Tm) (o:Oper) (H:Qar) (n:Nat):Option Rs:=
 match o.op with
 | .move x=> qV (evC T x) H n
 | .assign x=> qV (evC T x) H n
 | .pick c a b=> match evC T c with
   | some (.bool t)=> qV (evC T (bif t then a else b)) H n
   | _=> none
 | .alloc t=> qR P orc rec n (Q4C P t H n)
 | .box t x=> qR P orc rec n (Q8i t (evC T x) H n)
 | .build t ps=> qR P orc rec n (Q4v P t (partsOf (evC T) ps.toList) H n)
 | .buildSlice t len ps=> qR P orc rec n (Qnc P t len (partsOf (evC T) ps.toList) H n)
 | .load t a=> qR P orc rec n (Q5j P t (evC T a) H n)
 | .store t a x=> qR P orc rec n (QxQ P t (evC T a) (evC T x) H n)
 | .fieldAddr s x f=> qR P orc rec n (Qjm P s f (evC T x) H n)
 | .field t x f=> qR P orc rec n (Qyz P t f (evC T x) H n)
 | .indexAddr t x i=> qR P orc rec n (QjR P t (evC T x) (evC T i) H n)
 | .index t x i=> qR P orc rec n (Q4A P (evC T) o t (evC T x) (evC T i) H n)
 | .extract x i=> qR P orc rec n (QoZ i (evC T x) H n)
 | .makeSlice t l c=> qR P orc rec n (Q6M P t (evC T l) (evC T c) H n)
 | .slice t x lo hi m=> qR P orc rec n (QzI P (evC T) o t x lo hi m H n)
 | .makeFunc fn first captured=> qR P orc rec n (Qqa P (evC T) o fn first captured H n)
 | .makeMap _ r=> qR P orc rec n (Qub P (evC T) o r H n)
 | .lookup t x k ok=> qR P orc rec n (Q0S P t ok (evC T x) (evC T k) H n)
 | .mapUpdate t m k x=> qR P orc rec n (QnV P t (evC T m) (evC T k) (evC T x) H n)
 | .binOp op _ x y _=> qR P orc rec n (Q8f P (evC T) o op (evC T x) (evC T y) H n)
 | .nilCheck x=> qR P orc rec n (Q8p (evC T x) H n)
 | .call c=> qR P orc rec n (Ql5 P F (evC T) o c H n)
 | .defer _=> none
 | .panic x=> Q6q (evC T x) H n
 | _=> qR P orc rec n (mkPure (QeJ P (evC T) o) H n)
theorem Q7O {P:Program} {F:FuncId->Bool} {orc:Orc} {rec:CF->Qar->Nat->Option Rs} {T:Tm} {o:Oper} {H:Qar} {n:Nat} (h1:∀c,o.op≠.defer c) (h2:∀x,o.op≠.panic x):opS P F orc rec T o H n=qR P orc rec n (Q7C P F (evC T) o H n):=by
 rw [Q4T];unfold opS;split
 ·rename_i c h;exact absurd h (h1 c)
 ·rename_i x h;exact absurd h (h2 x)
 ·unfold Qng;cases cop P F (evC T) o H n with
  | none=> rfl
  | some r=>
    simp only [qR];cases r.R.all (fun i=> Nat.blt i n) with
    | false=> rfl
    | true=>
      simp only [cond_true,Q2D];cases r.nx <;> rfl
theorem Qg2 {P:Program} {orc:Orc} {rec:CF->Qar->Nat->Option Rs} {H:Qar} {n:Nat} (v:Option Value):qR P orc rec n (mkPure v H n)=qV v H n:=by cases v <;> rfl
theorem Q72 (P:Program) (F:FuncId->Bool) (orc:Orc) (rec:CF->Qar->Nat->Option Rs) (T:Tm) (o:Oper) (H:Qar) (n:Nat):opQ P F orc rec T o H n=opS P F orc rec T o H n:=by
 cases hs:QyH o.op with
 | succ k=>
   unfold opQ opS;generalize o.op=p at hs;cases p <;> first | (simp [QyH] at hs;done) | rfl
 | zero=>
   rw [Q7O (by intro c h;rw [h] at hs;cases hs) (by intro c h;rw [h] at hs;cases hs)];unfold opQ Q7C;generalize hp:o.op=p at hs;cases p with
   | move x=> exact (Qg2 _).symm
   | assign x=> exact (Qg2 _).symm
   | pick c a b=>
     simp only;split
     ·exact (Qg2 _).symm
     ·rfl
   | defer c=> cases hs
   | panic c=> cases hs
   | _=> rfl
def QhI (P:Program) (F:FuncId->Bool) (orc:Orc) (rec:CF->Qar->Nat->Option Rs) (ops:Array Oper):List Oper->Tm->Qar->Nat->Option (List Rec×RF)
 | [],T,H,n=> some ([],.ok T H n)
 | o::l,T,H,n=>
   bif Qiy T o.dst then
    bif Region.wanted o (Qbs ops T) then
     match opQ P F orc rec T o H n with
     | some s=> match s.out with
       | .ret v=> match QhI P F orc rec ops l (Qgy T o.dst v) s.H s.n with
         | some (rs,fin)=> some (⟨o,true,v,T,H,s.H,n,s.n,s.R,s.W⟩::rs,fin)
         | none=> none
       | .pan v=> some ([],.pan T v s.H s.n s.R s.W)
     | none=> none
    else match QhI P F orc rec ops l (Qgy T o.dst undef) H n with
     | some (rs,fin)=> some (⟨o,false,undef,T,H,H,n,n,[],[]⟩::rs,fin)
     | none=> none
   else none
theorem QuK (P:Program) (F:FuncId->Bool) (orc:Orc) (rec:CF->Qar->Nat->Option Rs) (ops:Array Oper):∀(l:List Oper) (T:Tm) (H:Qar) (n:Nat),QhI P F orc rec ops l T H n=QvT P F orc rec ops l T H n
 | [],_,_,_=> rfl
 | o::l,T,H,n=> by simp only [QhI,QvT,Q72,QuK P F orc rec ops l];rfl
def qGo (c:CF) (k:List Item) (H:Qar) (n:Nat):Option FS:=some (.go {c with todo:=k} H n [] [])
def Q7I (c:CF) (ops:Array Oper) (draw:Bool) (k:List Item):Option (List Rec×RF)->Option FS
 | some (recs,.ok T' H' n')=> bif !draw || (Qd1 0 ops.toList && indep ops 0 recs (QnF ops.toList [])) then some (.go {c with tmps:=T',todo:=k} H' n' (Qnr recs) (QiL recs)) else none
 | some (recs,.pan T' v H' n' R W)=> bif draw then none else some (.go {c with tmps:=T',mode:=.pan v} H' n' (Qnr recs++R) (QiL recs++W))
 | none=> none
def Q5r (c:CF) (k:List Item) (l:Nat) (ds R1 R2:List Nat):Option Rs->Option FS
 | some s=> match s.out with
   | .ret _=> some (.go {c with todo:=.endRangeFunc l::k,defers:=ds++c.defers} s.H s.n (R1++R2++s.R) s.W)
   | .pan v=> some (.go {c with mode:=.pan v,defers:=ds++c.defers} s.H s.n (R1++R2++s.R) s.W)
 | none=> none
def Q43 (P:Program) (F:FuncId->Bool) (rec:CF->Qar->Nat->Option Rs) (c:CF) (params:Array Tmp) (assign body:Code) (k:List Item) (H:Qar) (n:Nat):Option Value->Option FS
 | some fv=> match Qeu c H n params assign body with
   | some (H1,l,ds,R1)=> match QiH F H1 fv #[.func (.yield l) #[] #[]] with
     | some (.enter g args,R2)=> match Qc7 P g args with
       | some c1=> Q5r c k l ds R1 R2 (rec c1 H1 (l+1))
       | none=> none
     | _=> none
   | none=> none
 | none=> none
def Q7X (c:CF) (a b:Code) (k:List Item) (H:Qar) (n:Nat):Option Value->Option FS
 | some (.bool t)=> qGo c (.code (bif t then a else b)::k) H n
 | _=> none
def Q4r (c:CF) (H:Qar) (n:Nat) (j:Code):Option (List Item)->Option FS
 | some k'=> qGo c k' H n
 | none=> Qh6 c H n (some j)
def Qr6 (P:Program) (F:FuncId->Bool) (orc:Orc) (rec:CF->Qar->Nat->Option Rs) (c:CF) (k:List Item) (H:Qar) (n:Nat):Code->Option FS
 | .ret=> Qh6 c H n (some .ret)
 | .skip=> qGo c k H n
 | .label _=> qGo c k H n
 | .seq a b=> qGo c (.code a::.code b::k) H n
 | .cond x a b=> Q7X c a b k H n (evC c.tmps x)
 | .block id b=> qGo c (.code b::.inBlock id::k) H n
 | .loop b=> qGo c (.code b::.inLoop b::k) H n
 | .scope b=> qGo c (.code b::.inScope b::k) H n
 | .exit id=> Q4r c H n (.exit id) (exitTo id k)
 | .goto l=> Q4r c H n (.goto l) (gotoIn l k)
 | .region _ ops draw=> Q7I c ops draw k (QhI P F orc rec ops ops.toList c.tmps H n)
 | .rangeFunc f params assign body=> Q43 P F rec c params assign body k H n (evC c.tmps f)
 | _=> none
def Q66 (c:CF) (l:Nat) (k:List Item) (H:Qar) (n:Nat):Option FS:=match Qaw H l with
 | some (.loop r)=> bif !(decide (r.state=.busy)) then some (.go {c with todo:=(r.pending.map Item.code).toList++k} (Qgr H l (.loop {r with state:=.exhausted})) n [l] [l]) else none
 | _=> none
def Q6T (c:CF) (k:List Item) (H:Qar) (n:Nat):Option FS:=match c.roundOf with
 | some l=> match Qaw H l with
   | some (.loop r)=> bif decide (r.state=.ready) then some (.go {c with todo:=k} (Qgr H l (.loop {r with state:=.busy})) n [l] [l]) else none
   | _=> none
 | none=> none
def QqX (P:Program) (F:FuncId->Bool) (orc:Orc) (rec:CF->Qar->Nat->Option Rs) (c:CF) (k:List Item) (H:Qar) (n:Nat):Item->Option FS
 | .code cd=> Qr6 P F orc rec c k H n cd
 | .inBlock _=> qGo c k H n
 | .inScope _=> qGo c k H n
 | .inLoop b=> qGo c (.code b::.inLoop b::k) H n
 | .endRangeFunc l=> Q66 c l k H n
 | .beginRound=> Q6T c k H n
 | _=> none
def Q8y (P:Program) (c:CF) (H:Qar) (n:Nat):Option FS:=match c.defers with
 | d::ds=> match Qaw H d with
   | some (.deferred (some []))=> some (.go {c with defers:=ds} (Qgr H d (.deferred none)) n [d] [d])
   | _=> none
 | []=> match c.mode with
   | .pan v=> bif Q7A P c.fn then some (.done (.pan v) H n [] []) else none
   | _=> match c.roundOf,Q0m P c.fn H c.tmps with
     | none,some (v,R)=> some (.done (.ret v) H n R [])
     | _,_=> none
def Qof (P:Program) (F:FuncId->Bool) (orc:Orc) (rec:CF->Qar->Nat->Option Rs) (c:CF) (H:Qar) (n:Nat):Option FS:=
 match c.mode with
 | .run=> match c.todo with
   | []=> Qh6 c H n none
   | it::k=> QqX P F orc rec c k H n it
 | _=> Q8y P c H n
theorem QyQ (P:Program) (F:FuncId->Bool) (orc:Orc) (rec:CF->Qar->Nat->Option Rs) (c:CF) (H:Qar) (n:Nat):Qof P F orc rec c H n=Qiw P F orc rec c H n:=by
 obtain ⟨fn,tmps,todo,defers,mode,ro⟩:=c;unfold Qof Qiw;cases mode with
 | run=>
   cases todo with
   | nil=> rfl
   | cons it k=>
     cases it with
     | code cd=>
       cases cd with
       | region id ops draw=>
         simp only [QqX,Qr6,QuK];cases QvT P F orc rec ops ops.toList tmps H n with
         | none=> rfl
         | some x=>
           obtain ⟨recs,fin⟩:=x;cases fin <;> rfl
       | rangeFunc f ps assign body=>
         simp only [QqX,Qr6,Q43];cases evC tmps f with
         | none=> rfl
         | some fv=>
           simp only;cases Qeu ⟨fn,tmps,.code (.rangeFunc f ps assign body)::k,defers,.run,ro⟩ H n ps assign body with
           | none=> rfl
           | some x=>
             obtain ⟨H1,l,ds,R1⟩:=x;simp only;cases QiH F H1 fv #[.func (.yield l) #[] #[]] with
             | none=> rfl
             | some y=>
               obtain ⟨nx,R2⟩:=y;cases nx with
               | enter g args=>
                 simp only;cases Qc7 P g args with
                 | none=> rfl
                 | some c1=>
                   simp only;cases rec c1 H1 (l+1) with
                   | none=> rfl
                   | some s=> obtain ⟨o,_,_,_,_⟩:=s;cases o <;> rfl
               | _=> rfl
       | cond x a b=>
         simp only [QqX,Qr6];cases evC tmps x with
         | none=> rfl
         | some v=> cases v <;> rfl
       | exit id=> simp only [QqX,Qr6];cases exitTo id k <;> rfl
       | goto id=> simp only [QqX,Qr6];cases gotoIn id k <;> rfl
       | _=> rfl
     | _=> rfl
 | ret=> rfl
 | pan v=> rfl
def Qh1 (P:Program) (F:FuncId->Bool) (orc:Orc):Nat->Nat->CF->Qar->Nat->List Nat->List Nat->Option Rs
 | 0,_,_,_,_,_,_=> none
 | fuel+1,b,c,H,n,R,W=>
   match Qof P F orc (fun c1 H1 n1=> Qh1 P F orc fuel n1 c1 H1 n1 [] []) c H n with
   | some (.go c' H' n' R' W')=> Qh1 P F orc fuel b c' H' n' (Qeb b R' R) (Qeb b W' W)
   | some (.done out H' n' R' W')=> some ⟨out,H',n',Qeb b R' R,Qeb b W' W⟩
   | none=> none
theorem QpJ (P:Program) (F:FuncId->Bool) (orc:Orc):∀(fuel b:Nat) (c:CF) (H:Qar) (n:Nat) (R W:List Nat),Qh1 P F orc fuel b c H n R W=Q1Z P F orc fuel b c H n R W
 | 0,_,_,_,_,_,_=> rfl
 | fuel+1,b,c,H,n,R,W=> by
   simp only [Qh1,Q1Z,QyQ,QpJ P F orc fuel];rfl
end Go.CE
